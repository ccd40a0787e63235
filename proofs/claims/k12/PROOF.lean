import PyProof.Rows.All
import Wide.All
import OpenK.AllK
import Wide.FinOn
import PyProof.EqAt
import PyProof.EqKinds
import PyProof.TupleCall
import PySem.Challenge.RW_widekind_k12_lines_read_or_refused
-- CHANGE: your row's module here, as the last of these rows
set_option Elab.async false
set_option linter.all false
set_option maxRecDepth 100000
/-! THE HAND LAYER, for ints, bools, texts, own classes, LISTS and tuples (index, slices, in, append, pop ..), calls, loops. Paste it whole ahead of your own text; what your proof does not reach may be deleted. -/
namespace L2
open PySem PySem.Spec PyProof.Rows

/-- a key: an int or a str -/
abbrev Key := Sum Int Str
def keyIs : Key → Value → Bool
  | .inl k, v => Value.isInt k v
  | .inr x, v => Value.isStrOf x v
def keyH (w : World) : Key → Int
  | .inl k => hashInt k
  | .inr x => hashStr w x
theorem keyIs_shape : ∀ {k : Key} {v : Value}, keyIs k v = true → (∃ i t, k = Sum.inl i ∧ v = Value.int i t) ∨ (∃ x t, k = Sum.inr x ∧ v = Value.str x t)
  | .inl i, v, h => by
    obtain ⟨t, e⟩ := Value.isInt_shape (k := i) (v := v) h
    exact .inl ⟨i, t, rfl, e⟩
  | .inr x, v, h => by
    obtain ⟨t, e⟩ := Value.isStrOf_shape (x := x) (v := v) h
    exact .inr ⟨x, t, rfl, e⟩
theorem keyIs_int (i : Int) (t : Tok) : keyIs (.inl i) (.int i t) = true := by simp [keyIs, Value.isInt]
theorem keyIs_str (x : Str) (t : Tok) : keyIs (.inr x) (.str x t) = true := by simp [keyIs, Value.isStrOf]
theorem key_ll (a b : Int) : decide ((Sum.inl a : Key) = Sum.inl b) = (a == b) := by
  by_cases e : a = b
  · subst e; simp
  · have h : ¬ (Sum.inl a : Key) = Sum.inl b := fun q => e (Sum.inl.inj q)
    rw [decide_eq_false h]
    exact (beq_eq_false_iff_ne.mpr e).symm
theorem key_rr (a b : Str) : decide ((Sum.inr a : Key) = Sum.inr b) = decide (a = b) := by
  by_cases e : a = b
  · subst e; simp
  · have h : ¬ (Sum.inr a : Key) = Sum.inr b := fun q => e (Sum.inr.inj q)
    rw [decide_eq_false h, decide_eq_false e]
theorem key_lr (a : Int) (b : Str) : decide ((Sum.inl a : Key) = Sum.inr b) = false := decide_eq_false (fun q => nomatch q)
theorem key_rl (a : Str) (b : Int) : decide ((Sum.inr a : Key) = Sum.inl b) = false := decide_eq_false (fun q => nomatch q)

def mixKind (prog : Program) (w : World) : PySem.KeyKind prog w Key where
  is := keyIs
  hash := keyH w
  inj := fun v a b ha hb => by
    rcases keyIs_shape ha with ⟨i, t, rfl, rfl⟩ | ⟨x, t, rfl, rfl⟩
    · rcases keyIs_shape hb with ⟨j, u, rfl, e⟩ | ⟨y, u, rfl, e⟩
      · injection e with e1 _; rw [e1]
      · exact nomatch e
    · rcases keyIs_shape hb with ⟨j, u, rfl, e⟩ | ⟨y, u, rfl, e⟩
      · exact nomatch e
      · injection e with e1 _; rw [e1]
  byValue := fun k v h => by
    rcases keyIs_shape h with ⟨i, t, rfl, rfl⟩ | ⟨x, t, rfl, rfl⟩ <;> rfl
  pyHash := fun hv h => by
    rcases keyIs_shape hv with ⟨i, t, rfl, rfl⟩ | ⟨x, t, rfl, rfl⟩
    · exact wpAny_pyHash_int h
    · exact wpAny_pyHash_str h
  eqBool := fun hu hv h => by
    rcases keyIs_shape hu with ⟨i, t, rfl, rfl⟩ | ⟨x, t, rfl, rfl⟩
    · rcases keyIs_shape hv with ⟨j, u, rfl, rfl⟩ | ⟨y, u, rfl, rfl⟩
      · rw [key_ll] at h; exact wpAny_eqBool_int h
      · rw [key_lr] at h; exact SeqAt.EqAt.int_str i t y u _ _ _ _ h
    · rcases keyIs_shape hv with ⟨j, u, rfl, rfl⟩ | ⟨y, u, rfl, rfl⟩
      · rw [key_rl] at h; exact SeqAt.EqAt.str_int x t j u _ _ _ _ h
      · rw [key_rr] at h; exact wpAny_eqBool_str h
  «strs» := fun k x t v h => by
    rcases keyIs_shape h with ⟨i, u, rfl, e⟩ | ⟨y, u, rfl, e⟩
    · exact nomatch e
    · injection e with e1 _
      subst e1
      cases v <;> rfl

theorem mixKind_is (prog : Program) (w : World) (k : Key) (v : Value) : (mixKind prog w).is k v = keyIs k v := rfl
theorem mixKind_int (prog : Program) (w : World) (i : Int) (t : Tok) : (mixKind prog w).is (.inl i) (.int i t) = true := keyIs_int i t
theorem mixKind_str (prog : Program) (w : World) (x : Str) (t : Tok) : (mixKind prog w).is (.inr x) (.str x t) = true := keyIs_str x t
end L2

namespace L2
open PySem PySem.Spec PyProof.Rows

/-- a value, without the heap -/
inductive V where
  | non | bl (b : Bool) | int (i : Int) | str (x : Str) | byt (b : Array UInt8) | flt (b : UInt64) | ref (a : Addr) | ty (n : String)
  deriving DecidableEq

def RelV : V → Value → Prop
  | .non, u => u = Value.none
  | .bl b, u => u = Value.bool b
  | .int i, u => ∃ t, u = Value.int i t
  | .str x, u => ∃ t, u = Value.str x t
  | .byt b, u => ∃ t, u = Value.bytes b t
  | .flt b, u => ∃ t, u = Value.float b t
  | .ref a, u => u = Value.ref a
  | .ty n, u => u = Value.type n

abbrev Vals : List V → List Value → Prop := Paired RelV
theorem Vals.length {xs : List V} {us : List Value} (r : Vals xs us) : xs.length = us.length := Paired.length r
theorem Vals.get : ∀ {xs : List V} {us : List Value} {i : Nat} {x : V}, Vals xs us → xs[i]? = some x → ∃ u, us[i]? = some u ∧ RelV x u
  | _, _, _, _, .nil, e => by simp at e
  | _, _, 0, _, .cons r _, e => by simp at e; subst e; exact ⟨_, rfl, r⟩
  | _, _, i + 1, x, .cons _ t, e => by
    obtain ⟨u, h1, h2⟩ := Vals.get (i := i) (x := x) t (by simpa using e)
    exact ⟨u, by simpa using h1, h2⟩
theorem Vals.set {x : V} {u : Value} (r : RelV x u) : ∀ {xs : List V} {us : List Value} (i : Nat), Vals xs us → Vals (xs.set i x) (us.set i u)
  | _, _, _, .nil => .nil
  | _, _, 0, .cons _ t => .cons r t
  | _, _, i + 1, .cons q t => .cons q (Vals.set r i t)
theorem Vals.append : ∀ {xs ys : List V} {us ws : List Value}, Vals xs us → Vals ys ws → Vals (xs ++ ys) (us ++ ws)
  | _, _, _, _, .nil, s => s
  | _, _, _, _, .cons r t, s => .cons r (Vals.append t s)
theorem Vals.take : ∀ {xs : List V} {us : List Value} (n : Nat), Vals xs us → Vals (xs.take n) (us.take n)
  | _, _, 0, _ => .nil
  | _, _, _ + 1, .nil => .nil
  | _, _, n + 1, .cons r t => .cons r (Vals.take n t)
theorem Vals.drop : ∀ {xs : List V} {us : List Value} (n : Nat), Vals xs us → Vals (xs.drop n) (us.drop n)
  | _, _, 0, r => r
  | _, _, _ + 1, .nil => .nil
  | _, _, n + 1, .cons _ t => Vals.drop n t
theorem Vals.none_of : ∀ {xs : List V} {us : List Value} {i : Nat}, Vals xs us → xs[i]? = none → us[i]? = none := fun {xs us i} r e => by
  have h1 := r.length
  have h2 : xs.length ≤ i := List.getElem?_eq_none_iff.mp e
  exact List.getElem?_eq_none_iff.mpr (by omega)

def RelO : Option V → Option Value → Prop
  | some v, some u => RelV v u
  | none, none => True
  | _, _ => False
def KV {κ : Type} : List (κ × V) → List (κ × Value) → Prop := Paired fun (p : κ × V) (q : κ × Value) => p.1 = q.1 ∧ RelV p.2 q.2

/-- a key of a dict (00_mix): an int or a text -/
def kV : Key → V
  | .inl i => .int i
  | .inr x => .str x

/-- what stands at a tracked address -/
inductive HO where
  /-- a list -/
  | lst (xs : List V)
  /-- a tuple (never changes) -/
  | tup (xs : List V)
  /-- a dict whose keys are ints and texts; one whose keys are tuples of ints and texts (the empty one is both) -/
  | dK (kvs : List (Key × V)) | dT (kvs : List (List Key × V))
  /-- a set of ints: its members, its size -/
  | set (S : Int → Bool) (n : Nat)
  /-- an instance of the class at C, its dict at dx, its attributes -/
  | ins (C dx : Addr) (fs : List (Str × V))
  /-- the dict of the instance at x -/
  | own (x : Addr)
  /-- the dict of an exception -/
  | xd (fs : List (Str × V))
  /-- a bound method, f of x -/
  | met (f x : Addr)
  /-- a range object lo, lo + 1, .. below hi -/
  | rng (lo hi : Int)
  /-- a thing that is known to the object (the script; a dict while a loop walks it): read, never written while it is so -/
  | frz (o : Obj) (u : HO)
  /-- a code object's table -/
  | tbl (ps : Array Value)
  /-- any other thing, by what is true of its one object (a def of one's own: SetO a S n := HO.ext fun h => ..) -/
  | ext (φ : Heap → Prop)

abbrev Hp := Addr → Option HO
def upd (H : Hp) (a : Addr) (o : HO) : Hp := fun b => if b = a then some o else H b
theorem upd_same {H : Hp} {a : Addr} {o : HO} : upd H a o a = some o := by unfold upd; rw [if_pos rfl]
theorem upd_ne {H : Hp} {a b : Addr} {o : HO} (h : b ≠ a) : upd H a o b = H b := by unfold upd; rw [if_neg h]
theorem upd_upd {H : Hp} {a : Addr} {o u : HO} : upd (upd H a o) a u = upd H a u := by
  funext b; unfold upd; split <;> rfl
/-- two objects of different content stand apart -/
theorem ne_of {H : Hp} {a b : Addr} {o u : HO} (h : H a = some o) (h' : H b = some u) (d : o ≠ u) : a ≠ b := by
  intro e; subst e; rw [h] at h'; exact d (Option.some.inj h')
theorem ne_of_none {H : Hp} {a b : Addr} {o : HO} (h : H a = some o) (h' : H b = none) : a ≠ b := by
  intro e; subst e; rw [h] at h'; cases h'

section
variable (P : Program) (w : World)
def ObjOk (H : Hp) (h : Heap) (a : Addr) : HO → Prop
  | .lst xs => xs.length ≤ sizeLine ∧ ∃ (its : List Value) (n : Nat), Vals xs its ∧ h.get? a = some { cls := .type "list", data := .seq its.toArray n }
  | .tup xs => xs.length ≤ sizeLine ∧ ∃ its : List Value, Vals xs its ∧ IsTup h a its.toArray
  | .dK kvs => kvs.length ≤ sizeLine ∧ (a == sysModules) = false ∧ ∃ vs, KV kvs vs ∧ h.DictOf (mixKind P w) a vs
  | .dT kvs => kvs.length ≤ sizeLine ∧ (a == sysModules) = false ∧ ∃ xs : List (List Key × Addr × Value),
      Paired (fun (p : List Key × V) (q : List Key × Addr × Value) => p.1 = q.1 ∧ H q.2.1 = some (.tup (p.1.map kV)) ∧ RelV p.2 q.2.2) kvs xs ∧
      ∃ o es ep, h.get? a = some o ∧ o.ExactDict ∧ o.data = .dict es ep ∧ es.toList = xs.map (entryOfKey (tupleKind (mixKind P w))) ∧ (xs.map (·.1)).Nodup
  | .set S n => h.SetOf (intKind P w) a S n
  | .ins C dx fs => H dx = some (.own a) ∧ fs.length ≤ 1000 ∧ dx ≠ a ∧ h.get? a = some (PySem.W.instObj C dx) ∧
      ∃ mA, h.Ns1 dx mA ∧ (∀ f, RelO (fs.lookup f) (mA f)) ∧ PySem.Within mA (fs.map (·.1))
  | .own _ => ∃ o, h.get? a = some o
  | .xd fs => ∃ mA, h.Ns1 a mA ∧ ∀ f, RelO (fs.lookup f) (mA f)
  | .rng lo hi => ∃ t u v, h.get? a = some { cls := .type "range", data := .fields #[.int lo t, .int hi u, .int 1 v] }
  | .frz o u => h.get? a = some o ∧ ObjOk H h a u
  | .tbl ps => h.get? a = some { cls := .none, data := .fields ps }
  | .met f x => h.get? a = some (PySem.W.methodObj (.ref f) (.ref x))
  | .ext φ => φ h ∧ (∃ o, h.get? a = some o) ∧ ∀ h1 h2 : Heap, φ h1 → (∀ o, h1.get? a = some o → h2.get? a = some o) → φ h2
/-- the abstract heap is held -/
def HOk (H : Hp) (h : Heap) : Prop := ∀ a o, H a = some o → ObjOk P w H h a o
end

section
variable {P : Program} {w : World} {H H' : Hp} {h h' : Heap} {a : Addr} {o : HO}
theorem ObjOk.lt (x : ObjOk P w H h a o) : a < h.objs.size := by
  cases o with
  | lst xs => obtain ⟨_, _, _, _, e⟩ := x; exact Heap.lt_size e
  | tup xs => obtain ⟨_, _, _, p⟩ := x; exact p.lt
  | dK kvs => obtain ⟨_, _, _, _, o, _, _, e, _⟩ := x; exact Heap.lt_size e
  | dT kvs => obtain ⟨_, _, _, _, o, _, _, e, _⟩ := x; exact Heap.lt_size e
  | set S n => obtain ⟨o, _, _, _, e, _⟩ := x; exact Heap.lt_size e
  | ins C dx fs => obtain ⟨_, _, _, e, _⟩ := x; exact Heap.lt_size e
  | own y => obtain ⟨_, e⟩ := x; exact Heap.lt_size e
  | xd fs => obtain ⟨_, ⟨_, _, _, e, _⟩, _⟩ := x; exact Heap.lt_size e
  | rng lo hi => obtain ⟨_, _, _, e⟩ := x; exact Heap.lt_size e
  | frz ob u => obtain ⟨e, _⟩ := x; exact Heap.lt_size e
  | tbl ps => exact Heap.lt_size (show h.get? a = some _ from x)
  | met f y => exact Heap.lt_size (show h.get? a = some _ from x)
  | ext φ => obtain ⟨_, ⟨_, e⟩, _⟩ := x; exact Heap.lt_size e
theorem Paired.mapP {α β : Type} {F G : α → β → Prop} : ∀ {l₁ : List α} {l₂ : List β}, Paired F l₁ l₂ → (∀ a b, F a b → G a b) → Paired G l₁ l₂
  | _, _, .nil, _ => .nil
  | _, _, .cons r t, f => .cons (f _ _ r) (Paired.mapP t f)
theorem Paired.imp' {α β : Type} {F G : α → β → Prop} (f : ∀ a b, F a b → G a b) {l₁ : List α} {l₂ : List β} (r : Paired F l₁ l₂) : Paired G l₁ l₂ := Paired.mapP r f
/-- what an object's description leans on: its own object, its own dict, the tuples -/
theorem ObjOk.stay (x : ObjOk P w H h a o) (k : ∀ b u, (b = a ∨ H b = some (.own a)) → h.get? b = some u → h'.get? b = some u)
    (ho : ∀ b, H b = some (.own a) → H' b = some (.own a)) (ht : ∀ b xs, H b = some (.tup xs) → H' b = some (.tup xs)) : ObjOk P w H' h' a o := by
  induction o with
  | lst xs => obtain ⟨z, its, n, r, e⟩ := x; exact ⟨z, its, n, r, k _ _ (.inl rfl) e⟩
  | tup xs => obtain ⟨z, its, r, ob, e, c⟩ := x; exact ⟨z, its, r, ob, k _ _ (.inl rfl) e, c⟩
  | dK kvs => obtain ⟨z, y, vs, r, ob, es, ep, e, c⟩ := x; exact ⟨z, y, vs, r, ob, es, ep, k _ _ (.inl rfl) e, c⟩
  | dT kvs =>
    obtain ⟨z, y, xs, r, ob, es, ep, e, c⟩ := x
    exact ⟨z, y, xs, Paired.mapP r fun p q z => ⟨z.1, ht _ _ z.2.1, z.2.2⟩, ob, es, ep, k _ _ (.inl rfl) e, c⟩
  | set S n => obtain ⟨ob, es, ep, t, e, c⟩ := x; exact ⟨ob, es, ep, t, k _ _ (.inl rfl) e, c⟩
  | ins C dx fs =>
    obtain ⟨d, z, ne, e, mA, ⟨od, es, ep, e2, c⟩, r⟩ := x
    exact ⟨ho _ d, z, ne, k _ _ (.inl rfl) e, mA, ⟨od, es, ep, k _ _ (.inr d) e2, c⟩, r⟩
  | own y => obtain ⟨ob, e⟩ := x; exact ⟨ob, k _ _ (.inl rfl) e⟩
  | xd fs => obtain ⟨mA, ⟨od, es, ep, e, c⟩, r⟩ := x; exact ⟨mA, ⟨od, es, ep, k _ _ (.inl rfl) e, c⟩, r⟩
  | rng lo hi => obtain ⟨t, u, v, e⟩ := x; exact ⟨t, u, v, k _ _ (.inl rfl) e⟩
  | frz ob u ih => obtain ⟨e, q⟩ := x; exact ⟨k _ _ (.inl rfl) e, ih q⟩
  | tbl ps =>
    have e : h.get? a = some { cls := .none, data := .fields ps } := x
    show h'.get? a = some { cls := .none, data := .fields ps }
    exact k a _ (.inl rfl) e
  | met f y =>
    have e : h.get? a = some (PySem.W.methodObj (.ref f) (.ref y)) := x
    show h'.get? a = some (PySem.W.methodObj (.ref f) (.ref y))
    exact k a _ (.inl rfl) e
  | ext φ => obtain ⟨p, ⟨o, e⟩, st⟩ := x; exact ⟨st _ _ p fun o q => k _ _ (.inl rfl) q, ⟨o, k _ _ (.inl rfl) e⟩, st⟩
theorem HOk.lt (x : HOk P w H h) (e : H a = some o) : a < h.objs.size := (x a o e).lt
theorem HOk.fresh (x : HOk P w H h) (e : h.objs.size ≤ a) : H a = none := by
  cases q : H a with
  | none => rfl
  | some u => exact absurd (Nat.lt_of_lt_of_le (x.lt q) e) (Nat.lt_irrefl _)
/-- every object of the heap is kept -/
theorem HOk.kept (x : HOk P w H h) (k : ∀ b u, h.get? b = some u → h'.get? b = some u) : HOk P w H h' := fun a o e =>
  (x a o e).stay (fun b u _ q => k b u q) (fun _ q => q) fun _ _ q => q
/-- a new object is laid and tracked -/
theorem HOk.laid (x : HOk P w H h) (k : ∀ b u, h.get? b = some u → h'.get? b = some u) (hp : h.objs.size ≤ a) (new : ObjOk P w (upd H a o) h' a o) : HOk P w (upd H a o) h' := fun b u e => by
  have hn := x.fresh hp
  by_cases hb : b = a
  · subst hb; rw [upd_same] at e; cases e; exact new
  · rw [upd_ne hb] at e
    exact (x b u e).stay (fun c v _ q => k c v q) (fun c q => by rw [upd_ne (ne_of_none q hn)]; exact q) fun c xs q => by rw [upd_ne (ne_of_none q hn)]; exact q
end

/-- what may be read as u: it is u, or a known u -/
def Rd (H : Hp) (a : Addr) (u : HO) : Prop := H a = some u ∨ ∃ o, H a = some (.frz o u)
theorem Rd.of {H : Hp} {a : Addr} {u : HO} (h : H a = some u) : Rd H a u := .inl h
theorem Rd.ok {P : Program} {w : World} {H : Hp} {h : Heap} {a : Addr} {u : HO} (r : Rd H a u) (x : HOk P w H h) : ObjOk P w H h a u := by
  rcases r with r | ⟨o, r⟩
  · exact x a u r
  · obtain ⟨_, q⟩ := x a _ r
    exact q
/-- what may be written -/
def Mut : Option HO → Prop
  | some (.lst _) => True
  | some (.dK _) => True
  | some (.dT _) => True
  | some (.set _ _) => True
  | some (.ins _ _ _) => True
  | some (.ext _) => True
  | _ => False
section
variable {P : Program} {w : World} {H : Hp} {h h' : Heap} {x e : Addr} {o' : HO}
/-- the object at e is changed: x itself, or the dict of the instance x -/
theorem HOk.write (ok : HOk P w H h) (mu : Mut (H x)) (he : e = x ∨ H e = some (.own x)) (k : ∀ b u, b ≠ e → h.get? b = some u → h'.get? b = some u) (heo : ∃ u, h'.get? e = some u)
    (new : ObjOk P w (upd H x o') h' x o') : HOk P w (upd H x o') h' := fun b u q => by
  have nown : ∀ c y, H c = some (.own y) → c ≠ x := fun c y r z => by subst z; rw [r] at mu; exact mu
  have ntup : ∀ c xs, H c = some (.tup xs) → c ≠ x := fun c xs r z => by subst z; rw [r] at mu; exact mu
  by_cases hb : b = x
  · subst hb; rw [upd_same] at q; cases q; exact new
  · rw [upd_ne hb] at q
    by_cases hbe : b = e
    · have q' : H b = some (.own x) := by
        rcases he with z | z
        · exact absurd (hbe.trans z) hb
        · rw [hbe]; exact z
      rw [q] at q'; cases q'
      obtain ⟨v, hv⟩ := heo
      exact ⟨v, by rw [hbe]; exact hv⟩
    · refine (ok b u q).stay (fun c v hc r => k c v ?_ r) (fun c r => by rw [upd_ne (nown c b r)]; exact r) fun c xs r => by rw [upd_ne (ntup c xs r)]; exact r
      rcases hc with rfl | hc
      · exact hbe
      · rintro rfl
        rcases he with z | z
        · exact nown c b hc z
        · rw [hc] at z; cases z; exact hb rfl
end

/-! ### kept unless tracked; of the frames at fs (the callers') the slots may change (an exception that passes writes there); of the records at ex (iterators) nothing is said -/
structure Un (fs ex : List Addr) (H H' : Hp) (h h' : Heap) : Prop where
  keep : ∀ b o, h.get? b = some o → H b = none → b ∉ fs → b ∉ ex → h'.get? b = some o
  slot : ∀ b o, h.get? b = some o → H b = none → b ∈ fs → b ∉ ex → ∃ sl, h'.get? b = some { o with slots := sl }
  free : ∀ b o, h.get? b = some o → H b = none → b ∉ ex → H' b = none
  there : ∀ b o, h.get? b = some o → b ∉ ex → ∃ o', h'.get? b = some o'
  tups : ∀ b xs, H b = some (.tup xs) → H' b = some (.tup xs)
  frzs : ∀ b o u, H b = some (.frz o u) → H' b = some (.frz o u)
  tbls : ∀ b ps, H b = some (.tbl ps) → ∃ more, H' b = some (.tbl (ps ++ more))
section
variable {fs fs' ex ex' : List Addr} {H H1 H2 : Hp} {h h1 h2 h' : Heap} {a x e : Addr} {o : HO}
theorem Un.any (u : Un fs ex H H1 h h1) {b : Addr} {ob : Obj} (q : h.get? b = some ob) (n : H b = none) (hx : b ∉ ex) : ∃ sl, h1.get? b = some { ob with slots := sl } := by
  by_cases hb : b ∈ fs
  · exact u.slot b ob q n hb hx
  · exact ⟨ob.slots, u.keep b ob q n hb hx⟩
theorem Un.trans (a : Un fs ex H H1 h h1) (b : Un fs ex H1 H2 h1 h2) : Un fs ex H H2 h h2 where
  keep := fun c ob q n hc hx => b.keep c ob (a.keep c ob q n hc hx) (a.free c ob q n hx) hc hx
  slot := fun c ob q n hc hx => by
    obtain ⟨sl, e1⟩ := a.slot c ob q n hc hx
    obtain ⟨sl', e2⟩ := b.slot c _ e1 (a.free c ob q n hx) hc hx
    exact ⟨sl', e2⟩
  free := fun c ob q n hx => by
    obtain ⟨o', e1⟩ := a.there c ob q hx
    exact b.free c o' e1 (a.free c ob q n hx) hx
  there := fun c ob q hx => by
    obtain ⟨o', e1⟩ := a.there c ob q hx
    exact b.there c o' e1 hx
  tups := fun c xs q => b.tups c xs (a.tups c xs q)
  frzs := fun c ob xs q => b.frzs c ob xs (a.frzs c ob xs q)
  tbls := fun c ps q => by
    obtain ⟨m1, e1⟩ := a.tbls c ps q
    obtain ⟨m2, e2⟩ := b.tbls c _ e1
    exact ⟨m1 ++ m2, by rw [e2, Array.append_assoc]⟩
theorem Un.kept (k : ∀ b u, h.get? b = some u → h'.get? b = some u) : Un fs ex H H h h' :=
  ⟨fun b ob q _ _ _ => k b ob q, fun b ob q _ _ _ => ⟨ob.slots, k b ob q⟩, fun _ _ _ n _ => n, fun b ob q _ => ⟨ob, k b ob q⟩, fun _ _ q => q, fun _ _ _ q => q, fun _ ps q => ⟨#[], by rw [q]; simp⟩⟩
theorem Un.refl : Un fs ex H H h h := Un.kept fun _ _ q => q
theorem Un.laid (k : ∀ b u, h.get? b = some u → h'.get? b = some u) (hp : h.objs.size ≤ a) (hn : H a = none) : Un fs ex H (upd H a o) h h' where
  keep := fun b u q _ _ _ => k b u q
  slot := fun b u q _ _ _ => ⟨u.slots, k b u q⟩
  free := fun b u q n _ => by rw [upd_ne (Nat.ne_of_lt (Nat.lt_of_lt_of_le (Heap.lt_size q) hp))]; exact n
  there := fun b u q _ => ⟨u, k b u q⟩
  tups := fun b xs q => by rw [upd_ne (ne_of_none q hn)]; exact q
  frzs := fun b u xs q => by rw [upd_ne (ne_of_none q hn)]; exact q
  tbls := fun b ps q => ⟨#[], by rw [upd_ne (ne_of_none q hn), q]; simp⟩
theorem Un.write (mu : Mut (H x)) (he : e = x ∨ H e = some (.own x)) (k : ∀ b u, b ≠ e → h.get? b = some u → h'.get? b = some u) (heo : ∃ u, h'.get? e = some u) : Un fs ex H (upd H x o) h h' := by
  have hx : ∀ b, H b = none → b ≠ x := fun b n z => by subst z; rw [n] at mu; exact mu
  have hb : ∀ b, H b = none → b ≠ e := fun b n z => by
    subst z
    rcases he with r | r
    · exact hx b n r
    · rw [n] at r; cases r
  have hm : ∀ b u, H b = some u → ¬ Mut (some u) → b ≠ x := fun b u q nm z => by subst z; rw [q] at mu; exact nm mu
  refine ⟨fun b u q n _ _ => k b u (hb b n) q, fun b u q n _ _ => ⟨u.slots, k b u (hb b n) q⟩, fun b u q n _ => by rw [upd_ne (hx b n)]; exact n, fun b u q _ => ?_,
    fun b xs q => by rw [upd_ne (hm b _ q fun z => z)]; exact q, fun b u xs q => by rw [upd_ne (hm b _ q fun z => z)]; exact q, fun b ps q => ⟨#[], by rw [upd_ne (hm b _ q fun z => z), q]; simp⟩⟩
  by_cases hbe : b = e
  · subst hbe; exact heo
  · exact ⟨u, k b u hbe q⟩
theorem Un.mono (u : Un fs ex H H1 h h1) (hs : ∀ b ∈ fs, b ∈ fs') (hx : ∀ b ∈ ex, b ∈ ex') : Un fs' ex' H H1 h h1 :=
  ⟨fun b ob q n hb he => u.keep b ob q n (fun z => hb (hs b z)) fun z => he (hx b z), fun _ _ q n _ he => u.any q n fun z => he (hx _ z), fun b ob q n he => u.free b ob q n fun z => he (hx b z), fun b ob q he => u.there b ob q fun z => he (hx b z), u.tups, u.frzs, u.tbls⟩
end

/-! ### the heap without what is tracked -/
def trk (h : Heap) (H : Hp) : List Addr := (List.range h.objs.size).filter fun a => (H a).isSome
def hidT (h : Heap) (H : Hp) : Heap := PySem.W.hideAll h (trk h H)
theorem hidT_size (h : Heap) (H : Hp) : (hidT h H).objs.size = h.objs.size := PySem.W.hideAll_size _ _
theorem hidT_get {h : Heap} {H : Hp} {b : Addr} {o : Obj} (e : h.get? b = some o) (n : H b = none) : (hidT h H).get? b = some o :=
  PySem.W.hideAll_get _ e fun hm => by
    have q : (H b).isSome = true := (List.mem_filter.mp hm).2
    rw [n] at q; simp at q
theorem of_hidT {h : Heap} {H : Hp} {b : Addr} {o : Obj} (e : (hidT h H).get? b = some o) : h.get? b = some o ∧ H b = none := by
  have e' : h.get? b = some o := PySem.W.of_hideAll (trk h H) e
  refine ⟨e', ?_⟩
  cases q : H b with
  | none => rfl
  | some x =>
    have hm : b ∈ trk h H := List.mem_filter.mpr ⟨List.mem_range.mpr (Heap.lt_size e'), by simp [q]⟩
    have z : (hidT h H).get? b = none := PySem.W.hideAll_none (trk h H) hm
    rw [z] at e; cases e

/-! ### OpenK's ledger, filled with every new object but one -/
def allNews (g h : Heap) (L : Addr) : List (Addr × Obj) := (List.range h.objs.size).filterMap fun a => if a = L ∨ (g.get? a).isSome = true then none else (h.get? a).map fun o => (a, o)
theorem mem_allNews {g h : Heap} {L a : Addr} {o : Obj} (h1 : a ≠ L) (h2 : g.get? a = none) (h3 : h.get? a = some o) : (a, o) ∈ allNews g h L :=
  List.mem_filterMap.mpr ⟨a, List.mem_range.mpr (Heap.lt_size h3), by simp [h1, h2, h3]⟩
theorem of_mem_allNews {g h : Heap} {L : Addr} {p : Addr × Obj} (hp : p ∈ allNews g h L) : p.1 ≠ L ∧ g.get? p.1 = none ∧ h.get? p.1 = some p.2 := by
  obtain ⟨b, _, e⟩ := List.mem_filterMap.mp hp
  split at e
  · cases e
  · rename_i hn
    cases q : h.get? b with
    | none => rw [q] at e; simp at e
    | some u =>
      rw [q] at e
      simp only [Option.map_some, Option.some.injEq] at e
      subst e
      refine ⟨fun z => hn (.inl z), ?_, q⟩
      show g.get? b = none
      cases r : g.get? b with
      | none => rfl
      | some v => exact (hn (.inr (by simp [r]))).elim
def rest (g h : Heap) (L d : Addr) : List (Addr × Obj) := (allNews g h L).filter fun p => decide (p.1 ≠ d)
theorem rest_ne {g h : Heap} {L d : Addr} : ∀ p ∈ rest g h L d, p.1 ≠ d := fun p hp => of_decide_eq_true (List.mem_filter.mp hp).2
theorem mem_rest {g h : Heap} {L d a : Addr} {o : Obj} (h1 : a ≠ L) (h2 : g.get? a = none) (h3 : h.get? a = some o) (h4 : a ≠ d) : (a, o) ∈ rest g h L d :=
  List.mem_filter.mpr ⟨mem_allNews h1 h2 h3, decide_eq_true h4⟩
theorem news_all {g h : Heap} {L : Addr} : News g L h (allNews g h L) := fun p hp => let ⟨a, b, c⟩ := of_mem_allNews hp; ⟨c, a, b⟩
theorem news_at {g h : Heap} {L d : Addr} {o : Obj} (h1 : d ≠ L) (h2 : g.get? d = none) (h3 : h.get? d = some o) : News g L h ((d, o) :: rest g h L d) := fun p hp => by
  rcases List.mem_cons.mp hp with rfl | hp
  · exact ⟨h3, h1, h2⟩
  · exact news_all p (List.mem_filter.mp hp).1
/-- behind a rule that changed d alone: all else but the frame is kept -/
theorem kept_of_news {g h h' : Heap} {L d : Addr} {m : Str → Option Value} (k : ∀ b o, g.get? b = some o → h.get? b = some o) (F : Fr g L h' m) (N : News g L h' (rest g h L d)) :
    ∀ b o, b ≠ L → b ≠ d → h.get? b = some o → h'.get? b = some o := fun b o h1 h2 e => by
  cases q : g.get? b with
  | some u =>
    have := k b u q
    rw [e] at this; cases this
    exact F.keep b _ q
  | none => exact (N (b, o) (mem_rest h1 q e h2)).1
end L2

namespace L2
open PySem PySem.Spec PyProof.Rows

/-- the module's facts, over the base: the heap at the law's entry without what is tracked there -/
structure Mod (K : PySem.W.Frag) (mg : Str → Option Value) (base : Heap) : Prop where
  kin : K.In base
  glob : base.Ns mainGlobals mg
  blt : ∃ mb, base.Ns builtinsNs mb ∧ ∀ x : Str, x ≠ "__name__" → mb x = bootBuiltins x
  nolimit : base.NoLimit

/-- the context: a def's body (or a comprehension's block) running. base: fixed through the whole law; s₀, H₀: the entry; outer: the frames whose slots others may change (a def's callers); stack: all frames that run;
   ex: iterators that were made ahead of the entry and are walked here (a comprehension's); fn: the names whose cells were made at the entry (a def: all; a comprehension's block: its own); calm: not within an except suite; pn: pins that every state bears; xe: what is wanted of an exception that leaves the code -/
structure Cx where
  prog : Program
  w : World
  K : PySem.W.Frag
  mg : Str → Option Value
  base : Heap
  A : Around
  N : List Str
  s₀ : Shared
  H₀ : Hp
  env : Env
  outer : List Env
  stack : List Env
  ex : List Addr
  fn : Str → Bool
  calm : Bool
  pn : List (Addr × Obj)
  xe : Value → Shared → Prop
/-- the callers' frames -/
def frs (l : List Env) : List Addr := l.filterMap (·.frame)
abbrev Cx.fs (X : Cx) : List Addr := frs X.outer

def Vis (sc : Scope) (x : Str) : Prop := sc.names.lookup x = some .local ∨ sc.names.lookup x = some .cell ∨ sc.names.lookup x = some .free
def Loc (sc : Scope) (x : Str) : Prop := sc.names.lookup x = some .local ∨ sc.names.lookup x = some .cell
def Look (env : Env) (h : Heap) (m : Str → Option Value) (x : Str) (u : Value) : Prop :=
  (env.kindOf x = some .local ∧ m x = some u) ∨ ((env.kindOf x = some .cell ∨ env.kindOf x = some .free) ∧ ∃ c, env.cells.lookup x = some c ∧ h.IsCell c (some u))

structure Cx.Ok (X : Cx) : Prop where
  mod : Mod X.K X.mg X.base
  kind : X.env.scope.kind = .function
  glob : X.env.globals = mainGlobals
  blt : X.env.builtins = builtinsNs
  above : X.s₀.heap.objs.size ≤ X.env.locals
  inj : ∀ x y c, X.env.cells.lookup x = some c → X.env.cells.lookup y = some c → x = y
  has : ∀ x, (X.env.kindOf x = some .cell ∨ X.env.kindOf x = some .free) → ∃ c, X.env.cells.lookup x = some c
  cab : ∀ x c, X.fn x = true → X.env.cells.lookup x = some c → X.s₀.heap.objs.size ≤ c
  hd : X.calm = true → X.A.handled = none
  frames : X.A.frames = some X.stack
  stk : X.stack = X.outer ∨ (X.stack = X.env :: X.outer ∧ X.env.frame = some X.env.locals)
  exf : ∀ b ∈ X.ex, b ≠ X.env.locals ∧ ∀ x c, X.env.cells.lookup x = some c → c ≠ b
  bs : ∀ b o, X.base.get? b = some o → X.s₀.heap.get? b = some o ∧ X.H₀ b = none
  bsz : X.base.objs.size ≤ X.s₀.heap.objs.size
  noex : ∀ b o, X.base.get? b = some o → b ∉ X.ex
  exfs : ∀ b ∈ X.ex, b ∉ X.fs
  funs : X.s₀.heap.FunFrames X.base X.outer
  frf : ∀ b ∈ X.fs, X.H₀ b = none

structure Inv (X : Cx) (pins : List (Addr × Obj)) (σ : List (Option V)) (H : Hp) (s : Shared) : Prop where
  ok : X.Ok
  os : s.os = X.s₀.os
  bare : AllBare s.gens
  base : Un X.fs X.ex X.H₀ H X.s₀.heap s.heap
  loc : ∃ m, s.heap.Ns X.env.locals m ∧ ∀ (i : Nat) (x : Str) (v : V), X.N[i]? = some x → σ[i]? = some (some v) → Vis X.env.scope x → ∃ u, RelV v u ∧ Look X.env s.heap m x u
  cell : ∀ x c, X.env.cells.lookup x = some c → ∃ v, s.heap.IsCell c v
  free : H X.env.locals = none
  freeC : ∀ x c, X.env.cells.lookup x = some c → H c = none
  pin : ∀ p ∈ X.pn ++ pins, s.heap.get? p.1 = some p.2 ∧ H p.1 = none ∧ p.1 ≠ X.env.locals ∧ p.1 ∉ X.fs ∧ ∀ v, p.2.data ≠ .cell v
  hok : HOk X.prog X.w H s.heap
  len : σ.length = X.N.length

section
variable {X : Cx} {pins : List (Addr × Obj)} {σ : List (Option V)} {H H' : Hp} {s : Shared} {h' : Heap}

theorem Cx.Ok.nofr (ok : X.Ok) {b : Addr} {o : Obj} (e : X.base.get? b = some o) : b ∉ X.fs := fun hb => by
  have := (ok.funs.mem hb).1
  rw [e] at this; cases this
theorem Inv.bs (I : Inv X pins σ H s) : ∀ b o, X.base.get? b = some o → s.heap.get? b = some o ∧ H b = none := fun b o e =>
  ⟨I.base.keep b o (I.ok.bs b o e).1 (I.ok.bs b o e).2 (I.ok.nofr e) (I.ok.noex b o e), I.base.free b o (I.ok.bs b o e).1 (I.ok.bs b o e).2 (I.ok.noex b o e)⟩
theorem Inv.bk (I : Inv X pins σ H s) : ∀ b o, X.base.get? b = some o → s.heap.get? b = some o := fun b o e => (I.bs b o e).1
theorem Inv.mod (I : Inv X pins σ H s) : Mod X.K X.mg X.base := I.ok.mod
theorem Inv.kIn (I : Inv X pins σ H s) : X.K.In s.heap := I.ok.mod.kin.keeps I.bk
theorem Inv.nolimit (I : Inv X pins σ H s) : s.heap.NoLimit := I.ok.mod.nolimit.keeps I.bk
/-- the frame over the base: for OpenK's rules (K.In X.base is I.mod.kin) -/
theorem Inv.fr (I : Inv X pins σ H s) : ∃ m, Fr X.base X.env.locals s.heap m :=
  let ⟨m, hn, _⟩ := I.loc
  ⟨m, hn, I.bk, Nat.le_trans I.ok.bsz I.ok.above⟩
theorem Inv.lt (I : Inv X pins σ H s) : X.env.locals < s.heap.objs.size := let ⟨_, hn, _⟩ := I.loc; hn.lt
theorem Inv.sz (I : Inv X pins σ H s) : X.s₀.heap.objs.size ≤ s.heap.objs.size := Nat.le_trans I.ok.above (Nat.le_of_lt I.lt)
theorem Inv.nofs (I : Inv X pins σ H s) {a : Addr} (h : s.heap.objs.size ≤ a) : a ∉ X.fs := fun hb => by
  obtain ⟨_, o, ho, _⟩ := I.ok.funs.mem hb
  exact absurd (Nat.lt_of_lt_of_le (Heap.lt_size ho) (Nat.le_trans I.sz h)) (Nat.lt_irrefl _)
theorem Inv.cne (I : Inv X pins σ H s) : ∀ x c, X.env.cells.lookup x = some c → c ≠ X.env.locals := fun x c e z => by
  obtain ⟨v, o, ho, hd⟩ := I.cell x c e
  obtain ⟨m, ⟨o', es, ep, ho', hd', _⟩, _⟩ := I.loc
  rw [z, ho'] at ho; cases ho; rw [hd'] at hd; cases hd
theorem Inv.funs (I : Inv X pins σ H s) : s.heap.FunFrames X.base X.outer := by
  have all : ∀ (l : List Env), (∀ b ∈ frs l, b ∈ X.fs) → X.s₀.heap.FunFrames X.base l → s.heap.FunFrames X.base l := by
    intro l
    induction l with
    | nil => intro _ _; trivial
    | cons env r ih =>
      intro hs hl
      obtain ⟨hk, ⟨L, o, hf, hn, ho, hd⟩, hr⟩ := hl
      have hL : L ∈ X.fs := hs L (by unfold frs; rw [List.filterMap_cons, hf]; exact List.mem_cons_self)
      obtain ⟨sl, e⟩ := I.base.slot L o ho (I.ok.frf L hL) hL fun z => I.ok.exfs L z hL
      exact ⟨hk, ⟨L, _, hf, hn, e, hd⟩, ih (fun b hb => hs b (by unfold frs; rw [List.filterMap_cons, hf]; exact List.mem_cons_of_mem _ hb)) hr⟩
  exact all X.outer (fun _ hb => hb) I.ok.funs

/-- the frames that run, for a call -/
theorem Inv.stack (I : Inv X pins σ H s) : s.heap.FunFrames X.base X.stack := by
  rcases I.ok.stk with e | ⟨e, hf⟩
  · rw [e]; exact I.funs
  · rw [e]
    obtain ⟨m, hn, _⟩ := I.loc
    refine .cons (by rw [I.ok.kind]; decide) hf hn ?_ I.funs
    exact Heap.get?_none_of_le (Nat.le_trans I.ok.bsz I.ok.above)
theorem Inv.stkSub (I : Inv X pins σ H s) : ∀ b ∈ frs X.stack, b ∈ X.env.locals :: X.fs := fun b hb => by
  rcases I.ok.stk with e | ⟨e, hf⟩
  · rw [e] at hb; exact List.mem_cons_of_mem _ hb
  · rw [e] at hb
    unfold frs at hb
    rw [List.filterMap_cons, hf] at hb
    exact hb
theorem Inv.stkFree (I : Inv X pins σ H s) : ∀ b ∈ frs X.stack, H b = none := fun b hb => by
  rcases List.mem_cons.mp (I.stkSub b hb) with e | hb
  · rw [e]; exact I.free
  · obtain ⟨_, o, ho, _⟩ := I.ok.funs.mem hb
    exact I.base.free b o ho (I.ok.frf b hb) fun z => I.ok.exfs b z hb

/-- THE STEP: the untracked objects but the frame and the records at ch are kept (the callers' frames up to slots), the frame's map is kept, the new abstract heap is held -/
theorem Inv.step {g' : Array GenState} {t' : Nat} {d' : Drawn} {ch : List Addr} (I : Inv X pins σ H s)
    (hch : ∀ b ∈ ch, (b ∈ X.ex ∨ X.s₀.heap.objs.size ≤ b) ∧ b ≠ X.env.locals ∧ (∀ x c, X.env.cells.lookup x = some c → c ≠ b) ∧ ∀ p ∈ X.pn ++ pins, p.1 ≠ b)
    (keep : ∀ b o, b ≠ X.env.locals → b ∉ X.fs → b ∉ ch → s.heap.get? b = some o → H b = none → h'.get? b = some o)
    (slot : ∀ b o, b ≠ X.env.locals → b ∈ X.fs → b ∉ ch → s.heap.get? b = some o → H b = none → ∃ sl, h'.get? b = some { o with slots := sl }) (free : ∀ b o, b ∉ ch → s.heap.get? b = some o → H b = none → H' b = none)
    (there : ∀ b o, b ∉ ch → s.heap.get? b = some o → ∃ o', h'.get? b = some o')
    (tups : ∀ b xs, H b = some (.tup xs) → H' b = some (.tup xs)) (frzs : ∀ b o u, H b = some (.frz o u) → H' b = some (.frz o u)) (tbls : ∀ b ps, H b = some (.tbl ps) → ∃ more, H' b = some (.tbl (ps ++ more)))
    (ns : ∀ m, s.heap.Ns X.env.locals m → h'.Ns X.env.locals m) (hok : HOk X.prog X.w H' h') (hg : AllBare g') :
    Inv X pins σ H' { s with heap := h', gens := g', drawn := d', toks := t' } := by
  have neL : ∀ b o, X.s₀.heap.get? b = some o → b ≠ X.env.locals := fun b o e => Nat.ne_of_lt (Nat.lt_of_lt_of_le (Heap.lt_size e) I.ok.above)
  have neC : ∀ b o, X.s₀.heap.get? b = some o → b ∉ X.ex → b ∉ ch := fun b o e hx hb => by
    rcases (hch b hb).1 with z | z
    · exact hx z
    · exact absurd (Nat.lt_of_lt_of_le (Heap.lt_size e) z) (Nat.lt_irrefl _)
  have cellK : ∀ x c, X.env.cells.lookup x = some c → ∀ v, s.heap.IsCell c v → h'.IsCell c v := fun x c e v ⟨o, ho, hd⟩ => by
    have nch : c ∉ ch := fun z => (hch c z).2.2.1 x c e rfl
    by_cases hc : c ∈ X.fs
    · obtain ⟨sl, q⟩ := slot c o (I.cne x c e) hc nch ho (I.freeC x c e)
      exact ⟨_, q, hd⟩
    · exact ⟨o, keep c o (I.cne x c e) hc nch ho (I.freeC x c e), hd⟩
  refine ⟨I.ok, I.os, hg, ⟨fun b o e n hb hx => ?_, fun b o e n hb hx => ?_, fun b o e n hx => ?_, fun b o e hx => ?_, fun b xs e => tups b xs (I.base.tups b xs e), fun b o xs e => frzs b o xs (I.base.frzs b o xs e), fun b ps e => ?_⟩, ?_, fun x c e => ?_, ?_, fun x c e => ?_, fun p hp => ?_, hok, I.len⟩
  · exact keep b o (neL b o e) hb (neC b o e hx) (I.base.keep b o e n hb hx) (I.base.free b o e n hx)
  · obtain ⟨sl, e1⟩ := I.base.slot b o e n hb hx
    obtain ⟨sl', e2⟩ := slot b _ (neL b o e) hb (neC b o e hx) e1 (I.base.free b o e n hx)
    exact ⟨sl', e2⟩
  · obtain ⟨o', e1⟩ := I.base.there b o e hx
    exact free b o' (neC b o e hx) e1 (I.base.free b o e n hx)
  · obtain ⟨o', e1⟩ := I.base.there b o e hx
    exact there b o' (neC b o e hx) e1
  · obtain ⟨m1, e1⟩ := I.base.tbls b ps e
    obtain ⟨m2, e2⟩ := tbls b _ e1
    exact ⟨m1 ++ m2, by rw [e2, Array.append_assoc]⟩
  · obtain ⟨m, hn, hl⟩ := I.loc
    refine ⟨m, ns m hn, fun i x v e1 e2 e3 => ?_⟩
    obtain ⟨u, r, l⟩ := hl i x v e1 e2 e3
    refine ⟨u, r, ?_⟩
    rcases l with l | ⟨k, c, e, z⟩
    · exact .inl l
    · exact .inr ⟨k, c, e, cellK x c e _ z⟩
  · obtain ⟨v, z⟩ := I.cell x c e
    exact ⟨v, cellK x c e v z⟩
  · obtain ⟨m, ⟨o, _, _, ho, _⟩, _⟩ := I.loc
    exact free _ o (fun z => (hch _ z).2.1 rfl) ho I.free
  · obtain ⟨v, o, ho, hd⟩ := I.cell x c e
    exact free c o (fun z => (hch c z).2.2.1 x c e rfl) ho (I.freeC x c e)
  · obtain ⟨e, n, ne, nf, d⟩ := I.pin p hp
    have nch : p.1 ∉ ch := fun z => (hch p.1 z).2.2.2 p hp rfl
    exact ⟨keep p.1 p.2 ne nf nch e n, free p.1 p.2 nch e n, ne, nf, d⟩
/-- .. where the frame's own object is kept too -/
theorem Inv.un {t' : Nat} (I : Inv X pins σ H s) (u : Un X.fs [] H H' s.heap h') (hok : HOk X.prog X.w H' h') : Inv X pins σ H' { s with heap := h', toks := t' } := by
  obtain ⟨m, ⟨o, es, ep, ho, r⟩, _⟩ := id I.loc
  obtain ⟨sl, hL⟩ := u.any ho I.free (by simp)
  exact I.step (g' := s.gens) (d' := s.drawn) (ch := []) (fun _ z => nomatch z) (fun b o _ hb _ e n => u.keep b o e n hb (by simp)) (fun b o _ hb _ e n => u.slot b o e n hb (by simp)) (fun b o _ e n => u.free b o e n (by simp)) (fun b o _ e => u.there b o e (by simp)) u.tups u.frzs u.tbls (fun m' hm => by
    obtain ⟨o', es', ep', ho', r'⟩ := hm
    rw [ho] at ho'; cases ho'
    exact ⟨_, es', ep', hL, r'⟩) hok I.bare
/-- behind a call (or a comprehension's block): the slots of this frame may have changed too, the records at ch may have turned -/
theorem Inv.call {g' : Array GenState} {t' : Nat} {d' : Drawn} {ch : List Addr} (I : Inv X pins σ H s) (u : Un (frs X.stack) ch H H' s.heap h') (hok : HOk X.prog X.w H' h') (hg : AllBare g')
    (hch : ∀ b ∈ ch, (b ∈ X.ex ∨ X.s₀.heap.objs.size ≤ b) ∧ b ≠ X.env.locals ∧ (∀ x c, X.env.cells.lookup x = some c → c ≠ b) ∧ ∀ p ∈ X.pn ++ pins, p.1 ≠ b) :
    Inv X pins σ H' { s with heap := h', gens := g', drawn := d', toks := t' } := by
  obtain ⟨m, ⟨o, es, ep, ho, r⟩, _⟩ := id I.loc
  obtain ⟨sl, hL⟩ := u.any ho I.free fun z => (hch _ z).2.1 rfl
  exact I.step (ch := ch) hch (fun b o hL hb hc e n => u.keep b o e n (fun z => (List.mem_cons.mp (I.stkSub b z)).elim hL hb) hc) (fun b o _ _ hc e n => u.any e n hc) (fun b o hc e n => u.free b o e n hc) (fun b o hc e => u.there b o e hc) u.tups u.frzs u.tbls (fun m' hm => by
    obtain ⟨o', es', ep', ho', r'⟩ := hm
    rw [ho] at ho'; cases ho'
    exact ⟨_, es', ep', hL, r'⟩) hok hg
/-- an untracked record of ours (an iterator) has turned -/
theorem Inv.turned {t' : Nat} {it : Addr} (I : Inv X pins σ H s) (k : ∀ b o, b ≠ it → s.heap.get? b = some o → h'.get? b = some o) (hn : H it = none) (hL : it ≠ X.env.locals)
    (h1 : it ∈ X.ex ∨ X.s₀.heap.objs.size ≤ it) (h2 : ∀ x c, X.env.cells.lookup x = some c → c ≠ it) (h3 : ∀ p ∈ X.pn ++ pins, p.1 ≠ it) : Inv X pins σ H { s with heap := h', toks := t' } := by
  have nit : ∀ b u, H b = some u → b ≠ it := fun b u e z => by rw [z, hn] at e; cases e
  refine I.step (g' := s.gens) (d' := s.drawn) (ch := [it]) (fun b hb => ?_) (fun b o _ _ hc e _ => k b o (fun z => hc (by simp [z])) e) (fun b o _ _ hc e _ => ⟨o.slots, k b o (fun z => hc (by simp [z])) e⟩) (fun _ _ _ _ n => n)
    (fun b o hc e => ⟨o, k b o (fun z => hc (by simp [z])) e⟩) (fun _ _ e => e) (fun _ _ _ e => e) (fun b ps e => ⟨#[], by rw [e]; simp⟩) (fun m hm => ?_) (fun b u e => ?_) I.bare
  · have e : b = it := by simpa using hb
    subst e
    exact ⟨h1, hL, h2, h3⟩
  · obtain ⟨o, es, ep, ho, r⟩ := hm
    exact ⟨o, es, ep, k _ o (Ne.symm hL) ho, r⟩
  · refine (I.hok b u e).stay (fun c v hc q => k c v ?_ q) (fun _ q => q) fun _ _ q => q
    rcases hc with z | z
    · rw [z]; exact nit b u e
    · exact nit c _ z
theorem Inv.tok (I : Inv X pins σ H s) (t : Nat) : Inv X pins σ H { s with toks := t } := I.un (h' := s.heap) (t' := t) Un.refl I.hok
/-- all objects kept -/
theorem Inv.kept {t' : Nat} (I : Inv X pins σ H s) (k : ∀ b u, s.heap.get? b = some u → h'.get? b = some u) : Inv X pins σ H { s with heap := h', toks := t' } := I.un (Un.kept k) (I.hok.kept k)
/-- a new object laid and tracked -/
theorem Inv.laid {a : Addr} {o : HO} {t' : Nat} (I : Inv X pins σ H s) (k : ∀ b u, s.heap.get? b = some u → h'.get? b = some u) (hp : s.heap.objs.size ≤ a) (new : ObjOk X.prog X.w (upd H a o) h' a o) :
    Inv X pins σ (upd H a o) { s with heap := h', toks := t' } := I.un (Un.laid k hp (I.hok.fresh hp)) (I.hok.laid k hp new)
/-- an object written -/
theorem Inv.write {x e : Addr} {o : HO} {t' : Nat} (I : Inv X pins σ H s) (mu : Mut (H x)) (he : e = x ∨ H e = some (.own x)) (k : ∀ b u, b ≠ e → s.heap.get? b = some u → h'.get? b = some u) (heo : ∃ u, h'.get? e = some u)
    (new : ObjOk X.prog X.w (upd H x o) h' x o) : Inv X pins σ (upd H x o) { s with heap := h', toks := t' } := I.un (Un.write mu he k heo) (I.hok.write mu he k heo new)
/-- forgetting slots, pins -/
theorem Inv.weak {σ' : List (Option V)} (I : Inv X pins σ H s) (hl : σ'.length = σ.length) (w : ∀ (i : Nat) v, σ'[i]? = some (some v) → σ[i]? = some (some v)) : Inv X pins σ' H s :=
  ⟨I.ok, I.os, I.bare, I.base, let ⟨m, hn, hl'⟩ := I.loc; ⟨m, hn, fun i x v e1 e2 e3 => hl' i x v e1 (w i v e2) e3⟩, I.cell, I.free, I.freeC, I.pin, I.hok, hl.trans I.len⟩
theorem Inv.pins_of {pins' : List (Addr × Obj)} (I : Inv X pins σ H s) (h : ∀ p ∈ pins', s.heap.get? p.1 = some p.2 ∧ H p.1 = none ∧ p.1 ≠ X.env.locals ∧ p.1 ∉ X.fs ∧ ∀ v, p.2.data ≠ .cell v) : Inv X pins' σ H s :=
  ⟨I.ok, I.os, I.bare, I.base, I.loc, I.cell, I.free, I.freeC, fun p hp => (List.mem_append.mp hp).elim (fun z => I.pin p (List.mem_append_left _ z)) (h p), I.hok, I.len⟩

theorem nodup_ix {N : List Str} (hN : N.Nodup) {i j : Nat} {x : Str} (a : N[i]? = some x) (b : N[j]? = some x) : i = j := by
  obtain ⟨h1, e1⟩ := List.getElem?_eq_some_iff.mp a
  obtain ⟨h2, e2⟩ := List.getElem?_eq_some_iff.mp b
  exact (List.getElem_inj hN).mp (e1.trans e2.symm)

/-- a name is stored; what changed -/
theorem store_ok2 {M : Model} {A : Around} {E : Value → Shared → Prop} {i : Nat} {x : Str} {v : V} {u : Value} {Q : Unit → Shared → Prop} (I : Inv X pins σ H s) (hN : X.N.Nodup) (hi : X.N[i]? = some x) (hx : Loc X.env.scope x) (r : RelV v u)
    (h : ∀ s', Inv X pins (σ.set i (some v)) H s' → (∃ a, Heap.SameBut a s.heap s'.heap ∧ (a = X.env.locals ∨ X.env.cells.lookup x = some a)) → Q () s') (hf : X.fn x = true ∨ X.env.scope.names.lookup x = some .local := by first | exact .inl rfl | exact .inr rfl | assumption) : wpAny M A (storeName X.env x u) Q E s := by
  obtain ⟨m, hn, hl⟩ := id I.loc
  have hcls : (X.env.scope.kind == .class || (X.env.scope.kind == .module && X.env.locals != X.env.globals)) = false := by rw [I.ok.kind]; rfl
  have hiσ : i < σ.length := by rw [I.len]; exact (List.getElem?_eq_some_iff.mp hi).1
  have cne := I.cne
  have tracked : ∀ {a : Addr} {h' : Heap}, (∃ o, s.heap.get? a = some o ∧ H a = none) → Heap.SameBut a s.heap h' → HOk X.prog X.w H h' := fun {a h'} ha hs b ob e => by
    obtain ⟨_, _, hfree⟩ := ha
    refine (I.hok b ob e).stay (fun c w' hc q => (hs.2 c ?_).trans q) (fun _ q => q) fun _ _ q => q
    rintro rfl
    rcases hc with rfl | hc
    · rw [hfree] at e; cases e
    · rw [hfree] at hc; cases hc
  rcases hx with hk | hk
  · refine wpAny_storeName_local hk hn (fun h' hn' hs => ?_) hcls
    obtain ⟨oL, _, _, hoL, _⟩ := id hn
    refine h _ ⟨I.ok, I.os, I.bare, ⟨fun b o e n hb hx => ?_, fun b o e n hb hx => ?_, I.base.free, fun b o e hx => ?_, I.base.tups, I.base.frzs, I.base.tbls⟩, ⟨_, hn', fun j y v' e1 e2 e3 => ?_⟩, fun y c e => ?_, I.free, I.freeC, fun p hp => ?_, tracked ⟨oL, hoL, I.free⟩ hs, by simpa using I.len⟩ ⟨_, hs, .inl rfl⟩
    · exact (hs.2 b (Nat.ne_of_lt (Nat.lt_of_lt_of_le (Heap.lt_size e) I.ok.above))).trans (I.base.keep b o e n hb hx)
    · obtain ⟨sl, e1⟩ := I.base.slot b o e n hb hx
      exact ⟨sl, (hs.2 b (Nat.ne_of_lt (Nat.lt_of_lt_of_le (Heap.lt_size e) I.ok.above))).trans e1⟩
    · obtain ⟨o', e1⟩ := I.base.there b o e hx
      exact ⟨o', (hs.2 b (Nat.ne_of_lt (Nat.lt_of_lt_of_le (Heap.lt_size e) I.ok.above))).trans e1⟩
    · by_cases hj : j = i
      · subst hj
        rw [hi] at e1; cases e1
        rw [List.getElem?_set_self hiσ] at e2
        cases e2
        exact ⟨u, r, .inl ⟨hk, by simp⟩⟩
      · rw [List.getElem?_set_ne (Ne.symm hj)] at e2
        obtain ⟨u', r', q⟩ := hl j y v' e1 e2 e3
        refine ⟨u', r', ?_⟩
        rcases q with ⟨k, e⟩ | ⟨k, c, e, z⟩
        · refine .inl ⟨k, ?_⟩
          have : y ≠ x := fun e => hj (nodup_ix hN e1 (e ▸ hi))
          simp [this, e]
        · exact .inr ⟨k, c, e, z.sameBut hs (cne y c e)⟩
    · obtain ⟨w', z⟩ := I.cell y c e
      exact ⟨w', z.sameBut hs (cne y c e)⟩
    · obtain ⟨e, n, ne, nf, d⟩ := I.pin p hp
      exact ⟨(hs.2 p.1 ne).trans e, n, ne, nf, d⟩
  · have hfn : X.fn x = true := by
      rcases hf with z | z
      · exact z
      · rw [z] at hk; cases hk
    obtain ⟨c, hc⟩ := I.ok.has x (.inl hk)
    obtain ⟨w', z⟩ := I.cell x c hc
    refine wpAny_storeName_cell I.ok.kind hk hc z (fun h' hc' hs => ?_)
    obtain ⟨oc, hoc, hocd⟩ := id z
    refine h { s with heap := h' } ⟨I.ok, I.os, I.bare, ⟨fun b o e n hb hx => ?_, fun b o e n hb hx => ?_, I.base.free, fun b o e hx => ?_, I.base.tups, I.base.frzs, I.base.tbls⟩, ⟨m, hn.sameBut hs (Ne.symm (cne x c hc)), fun j y v' e1 e2 e3 => ?_⟩, fun y c' e => ?_, I.free, I.freeC, fun p hp => ?_, tracked ⟨oc, hoc, I.freeC x c hc⟩ hs, by simpa using I.len⟩ ⟨c, hs, .inr hc⟩
    · exact (hs.2 b (Nat.ne_of_lt (Nat.lt_of_lt_of_le (Heap.lt_size e) (I.ok.cab x c hfn hc)))).trans (I.base.keep b o e n hb hx)
    · obtain ⟨sl, e1⟩ := I.base.slot b o e n hb hx
      exact ⟨sl, (hs.2 b (Nat.ne_of_lt (Nat.lt_of_lt_of_le (Heap.lt_size e) (I.ok.cab x c hfn hc)))).trans e1⟩
    · obtain ⟨o', e1⟩ := I.base.there b o e hx
      exact ⟨o', (hs.2 b (Nat.ne_of_lt (Nat.lt_of_lt_of_le (Heap.lt_size e) (I.ok.cab x c hfn hc)))).trans e1⟩
    · by_cases hj : j = i
      · subst hj
        rw [hi] at e1; cases e1
        rw [List.getElem?_set_self hiσ] at e2
        cases e2
        exact ⟨u, r, .inr ⟨.inl hk, c, hc, hc'⟩⟩
      · rw [List.getElem?_set_ne (Ne.symm hj)] at e2
        obtain ⟨u', r', q⟩ := hl j y v' e1 e2 e3
        refine ⟨u', r', ?_⟩
        rcases q with q | ⟨k, c', e, z'⟩
        · exact .inl q
        · refine .inr ⟨k, c', e, z'.sameBut hs ?_⟩
          rintro rfl
          exact hj (nodup_ix hN e1 (I.ok.inj _ _ _ e hc ▸ hi))
    · by_cases hcc : c' = c
      · subst hcc; exact ⟨_, hc'⟩
      · obtain ⟨w2, z2⟩ := I.cell y c' e
        exact ⟨w2, z2.sameBut hs hcc⟩
    · obtain ⟨e, n, ne, nf, d⟩ := I.pin p hp
      refine ⟨(hs.2 p.1 ?_).trans e, n, ne, nf, d⟩
      intro q
      rw [q, hoc] at e
      have q' : oc = p.2 := Option.some.inj e
      exact d w' (by rw [← q']; exact hocd)
theorem store_ok {M : Model} {A : Around} {E : Value → Shared → Prop} {i : Nat} {x : Str} {v : V} {u : Value} {Q : Unit → Shared → Prop} (I : Inv X pins σ H s) (hN : X.N.Nodup) (hi : X.N[i]? = some x) (hx : Loc X.env.scope x) (r : RelV v u)
    (h : ∀ s', Inv X pins (σ.set i (some v)) H s' → Q () s') (hf : X.fn x = true ∨ X.env.scope.names.lookup x = some .local := by first | exact .inl rfl | exact .inr rfl | assumption) : wpAny M A (storeName X.env x u) Q E s :=
  store_ok2 I hN hi hx r (fun s' I' _ => h s' I') hf
/-- behind a call or a block, the state as it is -/
theorem Inv.call' {s' : Shared} {ch : List Addr} (I : Inv X pins σ H s) (ho : s'.os = s.os) (u : Un (frs X.stack) ch H H' s.heap s'.heap) (hok : HOk X.prog X.w H' s'.heap) (hg : AllBare s'.gens)
    (hch : ∀ b ∈ ch, (b ∈ X.ex ∨ X.s₀.heap.objs.size ≤ b) ∧ b ≠ X.env.locals ∧ (∀ x c, X.env.cells.lookup x = some c → c ≠ b) ∧ ∀ p ∈ X.pn ++ pins, p.1 ≠ b) : Inv X pins σ H' s' := by
  obtain ⟨h', g', d', t', o'⟩ := s'
  have e : o' = s.os := ho
  subst e
  exact I.call (g' := g') (t' := t') (d' := d') u hok hg hch
end

/-! ### the judgements -/
/-- an exception: its class, its own dict's address (where it has one), the abstract heap behind it -/
abbrev XK := Value → Option Addr → Hp → Prop
abbrev St := List (Option V)
abbrev VK := V → Hp → Prop
/-- an expression's reading; a test's; an argument list's -/
abbrev TE := St → Hp → VK → Prop
abbrev TT := St → Hp → (Bool → Hp → Prop) → Prop
abbrev TA := St → Hp → (List V → Hp → Prop) → Prop
/-- what is wanted behind a statement -/
structure Ends where
  nx : St → Hp → Prop
  rt : VK
  bk : St → Hp → Prop := fun _ _ => False
  ct : St → Hp → Prop := fun _ _ => False
abbrev TS := Ends → St → Hp → Prop

def EP (X : Cx) (pins : List (Addr × Obj)) (σ : St) (Q : VK) (u : Value) (s' : Shared) : Prop := ∃ v H', Inv X pins σ H' s' ∧ RelV v u ∧ Q v H'
def TP (X : Cx) (pins : List (Addr × Obj)) (σ : St) (Q : Bool → Hp → Prop) (b : Bool) (s' : Shared) : Prop := ∃ H', Inv X pins σ H' s' ∧ Q b H'
def AP (X : Cx) (pins : List (Addr × Obj)) (σ : St) (Q : List V → Hp → Prop) (us : List Value) (s' : Shared) : Prop := ∃ vs H', Inv X pins σ H' s' ∧ Vals vs us ∧ Q vs H'
def SP (X : Cx) (pins : List (Addr × Obj)) (D : Ends) (f : Flow) (s' : Shared) : Prop :=
  match f with
  | .next => ∃ σ' H', Inv X pins σ' H' s' ∧ D.nx σ' H'
  | .brk => ∃ σ' H', Inv X pins σ' H' s' ∧ D.bk σ' H'
  | .cont => ∃ σ' H', Inv X pins σ' H' s' ∧ D.ct σ' H'
  | .ret u => ∃ v σ' H', Inv X pins σ' H' s' ∧ RelV v u ∧ D.rt v H'

def PE (X : Cx) (e : Expr) (t : TE) : Prop :=
  ∀ (pins : List (Addr × Obj)) (s : Shared) (σ : St) (H : Hp) (Q : VK), Inv X pins σ H s → t σ H Q → wpAny (model X.prog X.w) X.A (eval e X.env) (EP X pins σ Q) X.xe s
def PT (X : Cx) (e : Expr) (t : TT) : Prop :=
  ∀ (pins : List (Addr × Obj)) (s : Shared) (σ : St) (H : Hp) (Q : Bool → Hp → Prop), Inv X pins σ H s → t σ H Q → wpAny (model X.prog X.w) X.A (isTrue e X.env (eval e X.env)) (TP X pins σ Q) X.xe s
/-- a test whatever its 'whole' is (and, or) -/
def PW (X : Cx) (e : Expr) (t : TT) : Prop :=
  ∀ (whole : Sem Value) (pins : List (Addr × Obj)) (s : Shared) (σ : St) (H : Hp) (Q : Bool → Hp → Prop), Inv X pins σ H s → t σ H Q → wpAny (model X.prog X.w) X.A (isTrue e X.env whole) (TP X pins σ Q) X.xe s
theorem PW.pt {X : Cx} {e : Expr} {t : TT} (h : PW X e t) : PT X e t := h _
/-- an argument list (no star), from the left -/
def PA (X : Cx) (es : List Expr) (t : TA) : Prop :=
  ∀ (pos : Pos) (pins : List (Addr × Obj)) (s : Shared) (σ : St) (H : Hp) (Q : List V → Hp → Prop), Inv X pins σ H s → t σ H Q → wpAny (model X.prog X.w) X.A (spliced (backTo pos (starEach es X.env))) (AP X pins σ Q) X.xe s
def PS (X : Cx) (st : Stmt) (t : TS) : Prop :=
  ∀ (pins : List (Addr × Obj)) (s : Shared) (σ : St) (H : Hp) (D : Ends), Inv X pins σ H s → t D σ H → wpAny (model X.prog X.w) X.A (exec st X.env) (SP X pins D) X.xe s
def PSs (X : Cx) (st : List Stmt) (t : TS) : Prop :=
  ∀ (pins : List (Addr × Obj)) (s : Shared) (σ : St) (H : Hp) (D : Ends), Inv X pins σ H s → t D σ H → wpAny (model X.prog X.w) X.A (execs st X.env) (SP X pins D) X.xe s
/-- weaken the end -/
theorem thn {α : Type} {t : Sem α} {Q Q' : α → Shared → Prop} {M : Model} {A : Around} {E : Value → Shared → Prop} {s : Shared} (h : wpAny M A t Q E s) (hQ : ∀ a s, Q a s → Q' a s) : wpAny M A t Q' E s := wpAny_mono h hQ fun _ _ x => x
end L2

namespace L2
open PySem PySem.Spec PyProof.Rows
section
variable {X : Cx}

/-- two expressions in a row -/
theorem bin {a b : Expr} {ta tb : TE} (ha : PE X a ta) (hb : PE X b tb) {pins : List (Addr × Obj)} {s : Shared} {σ : St} {H : Hp} {R : V → V → Hp → Prop} (I : Inv X pins σ H s) (h : ta σ H fun x H1 => tb σ H1 fun y H2 => R x y H2)
    {α : Type} {Q : α → Shared → Prop} {f : Value → Value → Sem α}
    (hf : ∀ v u s2 x y H2, Inv X pins σ H2 s2 → RelV x v → RelV y u → R x y H2 → wpAny (model X.prog X.w) X.A (f v u) Q X.xe s2) :
    wpAny (model X.prog X.w) X.A (eval a X.env) (fun v s₁ => wpAny (model X.prog X.w) X.A (eval b X.env) (fun u s₂ => wpAny (model X.prog X.w) X.A (f v u) Q X.xe s₂) X.xe s₁) X.xe s := by
  refine thn (ha pins s σ H _ I h) fun v s1 ⟨x, H1, I1, r1, q1⟩ => ?_
  refine thn (hb pins s1 σ H1 _ I1 q1) fun u s2 ⟨y, H2, I2, r2, q2⟩ => ?_
  exact hf v u s2 x y H2 I2 r1 r2 q2

/-! ### names and constants -/
def tVar (i : Nat) : TE := fun σ H Q => ∃ v, σ[i]? = some (some v) ∧ Q v H
def tC (v : V) : TE := fun _ H Q => Q v H
theorem pe_var {i : Nat} {x : Str} {pos : Pos} (hN : X.N[i]? = some x) (hv : Vis X.env.scope x) (hd : (x == ("__debug__" : Str)) = false := by decide) (hcd : (x == ("__classdict__" : Str)) = false := by decide) : PE X (.Name x pos) (tVar i) := by
  intro pins s σ H Q I h
  obtain ⟨v, e, h⟩ := h
  obtain ⟨m, hn, hl⟩ := I.loc
  obtain ⟨u, r, l⟩ := hl i x v hN e hv
  have fin : EP X pins σ Q u s := ⟨v, H, I, r, h⟩
  rcases l with ⟨hk, hm⟩ | ⟨hk, c, hc, hcell⟩
  · exact wpAny_Name (wpAny_loadName_local I.ok.kind hk hn hm fin) hd
  · rcases hk with hk | hk
    · exact wpAny_Name (wpAny_loadName_cell I.ok.kind hk hc hcell fin) hd
    · exact wpAny_Name (wpAny_loadName_free I.ok.kind hk hc hcell fin hcd) hd
theorem pe_int {i j pos} : PE X (.Constant (.int i) j pos) (tC (.int i)) := fun _ _ _ H _ I h => wpAny_Constant_int ⟨.int i, H, I.tok _, ⟨_, rfl⟩, h⟩
theorem pe_bl {b j pos} : PE X (.Constant (.bool b) j pos) (tC (.bl b)) := fun _ _ _ H _ I h => Constant_bool ⟨.bl b, H, I, rfl, h⟩
theorem pe_non {j pos} : PE X (.Constant .none j pos) (tC .non) := fun _ _ _ H _ I h => Constant_none ⟨.non, H, I, rfl, h⟩
theorem pe_str {x j pos} : PE X (.Constant (.str x) j pos) (tC (.str x)) := fun _ _ _ H _ I h => Calls.Constant_str ⟨.str x, H, I.tok _, ⟨_, rfl⟩, h⟩

/-- a global name of the def -/
def Gl (X : Cx) (x : Str) : Prop := X.env.kindOf x = some .globalImplicit
theorem ld_glob {E : Value → Shared → Prop} {pins : List (Addr × Obj)} {s : Shared} {σ : St} {H : Hp} {x : Str} {u : Value} {pos : Pos} {Q : Value → Shared → Prop} (I : Inv X pins σ H s) (hg : Gl X x) (hm : X.mg x = some u) (h : Q u s)
    (hd : (x == ("__debug__" : Str)) = false := by decide) : wpAny (model X.prog X.w) X.A (eval (.Name x pos) X.env) Q E s :=
  Calls.Name_function_global I.ok.kind hg (Calls.loadGlobal_global (by rw [I.ok.glob]; exact I.mod.glob.keeps I.bk) hm h) hd
theorem ld_blt {E : Value → Shared → Prop} {pins : List (Addr × Obj)} {s : Shared} {σ : St} {H : Hp} {x : Str} {u : Value} {pos : Pos} {Q : Value → Shared → Prop} (I : Inv X pins σ H s) (hg : Gl X x) (hm : X.mg x = none) (hv : bootBuiltins x = some u) (h : Q u s)
    (hn : x ≠ "__name__" := by decide) (hd : (x == ("__debug__" : Str)) = false := by decide) : wpAny (model X.prog X.w) X.A (eval (.Name x pos) X.env) Q E s := by
  obtain ⟨mb, h1, h2⟩ := I.mod.blt
  exact Calls.Name_function_global I.ok.kind hg (Calls.loadGlobal_builtin (by rw [I.ok.glob]; exact I.mod.glob.keeps I.bk) hm (by rw [I.ok.blt]; exact h1.keeps I.bk) ((h2 x hn).trans hv) h) hd
/-- a module's constant, a class, a function, as a value -/
theorem pe_glob {x : Str} {v : V} {u : Value} {pos : Pos} (hg : Gl X x) (hm : X.mg x = some u) (r : RelV v u) (hd : (x == ("__debug__" : Str)) = false := by decide) : PE X (.Name x pos) (tC v) :=
  fun _ _ _ H _ I h => ld_glob I hg hm ⟨v, H, I, r, h⟩ hd
theorem pe_bltn {x : Str} {v : V} {u : Value} {pos : Pos} (hg : Gl X x) (hm : X.mg x = none) (hv : bootBuiltins x = some u) (r : RelV v u) (hn : x ≠ "__name__" := by decide) (hd : (x == ("__debug__" : Str)) = false := by decide) : PE X (.Name x pos) (tC v) :=
  fun _ _ _ H _ I h => ld_blt I hg hm hv ⟨v, H, I, r, h⟩ hn hd

/-! ### arithmetic -/
/-- two ints -/
def t2I (ta tb : TE) (k : Int → Int → Hp → Prop) : St → Hp → Prop := fun σ H => ta σ H fun x H1 => tb σ H1 fun y H2 => ∃ i j, x = .int i ∧ y = .int j ∧ k i j H2
def tAdd (ta tb : TE) : TE := fun σ H Q => t2I ta tb (fun i j H2 => Q (.int (i + j)) H2) σ H
def tSub (ta tb : TE) : TE := fun σ H Q => t2I ta tb (fun i j H2 => Q (.int (i - j)) H2) σ H
/-- the left factor below 2^64 -/
def tMul (ta tb : TE) : TE := fun σ H Q => t2I ta tb (fun i j H2 => (-(2 ^ 64) < i ∧ i < 2 ^ 64) ∧ Q (.int (i * j)) H2) σ H
variable {a b : Expr} {ta tb : TE} {pos : Pos}
theorem pe_add (ha : PE X a ta) (hb : PE X b tb) : PE X (.BinOp a .Add b pos) (tAdd ta tb) := by
  intro pins s σ H Q I h
  refine wpAny_BinOp (bin ha hb I h fun v u s2 x y H2 I2 rx ry q => ?_)
  obtain ⟨i, j, rfl, rfl, q⟩ := q
  obtain ⟨t, rfl⟩ := rx
  obtain ⟨t', rfl⟩ := ry
  exact add_int ⟨.int _, H2, I2.tok _, ⟨_, rfl⟩, q⟩
theorem pe_sub (ha : PE X a ta) (hb : PE X b tb) : PE X (.BinOp a .Sub b pos) (tSub ta tb) := by
  intro pins s σ H Q I h
  refine wpAny_BinOp (bin ha hb I h fun v u s2 x y H2 I2 rx ry q => ?_)
  obtain ⟨i, j, rfl, rfl, q⟩ := q
  obtain ⟨t, rfl⟩ := rx
  obtain ⟨t', rfl⟩ := ry
  exact sub_int ⟨.int _, H2, I2.tok _, ⟨_, rfl⟩, q⟩
theorem pe_mul (ha : PE X a ta) (hb : PE X b tb) : PE X (.BinOp a .Mult b pos) (tMul ta tb) := by
  intro pins s σ H Q I h
  refine wpAny_BinOp (bin ha hb I h fun v u s2 x y H2 I2 rx ry q => ?_)
  obtain ⟨i, j, rfl, rfl, ⟨q1, q2⟩, q⟩ := q
  obtain ⟨t, rfl⟩ := rx
  obtain ⟨t', rfl⟩ := ry
  exact mul_int ⟨.int _, H2, I2.tok _, ⟨_, rfl⟩, q⟩ (.of_left (intBits_le_64 q1 q2))

/-! ### comparisons -/
def PC (X : Cx) (op : CmpOp) (a b : Expr) (t : TE) : Prop :=
  ∀ (pins : List (Addr × Obj)) (s : Shared) (σ : St) (H : Hp) (Q : VK), Inv X pins σ H s → t σ H Q →
    wpAny (model X.prog X.w) X.A (eval a X.env) (fun v s₁ => wpAny (model X.prog X.w) X.A (eval b X.env) (fun u s₂ => wpAny (model X.prog X.w) X.A (compareOp op v u) (EP X pins σ Q) X.xe s₂) X.xe s₁) X.xe s
theorem nobehind (b : Expr) {op : CmpOp} (h : op ≠ .In) (h2 : op ≠ .NotIn) : behindInMarks op b = false := by
  have e1 : (op == CmpOp.In) = false := by cases op <;> first | rfl | exact absurd rfl h
  have e2 : (op == CmpOp.NotIn) = false := by cases op <;> first | rfl | exact absurd rfl h2
  cases b <;> simp [behindInMarks, e1, e2]
def tCmp (p : Int → Int → Bool) (ta tb : TE) : TE := fun σ H Q => t2I ta tb (fun i j H2 => Q (.bl (p i j)) H2) σ H
abbrev tLt : TE → TE → TE := tCmp fun i j => decide (i < j)
abbrev tLe : TE → TE → TE := tCmp fun i j => decide (i ≤ j)
abbrev tGt : TE → TE → TE := tCmp fun i j => decide (j < i)
abbrev tGe : TE → TE → TE := tCmp fun i j => decide (j ≤ i)
abbrev tEqI : TE → TE → TE := tCmp fun i j => decide (i = j)
abbrev tNeI : TE → TE → TE := tCmp fun i j => !decide (i = j)
/-- a comparison of two ints, by its rule -/
theorem pc_int {op : CmpOp} {p : Int → Int → Bool} (ha : PE X a ta) (hb : PE X b tb)
    (rule : ∀ (i j : Int) (t u : Tok) (Q : Value → Shared → Prop) (s : Shared), Q (.bool (p i j)) s → wpAny (model X.prog X.w) X.A (compareOp op (.int i t) (.int j u)) Q X.xe s) : PC X op a b (tCmp p ta tb) := by
  intro pins s σ H Q I h
  refine bin ha hb I h fun v u s2 x y H2 I2 rx ry q => ?_
  obtain ⟨i, j, rfl, rfl, q⟩ := q
  obtain ⟨t, rfl⟩ := rx
  obtain ⟨t', rfl⟩ := ry
  exact rule i j t t' _ s2 ⟨.bl _, H2, I2, rfl, q⟩
theorem pc_lt (ha : PE X a ta) (hb : PE X b tb) : PC X .Lt a b (tLt ta tb) := pc_int ha hb fun _ _ _ _ _ _ h => lt_int h
theorem pc_le (ha : PE X a ta) (hb : PE X b tb) : PC X .LtE a b (tLe ta tb) := pc_int ha hb fun _ _ _ _ _ _ h => le_int h
theorem pc_gt (ha : PE X a ta) (hb : PE X b tb) : PC X .Gt a b (tGt ta tb) := pc_int ha hb fun _ _ _ _ _ _ h => gt_int h
theorem pc_ge (ha : PE X a ta) (hb : PE X b tb) : PC X .GtE a b (tGe ta tb) := pc_int ha hb fun _ _ _ _ _ _ h => ge_int h
theorem pc_eqI (ha : PE X a ta) (hb : PE X b tb) : PC X .Eq a b (tEqI ta tb) := pc_int ha hb fun _ _ _ _ _ _ h => eq_int (by rw [Bool.beq_eq_decide_eq]; exact h)
theorem pc_neI (ha : PE X a ta) (hb : PE X b tb) : PC X .NotEq a b (tNeI ta tb) := pc_int ha hb fun _ _ _ _ _ _ h => ne_int (by rw [bne, Bool.beq_eq_decide_eq]; exact h)
/-- is None -/
def tIsN (ta : TE) : TE := fun σ H Q => ta σ H fun x H1 => Q (.bl (decide (x = .non))) H1
def tNotN (ta : TE) : TE := fun σ H Q => ta σ H fun x H1 => Q (.bl (!decide (x = .non))) H1
theorem RelV.none_iff {x : V} {v : Value} (r : RelV x v) : (v == Value.none) = decide (x = .non) := by
  cases x with
  | non => cases r; rfl
  | bl _ => cases r; rfl
  | int _ => obtain ⟨t, rfl⟩ := r; rfl
  | str _ => obtain ⟨t, rfl⟩ := r; rfl
  | byt _ => obtain ⟨t, rfl⟩ := r; rfl
  | flt _ => obtain ⟨t, rfl⟩ := r; rfl
  | ref _ => cases r; rfl
  | ty _ => cases r; rfl
theorem pc_isN {j pos'} (ha : PE X a ta) : PC X .Is a (.Constant .none j pos') (tIsN ta) := by
  intro pins s σ H Q I h
  refine thn (ha pins s σ H _ I h) fun v s1 ⟨x, H1, I1, r1, q1⟩ => ?_
  exact Constant_none (is_none_gen ⟨.bl _, H1, I1, by rw [r1.none_iff]; rfl, q1⟩)
theorem pc_notN {j pos'} (ha : PE X a ta) : PC X .IsNot a (.Constant .none j pos') (tNotN ta) := by
  intro pins s σ H Q I h
  refine thn (ha pins s σ H _ I h) fun v s1 ⟨x, H1, I1, r1, q1⟩ => ?_
  exact Constant_none (isnot_none_gen ⟨.bl _, H1, I1, by rw [r1.none_iff]; rfl, q1⟩)
/-- a comparison as a value, as a test -/
def tB (t : TE) : TT := fun σ H Q => t σ H fun x H1 => ∃ c, x = .bl c ∧ Q c H1
theorem pe_cmp {op : CmpOp} {t : TE} (h : PC X op a b t) (h1 : behindInMarks op b = false := by first | exact nobehind _ (by decide) (by decide) | rfl) : PE X (.Compare a [op] [b] pos) t := fun pins s σ H Q I hw => wpAny_Compare1 (h pins s σ H Q I hw) h1
theorem pt_cmp {op : CmpOp} {t : TE} (h : PC X op a b t) (h1 : behindInMarks op b = false := by first | exact nobehind _ (by decide) (by decide) | rfl) : PT X (.Compare a [op] [b] pos) (tB t) := by
  intro pins s σ H Q I hw
  refine wpAny_isTrue_Compare1 (thn (h pins s σ H _ I hw) fun v s1 h1 => thn h1 fun u s2 h2 => thn h2 fun c s3 ⟨x, H1, I1, r1, q1⟩ => ?_) h1
  obtain ⟨d, rfl, q⟩ := q1
  cases r1
  exact wpAny_truthy_bool ⟨H1, I1, q⟩
/-- an expression whose value is a bool, as a test -/
theorem pt_val {e : Expr} {t : TE} (h : PE X e t) (he : ∀ whole, isTrue e X.env whole = (do let v ← whole; standAt e.pos; holding [v] (truthy v)) := by intro _; rfl) : PT X e (tB t) := by
  intro pins s σ H Q I hw
  refine isTrue_plain (thn (h pins s σ H _ I hw) fun v s1 ⟨x, H1, I1, r1, q1⟩ => ?_) (he _)
  obtain ⟨d, rfl, q⟩ := q1
  cases r1
  exact wpAny_truthy_bool ⟨H1, I1, q⟩

/-! ### and, or, not -/
variable {tA tB' : TT} {rest : List Expr}
def tAnd (t u : TT) : TT := fun σ H Q => t σ H fun c H1 => if c = true then u σ H1 Q else Q false H1
def tOr (t u : TT) : TT := fun σ H Q => t σ H fun c H1 => if c = true then Q true H1 else u σ H1 Q
def tNot (t : TT) : TT := fun σ H Q => t σ H fun c H1 => Q (!c) H1
theorem pw_and1 (ha : PT X a tA) : PW X (.BoolOp .And [a] pos) tA := by
  intro wh pins s σ H Q I h
  refine isTrue_and (thn (ha pins s σ H Q I h) fun c s1 e => ?_)
  cases c with
  | true => exact isTrue_and_nil e
  | false => exact e
theorem pw_or1 (ha : PT X a tA) : PW X (.BoolOp .Or [a] pos) tA := by
  intro wh pins s σ H Q I h
  refine isTrue_or (thn (ha pins s σ H Q I h) fun c s1 e => ?_)
  cases c with
  | false => exact isTrue_or_nil e
  | true => exact e
theorem pw_and (ha : PT X a tA) (hb : PW X (.BoolOp .And (b :: rest) pos) tB') : PW X (.BoolOp .And (a :: b :: rest) pos) (tAnd tA tB') := by
  intro wh pins s σ H Q I h
  refine isTrue_and (thn (ha pins s σ H _ I h) fun c s1 ⟨H1, I1, q1⟩ => ?_)
  cases c with
  | true => exact hb wh pins s1 σ H1 Q I1 q1
  | false => exact ⟨H1, I1, q1⟩
theorem pw_or (ha : PT X a tA) (hb : PW X (.BoolOp .Or (b :: rest) pos) tB') : PW X (.BoolOp .Or (a :: b :: rest) pos) (tOr tA tB') := by
  intro wh pins s σ H Q I h
  refine isTrue_or (thn (ha pins s σ H _ I h) fun c s1 ⟨H1, I1, q1⟩ => ?_)
  cases c with
  | true => exact ⟨H1, I1, q1⟩
  | false => exact hb wh pins s1 σ H1 Q I1 q1
theorem pt_not (ha : PT X a tA) : PT X (.UnaryOp .Not a pos) (tNot tA) := by
  intro pins s σ H Q I h
  exact isTrue_not (ha pins s σ H (fun c H1 => Q (!c) H1) I h)
/-- .. as values (bools) -/
def tAndV (ta tb : TE) : TE := fun σ H Q => ta σ H fun x H1 => ∃ c, x = .bl c ∧ if c = true then tb σ H1 Q else Q (.bl false) H1
def tOrV (ta tb : TE) : TE := fun σ H Q => ta σ H fun x H1 => ∃ c, x = .bl c ∧ if c = true then Q (.bl true) H1 else tb σ H1 Q
def tNotV (ta : TE) : TE := fun σ H Q => ta σ H fun x H1 => ∃ c, x = .bl c ∧ Q (.bl (!c)) H1
theorem pe_one {op} {t : TE} (h : PE X a t) : PE X (.BoolOp op [a] pos) t := fun pins s σ H Q I hw => BoolOp_one (h pins s σ H Q I hw)
theorem pe_and (ha : PE X a ta) (hb : PE X (.BoolOp .And (b :: rest) pos) tb) : PE X (.BoolOp .And (a :: b :: rest) pos) (tAndV ta tb) := by
  intro pins s σ H Q I h
  refine BoolOp_and (thn (ha pins s σ H _ I h) fun v s1 ⟨x, H1, I1, r1, q1⟩ => ?_)
  obtain ⟨c, rfl, q1⟩ := q1
  cases r1
  refine wpAny_truthy_bool ?_
  cases c with
  | true => exact hb pins s1 σ H1 Q I1 q1
  | false => exact ⟨.bl false, H1, I1, rfl, q1⟩
theorem pe_or (ha : PE X a ta) (hb : PE X (.BoolOp .Or (b :: rest) pos) tb) : PE X (.BoolOp .Or (a :: b :: rest) pos) (tOrV ta tb) := by
  intro pins s σ H Q I h
  refine BoolOp_or (thn (ha pins s σ H _ I h) fun v s1 ⟨x, H1, I1, r1, q1⟩ => ?_)
  obtain ⟨c, rfl, q1⟩ := q1
  cases r1
  refine wpAny_truthy_bool ?_
  cases c with
  | false => exact hb pins s1 σ H1 Q I1 q1
  | true => exact ⟨.bl true, H1, I1, rfl, q1⟩
theorem pe_not (ha : PE X a ta) : PE X (.UnaryOp .Not a pos) (tNotV ta) := by
  intro pins s σ H Q I h
  refine UnaryOp_ (thn (ha pins s σ H _ I h) fun v s1 ⟨x, H1, I1, r1, q1⟩ => ?_)
  obtain ⟨c, rfl, q1⟩ := q1
  cases r1
  exact not_of (wpAny_truthy_bool ⟨.bl (!c), H1, I1, rfl, q1⟩)
/-- a if t else b -/
def tIf (t : TT) (ta tb : TE) : TE := fun σ H Q => t σ H fun c H1 => if c = true then ta σ H1 Q else tb σ H1 Q
theorem pe_ifExp {c : Expr} (hc : PT X c tA) (ha : PE X a ta) (hb : PE X b tb) : PE X (.IfExp c a b pos) (tIf tA ta tb) := by
  intro pins s σ H Q I h
  refine wpAny_IfExp (thn (hc pins s σ H _ I h) fun d s1 ⟨H1, I1, q1⟩ => ?_)
  cases d with
  | true => exact ha pins s1 σ H1 Q I1 q1
  | false => exact hb pins s1 σ H1 Q I1 q1
end
end L2

namespace L2
open PySem PySem.Spec PyProof.Rows

/-! ### a list, a tuple that is read: tracked, frozen, or an object of the module -/
def SqL (K : PySem.W.Frag) (H : Hp) (a : Addr) (xs : List V) : Prop :=
  Rd H a (.lst xs) ∨
    ∃ (o : Obj) (its : Array Value) (n : Nat), K.lookup a = some o ∧ o.cls = .type "list" ∧ o.dict = none ∧ o.data = .seq its n ∧ its.size ≤ sizeLine ∧ Vals xs its.toList
def SqT (K : PySem.W.Frag) (H : Hp) (a : Addr) (xs : List V) : Prop :=
  Rd H a (.tup xs) ∨
    ∃ (o : Obj) (its : Array Value) (n : Nat), K.lookup a = some o ∧ o.cls = .type "tuple" ∧ o.data = .seq its n ∧ its.size ≤ sizeLine ∧ Vals xs its.toList
def absV : Value → Option V
  | .none => some .non
  | .bool b => some (.bl b)
  | .int i _ => some (.int i)
  | .str x _ => some (.str x)
  | .bytes b _ => some (.byt b)
  | .float b _ => some (.flt b)
  | .ref a => some (.ref a)
  | .type n => some (.ty n)
  | _ => none
theorem RelV.abs {x : V} {u : Value} (r : RelV x u) : absV u = some x := by
  cases x with
  | non => cases r; rfl
  | bl _ => cases r; rfl
  | int _ => obtain ⟨t, rfl⟩ := r; rfl
  | str _ => obtain ⟨t, rfl⟩ := r; rfl
  | byt _ => obtain ⟨t, rfl⟩ := r; rfl
  | flt _ => obtain ⟨t, rfl⟩ := r; rfl
  | ref _ => cases r; rfl
  | ty _ => cases r; rfl
theorem RelV.inj {x y : V} {u : Value} (r : RelV x u) (q : RelV y u) : x = y := Option.some.inj (r.abs.symm.trans q.abs)
theorem Vals.inj : ∀ {xs ys : List V} {us : List Value}, Vals xs us → Vals ys us → xs = ys
  | _, _, _, .nil, .nil => rfl
  | _, _, _, .cons r t, .cons r' t' => by rw [r.inj r', Vals.inj t t']
section
variable {X : Cx} {pins : List (Addr × Obj)} {σ : St} {H : Hp} {s : Shared} {a : Addr} {xs ys : List V}
theorem SqL.of {K : PySem.W.Frag} (h : H a = some (.lst xs)) : SqL K H a xs := .inl (.inl h)
theorem SqT.of {K : PySem.W.Frag} (h : H a = some (.tup xs)) : SqT K H a xs := .inl (.inl h)
theorem Inv.list (I : Inv X pins σ H s) (h : SqL X.K H a xs) : ∃ its : List Value, Vals xs its ∧ PlainL s.heap a its.toArray ∧ xs.length ≤ sizeLine := by
  rcases h with h | ⟨o, its, n, hk, hc, hd, hs, hz, r⟩
  · obtain ⟨z, its, n, r, e⟩ := h.ok I.hok
    exact ⟨its, r, ⟨_, n, e, rfl, rfl, rfl⟩, z⟩
  · refine ⟨its.toList, r, ⟨o, n, I.kIn a o hk, hc, hd, by simpa using hs⟩, ?_⟩
    have e := r.length
    simp only [Array.length_toList] at e
    omega
theorem Inv.tuple (I : Inv X pins σ H s) (h : SqT X.K H a xs) : ∃ its : List Value, Vals xs its ∧ IsTup s.heap a its.toArray ∧ xs.length ≤ sizeLine := by
  rcases h with h | ⟨o, its, n, hk, hc, hs, hz, r⟩
  · obtain ⟨z, its, r, p⟩ := h.ok I.hok
    exact ⟨its, r, p, z⟩
  · refine ⟨its.toList, r, ⟨o, I.kIn a o hk, hc, n, by simpa using hs⟩, ?_⟩
    have e := r.length
    simp only [Array.length_toList] at e
    omega
theorem Inv.list_inj (I : Inv X pins σ H s) (h : SqL X.K H a xs) (h' : SqL X.K H a ys) : xs = ys := by
  obtain ⟨its, r, ⟨o, n, e, _, _, d⟩, _⟩ := I.list h
  obtain ⟨its', r', ⟨o', n', e', _, _, d'⟩, _⟩ := I.list h'
  rw [e] at e'; cases e'
  rw [d] at d'
  injection d' with d1 _
  have : its = its' := by simpa using congrArg Array.toList d1
  subst this
  exact r.inj r'
theorem Inv.tuple_inj (I : Inv X pins σ H s) (h : SqT X.K H a xs) (h' : SqT X.K H a ys) : xs = ys := by
  obtain ⟨its, r, ⟨o, e, _, n, d⟩, _⟩ := I.tuple h
  obtain ⟨its', r', ⟨o', e', _, n', d'⟩, _⟩ := I.tuple h'
  rw [e] at e'; cases e'
  rw [d] at d'
  injection d' with d1 _
  have : its = its' := by simpa using congrArg Array.toList d1
  subst this
  exact r.inj r'
end

/-! ### another wish about exceptions -/
abbrev Cx.wish (X : Cx) (E : Value → Shared → Prop) : Cx := { X with xe := E }
/-- no exception leaves -/
abbrev Cx.nox (X : Cx) : Cx := X.wish fun _ _ => False
theorem Cx.Ok.wish {X : Cx} (ok : X.Ok) (E : Value → Shared → Prop) : (X.wish E).Ok :=
  ⟨ok.mod, ok.kind, ok.glob, ok.blt, ok.above, ok.inj, ok.has, ok.cab, ok.hd, ok.frames, ok.stk, ok.exf, ok.bs, ok.bsz, ok.noex, ok.exfs, ok.funs, ok.frf⟩
theorem Cx.Ok.unwish {X : Cx} {E : Value → Shared → Prop} (ok : (X.wish E).Ok) : X.Ok :=
  ⟨ok.mod, ok.kind, ok.glob, ok.blt, ok.above, ok.inj, ok.has, ok.cab, ok.hd, ok.frames, ok.stk, ok.exf, ok.bs, ok.bsz, ok.noex, ok.exfs, ok.funs, ok.frf⟩
section
variable {X : Cx} {pins : List (Addr × Obj)} {σ : St} {H : Hp} {s : Shared} {E : Value → Shared → Prop}
theorem Inv.wish (I : Inv X pins σ H s) (E : Value → Shared → Prop) : Inv (X.wish E) pins σ H s := ⟨I.ok.wish E, I.os, I.bare, I.base, I.loc, I.cell, I.free, I.freeC, I.pin, I.hok, I.len⟩
theorem Inv.unwish (I : Inv (X.wish E) pins σ H s) : Inv X pins σ H s := ⟨I.ok.unwish, I.os, I.bare, I.base, I.loc, I.cell, I.free, I.freeC, I.pin, I.hok, I.len⟩
theorem SP.unwish {D : Ends} {f : Flow} {s' : Shared} (h : SP (X.wish E) pins D f s') : SP X pins D f s' := by
  cases f with
  | next => obtain ⟨σ', H', I, q⟩ := h; exact ⟨σ', H', I.unwish, q⟩
  | brk => obtain ⟨σ', H', I, q⟩ := h; exact ⟨σ', H', I.unwish, q⟩
  | cont => obtain ⟨σ', H', I, q⟩ := h; exact ⟨σ', H', I.unwish, q⟩
  | ret u => obtain ⟨v, σ', H', I, r, q⟩ := h; exact ⟨v, σ', H', I.unwish, r, q⟩
theorem PE.nox {e : Expr} {t : TE} (h : PE X.nox e t) : PE X e t := fun pins s σ H Q I hw =>
  wpAny_mono (h pins s σ H Q (I.wish _) hw) (fun _ _ ⟨v, H', I', r, q⟩ => ⟨v, H', I'.unwish, r, q⟩) fun _ _ z => False.elim z
theorem PT.nox {e : Expr} {t : TT} (h : PT X.nox e t) : PT X e t := fun pins s σ H Q I hw =>
  wpAny_mono (h pins s σ H Q (I.wish _) hw) (fun _ _ ⟨H', I', q⟩ => ⟨H', I'.unwish, q⟩) fun _ _ z => False.elim z
theorem PSs.nox {st : List Stmt} {t : TS} (h : PSs X.nox st t) : PSs X st t := fun pins s σ H D I hw =>
  wpAny_mono (h pins s σ H D (I.wish _) hw) (fun _ _ q => q.unwish) fun _ _ z => False.elim z
end

/-! ### blocks and small statements -/
section
variable {X : Cx} {st : Stmt} {rest : List Stmt} {t u : TS} {e : Expr} {te : TE} {pos : Pos}
def tNext : TS := fun D σ H => D.nx σ H
def tSeq (t u : TS) : TS := fun D σ H => t { D with nx := u D } σ H
theorem pss_nil : PSs X [] tNext := fun _ _ σ H _ I h => wpAny_execs_nil ⟨σ, H, I, h⟩
theorem pss_cons (h1 : PS X st t) (h2 : PSs X rest u) : PSs X (st :: rest) (tSeq t u) := by
  intro pins s σ H D I h
  refine wpAny_execs_cons (thn (h1 pins s σ H { D with nx := u D } I h) fun f s1 q => ?_)
  cases f with
  | next =>
    obtain ⟨σ', H', I', q⟩ := q
    exact h2 pins s1 σ' H' D I' q
  | ret v => exact q
  | brk => exact q
  | cont => exact q
theorem pss_one (h1 : PS X st t) : PSs X [st] t := by
  intro pins s σ H D I h
  refine wpAny_execs_cons (thn (h1 pins s σ H D I h) fun f s1 q => ?_)
  cases f with
  | next => exact wpAny_execs_nil q
  | ret v => exact q
  | brk => exact q
  | cont => exact q
def tBreak : TS := fun D σ H => D.bk σ H
def tCont : TS := fun D σ H => D.ct σ H
theorem ps_pass : PS X (.Pass pos) tNext := fun _ _ σ H _ I h => wpAny_Pass ⟨σ, H, I, h⟩
theorem ps_break : PS X (.Break pos) tBreak := fun _ _ σ H _ I h => wpAny_Break ⟨σ, H, I, h⟩
theorem ps_continue : PS X (.Continue pos) tCont := fun _ _ σ H _ I h => wpAny_Continue ⟨σ, H, I, h⟩
/-- in a def's body nothing is shown -/
theorem Inv.quiet {pins : List (Addr × Obj)} {σ : St} {H : Hp} {s : Shared} (I : Inv X pins σ H s) : interactive X.env = false := by simp [interactive, I.ok.kind]
/-- a docstring -/
theorem ps_doc {x j pos pos'} : PS X (.Expr (.Constant (.str x) j pos) pos') tNext := fun _ s σ H _ I h => wpAny_Expr (Calls.Constant_str (show SP X _ _ .next { s with toks := s.toks + 1 } from ⟨σ, H, I.tok _, h⟩)) I.quiet
/-- an expression whose value is dropped -/
def tDrop (te : TE) : TS := fun D σ H => te σ H fun _ H1 => D.nx σ H1
theorem ps_expr (he : PE X e te) (hs : swapsWith e none pos.line X.env = pure false := by rfl) : PS X (.Expr e pos) (tDrop te) := by
  intro pins s σ H D I h
  exact wpAny_Expr_any (thn (he pins s σ H _ I h) fun v s1 ⟨x, H1, I1, r1, q1⟩ => ⟨σ, H1, I1, q1⟩) I.quiet hs
def tRet (te : TE) : TS := fun D σ H => te σ H D.rt
theorem ps_ret (he : PE X e te) : PS X (.Return (some e) pos) (tRet te) := by
  intro pins s σ H D I h
  exact wpAny_Return_some (thn (he pins s σ H _ I h) fun v s1 ⟨x, H1, I1, r1, q1⟩ => ⟨x, σ, H1, I1, r1, q1⟩)
def tRetN : TS := fun D _ H => D.rt .non H
theorem ps_retN : PS X (.Return none pos) tRetN := fun _ _ σ H _ I h => wpAny_Return_none ⟨.non, σ, H, I, rfl, h⟩
def tIfS (c : TT) (t u : TS) : TS := fun D σ H => c σ H fun b H1 => if b = true then t D σ H1 else u D σ H1
theorem ps_if {c : Expr} {a b : List Stmt} {tc : TT} (hc : PT X c tc) (ha : PSs X a t) (hb : PSs X b u) : PS X (.If c a b pos) (tIfS tc t u) := by
  intro pins s σ H D I h
  refine wpAny_If (thn (hc pins s σ H _ I h) fun d s1 ⟨H1, I1, q1⟩ => ?_)
  cases d with
  | true => exact ha pins s1 σ H1 D I1 q1
  | false => exact hb pins s1 σ H1 D I1 q1
/-- code that the proof never comes to -/
def tNever : TS := fun _ _ _ => False
theorem ps_never : PS X st tNever := fun _ _ _ _ _ _ h => h.elim
theorem pss_never {sts : List Stmt} : PSs X sts tNever := fun _ _ _ _ _ _ h => h.elim
end

/-! ### targets -/
abbrev TG := V → St → Hp → (St → Hp → Prop) → Prop
abbrev TGs := List V → St → Hp → (St → Hp → Prop) → Prop
def PG (X : Cx) (target : Expr) (t : TG) : Prop :=
  ∀ (pins : List (Addr × Obj)) (s : Shared) (σ : St) (H : Hp) (v : V) (u : Value) (Q : St → Hp → Prop), Inv X pins σ H s → RelV v u → t v σ H Q →
    wpAny (model X.prog X.w) X.A (assign target X.env u) (fun _ s' => ∃ σ' H', Inv X pins σ' H' s' ∧ Q σ' H') X.xe s
/-- several targets, one after another -/
def PGs (X : Cx) (ts : List Expr) (t : TGs) : Prop :=
  ∀ (pins : List (Addr × Obj)) (s : Shared) (σ : St) (H : Hp) (vs : List V) (us : List Value) (Q : St → Hp → Prop), Inv X pins σ H s → Vals vs us → t vs σ H Q →
    wpAny (model X.prog X.w) X.A (assignInOrder ((assignEach ts X.env).map (·.2)) us) (fun _ s' => ∃ σ' H', Inv X pins σ' H' s' ∧ Q σ' H') X.xe s
/-- o[i] = v, by values -/
abbrev TSet := V → V → V → Hp → (Hp → Prop) → Prop
def PSet (X : Cx) (t : TSet) : Prop :=
  ∀ (pins : List (Addr × Obj)) (s : Shared) (σ : St) (H : Hp) (o i v : V) (ov iv u : Value) (Q : Hp → Prop), Inv X pins σ H s → RelV o ov → RelV i iv → RelV v u → t o i v H Q →
    wpAny (model X.prog X.w) X.A (setItem ov iv u) (fun _ s' => ∃ H', Inv X pins σ H' s' ∧ Q H') X.xe s
/-- a op= b, by values -/
abbrev TIp := V → V → Hp → VK → Prop
def PIp (X : Cx) (op : Operator) (t : TIp) : Prop :=
  ∀ (pins : List (Addr × Obj)) (s : Shared) (σ : St) (H : Hp) (x y : V) (v u : Value) (Q : VK), Inv X pins σ H s → RelV x v → RelV y u → t x y H Q →
    wpAny (model X.prog X.w) X.A (inplaceOp op v u) (EP X pins σ Q) X.xe s
section
variable {X : Cx} {pos : Pos}
def gName (i : Nat) : TG := fun v σ H Q => Q (σ.set i (some v)) H
theorem pg_name {i : Nat} {x : Str} (hN : X.N.Nodup) (hi : X.N[i]? = some x) (hx : Loc X.env.scope x) (hf : X.fn x = true ∨ X.env.scope.names.lookup x = some .local := by first | exact .inl rfl | exact .inr rfl | assumption) : PG X (.Name x pos) (gName i) := by
  intro pins s σ H v u Q I r h
  exact wpAny_assign_Name (store_ok I hN hi hx r (fun s' I' => ⟨_, H, I', h⟩) hf)
def gNil : TGs := fun vs σ H Q => vs = [] ∧ Q σ H
def gCons (t : TG) (u : TGs) : TGs := fun vs σ H Q => ∃ v r, vs = v :: r ∧ t v σ H fun σ' H' => u r σ' H' Q
theorem pgs_nil : PGs X [] gNil := by
  intro pins s σ H vs us Q I r h
  obtain ⟨e, h⟩ := h
  subst e
  cases r
  exact assignInOrder_nil ⟨σ, H, I, h⟩
theorem pgs_cons {e : Expr} {es : List Expr} {t : TG} {u : TGs} (h1 : PG X e t) (h2 : PGs X es u)
    (hs : (assignEach (e :: es) X.env).map (·.2) = assign e X.env :: (assignEach es X.env).map (·.2) := by rfl) : PGs X (e :: es) (gCons t u) := by
  intro pins s σ H vs us Q I r h
  obtain ⟨v, vr, e1, h⟩ := h
  subst e1
  cases r with
  | cons r rr =>
    rw [hs]
    refine assignInOrder_cons (thn (h1 pins s σ H _ _ _ I r h) fun _ s1 ⟨σ1, H1, I1, q1⟩ => ?_)
    exact h2 pins s1 σ1 H1 _ _ Q I1 rr q1
/-- (a, b, ..) = a tuple of that length -/
def gTup (K : PySem.W.Frag) (n : Nat) (t : TGs) : TG := fun v σ H Q => ∃ a xs, v = .ref a ∧ SqT K H a xs ∧ xs.length = n ∧ t xs σ H Q
theorem pg_tup {es : List Expr} {k : Nat} {t : TGs} {n : Nat} (hc : X.calm = true) (h : PGs X es t)
    (hn : (assignEach es X.env).length = n := by rfl) (hst : (assignEach es X.env).findIdx? (·.1) = none := by rfl) : PG X (.Tuple es k pos) (gTup X.K n t) := by
  intro pins s σ H v u Q I r hw
  obtain ⟨a, xs, e1, hq, hl, hw⟩ := hw
  subst e1
  cases r
  obtain ⟨its, rv, ht, hz⟩ := I.tuple hq
  refine assign_Tuple_tuple (I.ok.hd hc) ht (by simp [hn, ← hl, rv.length]) hst fun h' hx => ?_
  have I1 : Inv X pins σ H { s with heap := h' } := I.kept (t' := s.toks) fun b o e => hx b o (Nat.ne_of_lt (Heap.lt_size e)) e
  exact h pins _ σ H xs _ Q I1 (by simpa using rv) hw
/-- o[i] = .. -/
def gSub (to ti : TE) (t : TSet) : TG := fun v σ H Q => to σ H fun o H1 => ti σ H1 fun i H2 => t o i v H2 fun H3 => Q σ H3
theorem pg_sub {o i : Expr} {to ti : TE} {t : TSet} (ho : PE X o to) (hi : PE X i ti) (hs : PSet X t)
    (ha : ∀ v, assign (.Subscript o i pos) X.env v = (do
      let ov ← holding [v] (eval o X.env)
      let iv ← holding [v, ov] (eval i X.env)
      standAt pos
      holding [v, ov, iv] (setItem ov iv v)
      release [v, ov, iv] []) := by intro _; rfl) : PG X (.Subscript o i pos) (gSub to ti t) := by
  intro pins s σ H v u Q I r h
  rw [ha]
  refine wpAny_bind (wpAny_holding (thn (ho pins s σ H _ I h) fun ov s1 ⟨x, H1, I1, r1, q1⟩ => ?_))
  refine wpAny_bind (wpAny_holding (thn (hi pins s1 σ H1 _ I1 q1) fun iv s2 ⟨y, H2, I2, r2, q2⟩ => ?_))
  refine wpAny_bind (wpAny_standAt (wpAny_bind (wpAny_holding (thn (hs pins s2 σ H2 x y v ov iv u _ I2 r1 r2 r q2) fun _ s3 ⟨H3, I3, q3⟩ => ?_))))
  exact wpAny_release ⟨σ, H3, I3, q3⟩
/-- target = value -/
def tAsg (te : TE) (g : TG) : TS := fun D σ H => te σ H fun x H1 => g x σ H1 D.nx
theorem ps_asg {tg e : Expr} {te : TE} {g : TG} (he : PE X e te) (hg : PG X tg g) (hs : swapsWithSole [tg] e pos.line X.env = pure false := by rfl) (hw : swappedStores [tg] e X.env = pure none := by rfl)
    (h1 : (assignEach [tg] X.env).map (·.2) = [assign tg X.env] := by rfl) : PS X (.Assign [tg] e pos) (tAsg te g) := by
  intro pins s σ H D I h
  refine wpAny_Assign_stores (thn (he pins s σ H _ I h) fun v s1 ⟨x, H1, I1, r1, q1⟩ => ?_) hs hw
  rw [h1]
  exact thn (hg pins s1 σ H1 x v _ I1 r1 q1) fun _ s2 q => q
/-- name = value -/
theorem ps_set {i : Nat} {x : Str} {e : Expr} {te : TE} {pos' : Pos} (hN : X.N.Nodup) (hi : X.N[i]? = some x) (hx : Loc X.env.scope x) (he : PE X e te) (hs : swapsWith e (some (.Name x pos')) pos.line X.env = pure false := by rfl) (hf : X.fn x = true ∨ X.env.scope.names.lookup x = some .local := by first | exact .inl rfl | exact .inr rfl | assumption) :
    PS X (.Assign [.Name x pos'] e pos) (tAsg te (gName i)) := by
  intro pins s σ H D I h
  refine wpAny_Assign_Name (thn (he pins s σ H _ I h) fun v s1 ⟨y, H1, I1, r1, q1⟩ => ?_) hs
  exact store_ok I1 hN hi hx r1 (fun s2 I2 => ⟨_, H1, I2, q1⟩) hf
/-- a, b = x, y with plain local names: stored from the right; the pair itself is not tracked (the opening rows as in PyProof/Rows/TupAssign.lean:23) -/
def tPar (i j : Nat) (ta : TA) : TS := fun D σ H => ta σ H fun vs H1 => ∃ v w, vs = [v, w] ∧ D.nx ((σ.set i (some v)).set j (some w)) H1
theorem ps_par {i j : Nat} {x y : Str} {a b : Expr} {ta : TA} {px py pt : Pos} {kt k2 pt2} (hc : X.calm = true) (hN : X.N.Nodup) (hi : X.N[i]? = some x) (hj : X.N[j]? = some y) (hij : i ≠ j)
    (hx : X.env.scope.names.lookup x = some .local) (hy : X.env.scope.names.lookup y = some .local) (ha : PA X [a, b] ta)
    (hw : swappedStores [.Tuple [.Name x px, .Name y py] kt pt] (.Tuple [a, b] k2 pt2) X.env = pure (some [x, y]))
    (hs : swapsWithSole [.Tuple [.Name x px, .Name y py] kt pt] (.Tuple [a, b] k2 pt2) pos.line X.env = pure false := by rfl) :
    PS X (.Assign [.Tuple [.Name x px, .Name y py] kt pt] (.Tuple [a, b] k2 pt2) pos) (tPar i j ta) := by
  intro pins s σ H D I h
  rw [exec_Assign_arm]
  refine wpAny_bind (wpAny_standAt ?_)
  rw [hs]
  refine wpAny_bind (wpAny_pure ?_)
  rw [if_neg (by decide)]
  refine wpAny_bind (Tuple_ (thn (ha _ pins s σ H _ I h) fun us s1 ⟨vs, H1, I1, r1, q1⟩ => ?_))
  obtain ⟨v, w, e1, q1⟩ := q1
  subst e1
  obtain ⟨u1, u2, rfl, rv, rw'⟩ : ∃ u1 u2, us = [u1, u2] ∧ RelV v u1 ∧ RelV w u2 := by
    cases r1 with
    | cons p q =>
      cases q with
      | cons p' q' =>
        cases q'
        exact ⟨_, _, rfl, p, p'⟩
  refine wpAny_newObj_type ?_ (by show 2 ≤ sizeLine; decide)
  have I2 : Inv X pins σ H1 { s1 with heap := s1.heap.push { cls := .type "tuple", data := .seq [u1, u2].toArray } } := I1.kept (t' := s1.toks) fun b o e => Heap.get?_push_of_some _ e
  rw [hw]
  refine wpAny_bind (wpAny_pure ?_)
  show wpAny (model X.prog X.w) X.A (do rule "assign.swapped-stores"; let items ← unpackItems (.ref s1.heap.objs.size) 2 none; assignInOrder [fun v => bindName X.env y v, fun v => bindName X.env x v] items.reverse; pure Flow.next) _ _ _
  refine wpAny_bind (wpAny_rule (wpAny_bind (unpackItems_tuple (items := #[u1, u2]) (I.ok.hd hc) (IsTup.new s1.heap _) fun h' hx' => ?_)))
  have I3 := I2.kept (h' := h') (t' := s1.toks) fun b o e => hx' b o (Nat.ne_of_lt (Heap.lt_size e)) e
  show wpAny _ _ (assignInOrder [fun v => bindName X.env y v, fun v => bindName X.env x v] [u2, u1] >>= fun _ => pure Flow.next) _ _ _
  refine wpAny_bind (assignInOrder_cons (wpAny_bindName (store_ok I3 hN hj (.inl hy) rw' (fun s2 I4 => ?_) (.inr hy))))
  refine assignInOrder_cons (wpAny_bindName (store_ok I4 hN hi (.inl hx) rv (fun s3 I5 => assignInOrder_nil (wpAny_pure ?_)) (.inr hx)))
  rw [List.set_comm _ _ (Ne.symm hij)] at I5
  exact ⟨_, H1, I5, q1⟩
/-- name op= e -/
def tAug (i : Nat) (te : TE) (ti : TIp) : TS := fun D σ H => ∃ x, σ[i]? = some (some x) ∧ te σ H fun y H1 => ti x y H1 fun z H2 => D.nx (σ.set i (some z)) H2
theorem ps_aug {i : Nat} {x : Str} {e : Expr} {te : TE} {op : Operator} {ti : TIp} {pos' : Pos} (hN : X.N.Nodup) (hi : X.N[i]? = some x) (hx : Loc X.env.scope x) (he : PE X e te) (ho : PIp X op ti) (hf : X.fn x = true ∨ X.env.scope.names.lookup x = some .local := by first | exact .inl rfl | exact .inr rfl | assumption) :
    PS X (.AugAssign (.Name x pos') op e pos) (tAug i te ti) := by
  intro pins s σ H D I h
  obtain ⟨v, e1, h⟩ := h
  obtain ⟨m, hn, hl⟩ := I.loc
  have vis : Vis X.env.scope x := by rcases hx with k | k; exact .inl k; exact .inr (.inl k)
  obtain ⟨u, r, l⟩ := hl i x v hi e1 vis
  refine wpAny_AugAssign_Name ?_
  have go : wpAny (model X.prog X.w) X.A (eval e X.env) (fun w s₂ => wpAny (model X.prog X.w) X.A (inplaceOp op u w) (fun r s₃ => wpAny (model X.prog X.w) X.A (storeName X.env x r) (fun _ => SP X pins D .next) X.xe s₃) X.xe s₂) X.xe s := by
    refine thn (he pins s σ H _ I h) fun w s1 ⟨y, H1, I1, r1, q1⟩ => ?_
    refine thn (ho pins s1 σ H1 v y u w _ I1 r r1 q1) fun z s2 ⟨zv, H2, I2, r2, q2⟩ => ?_
    exact store_ok I2 hN hi hx r2 (fun s3 I3 => ⟨_, H2, I3, q2⟩) hf
  rcases l with ⟨hk, hm⟩ | ⟨hk, c, hc, hcell⟩
  · exact wpAny_loadName_local I.ok.kind hk hn hm go
  · rcases hk with hk | hk
    · exact wpAny_loadName_cell I.ok.kind hk hc hcell go
    · rcases hx with k | k
      · have : X.env.scope.names.lookup x = some .free := hk
        rw [k] at this; cases this
      · have : X.env.scope.names.lookup x = some .free := hk
        rw [k] at this; cases this
/-- o[i] op= e -/
def tAugS (to ti te : TE) (tget : V → V → Hp → VK → Prop) (tip : TIp) (tset : TSet) : TS := fun D σ H => to σ H fun o H1 => ti σ H1 fun i H2 => tget o i H2 fun x H3 => te σ H3 fun y H4 => tip x y H4 fun z H5 => tset o i z H5 fun H6 => D.nx σ H6
/-- o[i], by values -/
def PGet (X : Cx) (t : V → V → Hp → VK → Prop) : Prop :=
  ∀ (pins : List (Addr × Obj)) (s : Shared) (σ : St) (H : Hp) (o i : V) (ov iv : Value) (Q : VK), Inv X pins σ H s → RelV o ov → RelV i iv → t o i H Q →
    wpAny (model X.prog X.w) X.A (getItem ov iv) (EP X pins σ Q) X.xe s
theorem ps_augS {o i e : Expr} {to ti te : TE} {tget : V → V → Hp → VK → Prop} {tip : TIp} {tset : TSet} {op : Operator} {tpos : Pos} (ho : PE X o to) (hi : PE X i ti) (hg : PGet X tget) (he : PE X e te) (hp : PIp X op tip) (hs : PSet X tset)
    (ha : ∀ ov iv new, augStore i ov iv new = (do holding [new, ov, iv] (setItem ov iv new); release [new, ov, iv] []; pure .next) := by intros; rfl) : PS X (.AugAssign (.Subscript o i tpos) op e pos) (tAugS to ti te tget tip tset) := by
  intro pins s σ H D I h
  refine wpAny_AugAssign_SubscriptAny (thn (ho pins s σ H _ I h) fun ov s1 ⟨x1, H1, I1, r1, q1⟩ => ?_) ha
  refine thn (hi pins s1 σ H1 _ I1 q1) fun iv s2 ⟨x2, H2, I2, r2, q2⟩ => ?_
  refine thn (hg pins s2 σ H2 x1 x2 ov iv _ I2 r1 r2 q2) fun old s3 ⟨x3, H3, I3, r3, q3⟩ => ?_
  refine thn (he pins s3 σ H3 _ I3 q3) fun v s4 ⟨x4, H4, I4, r4, q4⟩ => ?_
  refine thn (hp pins s4 σ H4 x3 x4 old v _ I4 r3 r4 q4) fun new s5 ⟨x5, H5, I5, r5, q5⟩ => ?_
  exact thn (hs pins s5 σ H5 x1 x2 x5 ov iv new _ I5 r1 r2 r5 q5) fun _ s6 ⟨H6, I6, q6⟩ => ⟨σ, H6, I6, q6⟩
/-- ints -/
def ipI (f : Int → Int → Int) : TIp := fun x y H Q => ∃ i j, x = .int i ∧ y = .int j ∧ Q (.int (f i j)) H
theorem ip_add : PIp X .Add (ipI fun i j => i + j) := by
  intro pins s σ H x y v u Q I r1 r2 h
  obtain ⟨i, j, e1, e2, q⟩ := h
  subst e1; subst e2
  obtain ⟨t, rfl⟩ := r1
  obtain ⟨t', rfl⟩ := r2
  exact iadd_int ⟨.int _, H, I.tok _, ⟨_, rfl⟩, q⟩
theorem ip_sub : PIp X .Sub (ipI fun i j => i - j) := by
  intro pins s σ H x y v u Q I r1 r2 h
  obtain ⟨i, j, e1, e2, q⟩ := h
  subst e1; subst e2
  obtain ⟨t, rfl⟩ := r1
  obtain ⟨t', rfl⟩ := r2
  exact isub_int ⟨.int _, H, I.tok _, ⟨_, rfl⟩, q⟩
end

/-! ### while -/
section
variable {X : Cx} {pos : Pos}
/-- the invariant W with its measure -/
def tWhile (c : TT) (tb : TS) : TS := fun D σ H => ∃ W : Nat → St → Hp → Prop, (∃ m, W m σ H) ∧ ∀ m σ H, W m σ H →
  c σ H fun b H1 => if b = true then ∃ N : St → Hp → Prop, (∀ σ' H', N σ' H' → ∃ m', m' < m ∧ W m' σ' H') ∧ tb { D with nx := N, ct := N, bk := D.nx } σ H1 else D.nx σ H1
theorem ps_while {c : Expr} {body : List Stmt} {tc : TT} {tb : TS} (hp : PassesOwn (model X.prog X.w) X.A X.env X.xe) (hc : PT X c tc) (hb : PSs X body tb) : PS X (.While c body [] pos) (tWhile tc tb) := by
  intro pins s σ H D I h
  obtain ⟨W, ⟨m0, w0⟩, turn⟩ := h
  refine wpAny_While (codeAny_whileLoop (fun n s' => ∃ σ' H', Inv X pins σ' H' s' ∧ W n σ' H') ?_ m0 ⟨σ, H, I, w0⟩)
  rintro n s1 ⟨σ1, H1, I1, w1⟩
  refine wpAny_passesOwn hp (thn (hc pins s1 σ1 H1 _ I1 (turn n σ1 H1 w1)) fun b s2 ⟨H2, I2, q2⟩ => ?_)
  cases b with
  | true =>
    obtain ⟨N, hN, q2⟩ := q2
    rw [if_pos rfl]
    refine wpAny_passesOwn hp (thn (hb pins s2 σ1 H2 _ I2 q2) fun f s3 q3 => ?_)
    cases f with
    | next =>
      obtain ⟨σ3, H3, I3, n3⟩ := q3
      obtain ⟨m', hm, w3⟩ := hN σ3 H3 n3
      exact ⟨m', hm, σ3, H3, I3, w3⟩
    | cont =>
      obtain ⟨σ3, H3, I3, n3⟩ := q3
      obtain ⟨m', hm, w3⟩ := hN σ3 H3 n3
      exact ⟨m', hm, σ3, H3, I3, w3⟩
    | brk => exact q3
    | ret v => exact q3
  | false =>
    rw [if_neg Bool.false_ne_true]
    exact wpAny_execs_nil ⟨σ1, H2, I2, q2⟩
end

/-! ### what a loop or a comprehension walks -/
/-- at turn i: it yields x (the heap may grow), or it stops -/
structure It where
  go : Nat → Hp → Prop
  yld : Nat → Hp → V → Hp → Prop
  stop : Nat → Hp → Prop
/-- the iterator's own objects may turn: they are not the frame's, not pinned, younger than the entry (or a comprehension's own) -/
def FpOk (X : Cx) (pins : List (Addr × Obj)) (H : Hp) (b : Addr) : Prop :=
  H b = none ∧ b ≠ X.env.locals ∧ b ∉ X.fs ∧ (b ∈ X.ex ∨ X.s₀.heap.objs.size ≤ b) ∧ (∀ x c, X.env.cells.lookup x = some c → c ≠ b) ∧ ∀ p ∈ X.pn ++ pins, p.1 ≠ b
theorem Inv.fpOk {X : Cx} {pins : List (Addr × Obj)} {σ : St} {H H' : Hp} {s : Shared} {b : Addr} (I : Inv X pins σ H s) (hb : s.heap.objs.size ≤ b) (hn : H' b = none) : FpOk X pins H' b := by
  refine ⟨hn, Nat.ne_of_gt (Nat.lt_of_lt_of_le I.lt hb), I.nofs hb, .inr (Nat.le_trans I.sz hb), fun x c e z => ?_, fun p hp z => ?_⟩
  · obtain ⟨v, q⟩ := I.cell x c e
    exact absurd (Nat.lt_of_lt_of_le q.lt (by rw [z]; exact hb)) (Nat.lt_irrefl _)
  · exact absurd (Nat.lt_of_lt_of_le (Heap.lt_size (I.pin p hp).1) (by rw [z]; exact hb)) (Nat.lt_irrefl _)
structure Turn (P : Program) (w : World) (K : PySem.W.Frag) (tg : Expr) (J : It) (fp : List Addr) (it : Addr) (tn : Nat → Heap → Prop) : Prop where
  mem : it ∈ fp
  obj : ∀ i h, tn i h → ∀ b ∈ fp, ∃ o, h.get? b = some o ∧ ∀ v, o.data ≠ .cell v
  keep : ∀ i h h', tn i h → (∀ b ∈ fp, ∀ o, h.get? b = some o → h'.get? b = some o) → tn i h'
  item : ∀ (X : Cx), X.prog = P → X.w = w → X.K = K → X.calm = true → ∀ (i : Nat) (pins : List (Addr × Obj)) (s : Shared) (σ : St) (H : Hp) (E : Value → Shared → Prop), Inv X pins σ H s → (∀ b ∈ fp, FpOk X pins H b) → tn i s.heap → J.go i H →
    wpAny (model P w) X.A (pyNext (.ref it)) (fun r s1 => ∃ u, r = some u ∧
      wpAny (model P w) X.A (letOwnedTupleGo tg (.ref it) u) (fun _ s2 => ∃ x H', Inv X pins σ H' s2 ∧ RelV x u ∧ J.yld i H x H' ∧ tn (i + 1) s2.heap ∧ ∀ b ∈ fp, H' b = none) E s1) E s
  done : ∀ (X : Cx), X.prog = P → X.w = w → X.K = K → X.calm = true → ∀ (i : Nat) (pins : List (Addr × Obj)) (s : Shared) (σ : St) (H : Hp) (E : Value → Shared → Prop), Inv X pins σ H s → (∀ b ∈ fp, FpOk X pins H b) → tn i s.heap → J.stop i H →
    wpAny (model P w) X.A (pyNext (.ref it)) (fun r s1 => r = none ∧ Inv X pins σ H s1) E s
  self : ∀ (A : Around) (i : Nat) (s : Shared) (Q : Value → Shared → Prop) (E : Value → Shared → Prop), tn i s.heap → Q (.ref it) s → wpAny (model P w) A (pyIter (.ref it)) Q E s
abbrev TI := St → Hp → (It → Hp → Prop) → Prop
/-- an iterator has come -/
def PIE (X : Cx) (pins : List (Addr × Obj)) (σ : St) (tg : Expr) (R : It → Hp → Prop) (itv : Value) (s2 : Shared) : Prop :=
  ∃ (it : Addr) (fp : List Addr) (tn : Nat → Heap → Prop) (J : It) (H' : Hp), itv = .ref it ∧ Inv X pins σ H' s2 ∧ Turn X.prog X.w X.K tg J fp it tn ∧ tn 0 s2.heap ∧ (∀ b ∈ fp, FpOk X pins H' b) ∧ R J H'
def PI (X : Cx) (tg iter : Expr) (wi : TI) : Prop :=
  ∀ (pins : List (Addr × Obj)) (s : Shared) (σ : St) (H : Hp) (R : It → Hp → Prop), Inv X pins σ H s → wi σ H R →
    wpAny (model X.prog X.w) X.A (eval iter X.env) (fun v s1 => wpAny (model X.prog X.w) X.A (pyIter v) (PIE X pins σ tg R) X.xe s1) X.xe s

/-- the step ahead of the store is nothing for an iterator that keeps no tuple -/
theorem go_of {M : Model} {A : Around} {E : Value → Shared → Prop} {s : Shared} {tg : Expr} {it : Addr} {u : Value} {o : Obj} {n : String} {vs : Array Value} {Q : Unit → Shared → Prop} (ho : s.heap.get? it = some o) (hc : o.cls = .type n) (hd : o.data = .fields vs)
    (hn : ["enumerate", "zip", "dict_itemiterator", "dict_reverseitemiterator", "odict_iterator", "itertools.zip_longest", "itertools.pairwise"].contains n = false) (hQ : Q () s) : wpAny M A (letOwnedTupleGo tg (.ref it) u) Q E s := by
  unfold letOwnedTupleGo
  cases tg <;> first
    | exact wpAny_pure hQ
    | (cases u <;> first
        | exact wpAny_pure hQ
        | (refine wpAny_bind (wpAny_load ho ?_)
           rw [hc, hd]
           show wpAny M A (if (["enumerate", "zip", "dict_itemiterator", "dict_reverseitemiterator", "odict_iterator", "itertools.zip_longest", "itertools.pairwise"].contains n && vs[0]? == some (rawInt _)) = true then _ else _) Q E s
           rw [if_neg (by intro h; rw [hn, Bool.false_and] at h; cases h)]
           exact wpAny_pure hQ))

/-- the list at a, as it stands at each turn (a loop may append to it) -/
def Itl (K : PySem.W.Frag) (a : Addr) : It :=
  ⟨fun i H => ∃ xs x, SqL K H a xs ∧ xs[i]? = some x, fun i H x H' => H' = H ∧ ∀ xs, SqL K H a xs → xs[i]? = some x, fun i H => ∃ xs, SqL K H a xs ∧ xs.length ≤ i⟩
def Itt (K : PySem.W.Frag) (a : Addr) : It :=
  ⟨fun i H => ∃ xs x, SqT K H a xs ∧ xs[i]? = some x, fun i H x H' => H' = H ∧ ∀ xs, SqT K H a xs → xs[i]? = some x, fun i H => ∃ xs, SqT K H a xs ∧ xs.length ≤ i⟩
/-- lo, lo + 1, .. (n of them) -/
def Itr (lo : Int) (n : Nat) : It := ⟨fun i _ => i < n, fun i H x H' => H' = H ∧ x = .int (lo + i), fun i _ => n ≤ i⟩
theorem turn_list {P : Program} {w : World} {K : PySem.W.Frag} {tg : Expr} (a it : Addr) : Turn P w K tg (Itl K a) [it] it (fun i h => h.IsListIter it a i) where
  mem := by simp
  obj := fun i h st b hb => by
    have e : b = it := by simpa using hb
    subst e
    obtain ⟨o, e, c, d⟩ := st
    exact ⟨o, e, fun v z => by rw [d] at z; cases z⟩
  keep := fun i h h' st k => st.at fun o e => k it (by simp) o e
  item := by
    intro X hP hw hK hc i pins s σ H E I hf st hg
    subst hP hw hK
    obtain ⟨xs, x, hq, hx⟩ := hg
    obtain ⟨its, rv, p, hz⟩ := I.list hq
    obtain ⟨u, hu, ru⟩ := rv.get hx
    obtain ⟨f0, f1, f2, f3, f4, f5⟩ := hf it (by simp)
    refine wpAny_pyNext_list_item st p.isList (x := u) (by simpa using hu) fun h' st' sb => ?_
    have I1 : Inv X pins σ H { s with heap := h' } := I.turned (t' := s.toks) (fun b o hb e => (sb.2 b hb).trans e) f0 f1 f3 f4 f5
    obtain ⟨o, e, c, d⟩ := id st'
    exact ⟨u, rfl, go_of (s := { s with heap := h' }) e c d (by decide) ⟨x, H, I1, ru, ⟨rfl, fun ys hy => by rw [I.list_inj hy hq]; exact hx⟩, st', fun b hb => (hf b hb).1⟩⟩
  done := by
    intro X hP hw hK hc i pins s σ H E I hf st hg
    subst hP hw hK
    obtain ⟨xs, hq, hx⟩ := hg
    obtain ⟨its, rv, p, hz⟩ := I.list hq
    obtain ⟨f0, f1, f2, f3, f4, f5⟩ := hf it (by simp)
    have hl := rv.length
    exact wpAny_pyNext_list_end (I.ok.hd hc) st p.isList (by simp; omega) fun h' eb => ⟨rfl, I.turned (t' := s.toks) (fun b o hb e => eb b o hb e) f0 f1 f3 f4 f5⟩
  self := fun _ _ _ _ _ st h => wpAny_pyIter_listiter st h
theorem turn_tuple {P : Program} {w : World} {K : PySem.W.Frag} {tg : Expr} (a it : Addr) : Turn P w K tg (Itt K a) [it] it (fun i h => h.IsTupleIter it a i) where
  mem := by simp
  obj := fun i h st b hb => by
    have e : b = it := by simpa using hb
    subst e
    obtain ⟨o, e, c, d⟩ := st
    exact ⟨o, e, fun v z => by rw [d] at z; cases z⟩
  keep := fun i h h' st k => st.at fun o e => k it (by simp) o e
  item := by
    intro X hP hw hK hc i pins s σ H E I hf st hg
    subst hP hw hK
    obtain ⟨xs, x, hq, hx⟩ := hg
    obtain ⟨its, rv, p, hz⟩ := I.tuple hq
    obtain ⟨u, hu, ru⟩ := rv.get hx
    obtain ⟨f0, f1, f2, f3, f4, f5⟩ := hf it (by simp)
    refine wpAny_pyNext_tuple_item st (show s.heap.IsTuple a its.toArray from p) (x := u) (by simpa using hu) fun h' st' sb => ?_
    have I1 : Inv X pins σ H { s with heap := h' } := I.turned (t' := s.toks) (fun b o hb e => (sb.2 b hb).trans e) f0 f1 f3 f4 f5
    obtain ⟨o, e, c, d⟩ := id st'
    exact ⟨u, rfl, go_of (s := { s with heap := h' }) e c d (by decide) ⟨x, H, I1, ru, ⟨rfl, fun ys hy => by rw [I.tuple_inj hy hq]; exact hx⟩, st', fun b hb => (hf b hb).1⟩⟩
  done := by
    intro X hP hw hK hc i pins s σ H E I hf st hg
    subst hP hw hK
    obtain ⟨xs, hq, hx⟩ := hg
    obtain ⟨its, rv, p, hz⟩ := I.tuple hq
    obtain ⟨f0, f1, f2, f3, f4, f5⟩ := hf it (by simp)
    have hl := rv.length
    exact wpAny_pyNext_tuple_end (I.ok.hd hc) st (show s.heap.IsTuple a its.toArray from p) (by simp; omega) fun h' eb => ⟨rfl, I.turned (t' := s.toks) (fun b o hb e => eb b o hb e) f0 f1 f3 f4 f5⟩
  self := fun _ _ _ _ _ st h => wpAny_pyIter_tupleiter st h
theorem turn_range {P : Program} {w : World} {K : PySem.W.Frag} {tg : Expr} (it : Addr) (lo : Int) (n : Nat) : Turn P w K tg (Itr lo n) [it] it (fun i h => IsRangeIter h it (lo + (i : Nat) * 1) ((n : Int) - (i : Nat)) 1) where
  mem := by simp
  obj := fun i h st b hb => by
    have e : b = it := by simpa using hb
    subst e
    exact ⟨_, st, fun v z => by
      have z' : Data.fields _ = Data.cell v := z
      cases z'⟩
  keep := fun i h h' st k => k it (by simp) _ st
  item := by
    intro X hP hw hK hc i pins s σ H E I hf st hg
    subst hP hw hK
    obtain ⟨f0, f1, f2, f3, f4, f5⟩ := hf it (by simp)
    have W := Walks.range (prog := X.prog) (w := X.w) (I.ok.hd hc) it lo 1 n
    refine W.item i s _ _ hg st fun v h' tk hv st' kk => ?_
    obtain ⟨t, rfl⟩ := hv
    have I1 : Inv X pins σ H { s with heap := h', toks := tk } := I.turned (fun b o hb e => kk b o (by simpa using hb) e) f0 f1 f3 f4 f5
    refine ⟨_, rfl, go_of (s := { s with heap := h', toks := tk }) (n := "range_iterator") st' rfl rfl (by decide) ⟨.int (lo + i), H, I1, ⟨t, ?_⟩, ⟨rfl, rfl⟩, st', fun b hb => (hf b hb).1⟩⟩
    rw [Int.mul_one]
  done := by
    intro X hP hw hK hc i pins s σ H E I hf st hg
    subst hP hw hK
    obtain ⟨f0, f1, f2, f3, f4, f5⟩ := hf it (by simp)
    exact wpAny_pyNext_range_end (I.ok.hd hc) st (by have : n ≤ i := hg; omega) fun h' eb => ⟨rfl, I.turned (t' := s.toks) (fun b o hb e => eb b o hb e) f0 f1 f3 f4 f5⟩
  self := fun _ _ _ _ _ st h => wpAny_pyIter_rangeiter st h
end L2

namespace L2
open PySem PySem.Spec PyProof.Rows
section
variable {X : Cx} {tg : Expr}
def iList (K : PySem.W.Frag) (tl : TE) : TI := fun σ H R => tl σ H fun x H1 => ∃ a, x = .ref a ∧ (∃ xs, SqL K H1 a xs) ∧ R (Itl K a) H1
def iTup (K : PySem.W.Frag) (tl : TE) : TI := fun σ H R => tl σ H fun x H1 => ∃ a, x = .ref a ∧ (∃ xs, SqT K H1 a xs) ∧ R (Itt K a) H1
theorem pi_list {l : Expr} {tl : TE} (hl : PE X l tl) : PI X tg l (iList X.K tl) := by
  intro pins s σ H R I h
  refine thn (hl pins s σ H _ I h) fun v s1 ⟨x, H1, I1, r1, q1⟩ => ?_
  obtain ⟨a, e, ⟨xs, hq⟩, q⟩ := q1
  subst e
  cases r1
  obtain ⟨its, rv, p, hz⟩ := I1.list hq
  refine wpAny_pyIter_list p.isList ?_
  refine ⟨s1.heap.objs.size, [s1.heap.objs.size], _, _, H1, rfl, I1.kept (t' := s1.toks) fun b o e => Heap.get?_push_of_some _ e, turn_list a _, ⟨_, Heap.get?_push_size _ rfl, rfl, rfl⟩, fun b hb => ?_, q⟩
  have e : b = s1.heap.objs.size := by simpa using hb
  subst e
  exact I1.fpOk (Nat.le_refl _) (I1.hok.fresh (Nat.le_refl _))
theorem pi_tup {l : Expr} {tl : TE} (hl : PE X l tl) : PI X tg l (iTup X.K tl) := by
  intro pins s σ H R I h
  refine thn (hl pins s σ H _ I h) fun v s1 ⟨x, H1, I1, r1, q1⟩ => ?_
  obtain ⟨a, e, ⟨xs, hq⟩, q⟩ := q1
  subst e
  cases r1
  obtain ⟨its, rv, p, hz⟩ := I1.tuple hq
  refine wpAny_pyIter_tuple (show s1.heap.IsTuple a its.toArray from p) ?_
  refine ⟨s1.heap.objs.size, [s1.heap.objs.size], _, _, H1, rfl, I1.kept (t' := s1.toks) fun b o e => Heap.get?_push_of_some _ e, turn_tuple a _, ⟨_, Heap.get?_push_size _ rfl, rfl, rfl⟩, fun b hb => ?_, q⟩
  have e : b = s1.heap.objs.size := by simpa using hb
  subst e
  exact I1.fpOk (Nat.le_refl _) (I1.hok.fresh (Nat.le_refl _))
/-- a range object just made, walked -/
theorem range_it {pins : List (Addr × Obj)} {σ : St} {H : Hp} {s : Shared} {R : It → Hp → Prop} {E : Value → Shared → Prop} {lo hi : Int} {t u v : Tok} {tk : Nat} (I : Inv X pins σ H s) (h1 : -(2 ^ 62) ≤ lo) (h2 : lo < 2 ^ 62) (h3 : -(2 ^ 62) ≤ hi) (h4 : hi < 2 ^ 62)
    (q : R (Itr lo (hi - lo).toNat) H) : wpAny (model X.prog X.w) X.A (pyIter (.ref s.heap.objs.size)) (PIE X pins σ tg R) E { s with heap := s.heap.push { cls := .type "range", data := .fields #[.int lo t, .int hi u, .int 1 v] }, toks := tk } := by
  refine wpAny_pyIter_range (IsRange.new ..) (small_one h1 h2 h3 h4) ?_
  have I1 : Inv X pins σ H { s with heap := s.heap.push { cls := .type "range", data := .fields #[.int lo t, .int hi u, .int 1 v] }, toks := tk } := I.kept fun b o e => Heap.get?_push_of_some _ e
  refine ⟨(s.heap.push { cls := .type "range", data := .fields #[.int lo t, .int hi u, .int 1 v] }).objs.size, [(s.heap.push { cls := .type "range", data := .fields #[.int lo t, .int hi u, .int 1 v] }).objs.size], _, _, H, rfl,
    I1.kept (t' := tk) fun b o e => Heap.get?_push_of_some _ e, turn_range _ lo (hi - lo).toNat, ?_, fun b hb => ?_, q⟩
  · have e1 : lo + ((0 : Nat) : Int) * 1 = lo := by simp
    have e2 : (((hi - lo).toNat : Nat) : Int) - ((0 : Nat) : Int) = Builtin.Range.rangeSize lo hi 1 := by rw [rangeSize_one]; split <;> omega
    show IsRangeIter _ _ (lo + ((0 : Nat) : Int) * 1) ((((hi - lo).toNat : Nat) : Int) - ((0 : Nat) : Int)) 1
    rw [e1, e2]
    exact Heap.get?_push_size _ rfl
  · have e : b = (s.heap.push { cls := .type "range", data := .fields #[.int lo t, .int hi u, .int 1 v] }).objs.size := by simpa using hb
    subst e
    exact I1.fpOk (Nat.le_refl _) (I1.hok.fresh (Nat.le_refl _))
def iRng1 (ta : TA) : TI := fun σ H R => ta σ H fun vs H1 => ∃ j : Int, vs = [.int j] ∧ -(2 ^ 62) ≤ j ∧ j < 2 ^ 62 ∧ R (Itr 0 j.toNat) H1
def iRng2 (ta : TA) : TI := fun σ H R => ta σ H fun vs H1 => ∃ i j : Int, vs = [.int i, .int j] ∧ (-(2 ^ 62) ≤ i ∧ i < 2 ^ 62 ∧ -(2 ^ 62) ≤ j ∧ j < 2 ^ 62) ∧ R (Itr i (j - i).toNat) H1
theorem pi_range1 {a : Expr} {ta : TA} {p pos : Pos} (hg : Gl X "range") (hm : X.mg "range" = none) (ha : PA X [a] ta) (hs : starEach [a] X.env = [(false, eval a X.env)] := by rfl) : PI X tg (.Call (.Name "range" p) [a] [] pos) (iRng1 ta) := by
  intro pins s σ H R I h
  refine Call_ (ld_blt I hg hm boot_range (PyProof.Rows.callWith_type1 (thn (ha pos pins s σ H _ I h) fun us s1 ⟨vs, H1, I1, r1, q1⟩ => ?_) hs rfl))
  obtain ⟨j, e, q1, q2, q⟩ := q1
  subst e
  cases r1 with
  | cons r rr =>
    cases rr
    obtain ⟨t, rfl⟩ := r
    exact call_range_1 (range_it I1 (by omega) (by omega) q1 q2 (by simpa using q))
theorem pi_range2 {a b : Expr} {ta : TA} {p pos : Pos} (hg : Gl X "range") (hm : X.mg "range" = none) (ha : PA X [a, b] ta) (hs : starEach [a, b] X.env = [(false, eval a X.env), (false, eval b X.env)] := by rfl) (hs2 : starEach [b] X.env = [(false, eval b X.env)] := by rfl) :
    PI X tg (.Call (.Name "range" p) [a, b] [] pos) (iRng2 ta) := by
  intro pins s σ H R I h
  refine Call_ (ld_blt I hg hm boot_range (PyProof.Rows.callWith_type1 (thn (ha pos pins s σ H _ I h) fun us s1 ⟨vs, H1, I1, r1, q1⟩ => ?_) (by rw [hs, hs2]) (by rw [hs2]; rfl)))
  obtain ⟨i, j, e, ⟨q1, q2, q3, q4⟩, q⟩ := q1
  subst e
  cases r1 with
  | cons r rr =>
    cases rr with
    | cons r' rr =>
      cases rr
      obtain ⟨t, rfl⟩ := r
      obtain ⟨t', rfl⟩ := r'
      exact call_range_2 (range_it I1 q1 q2 q3 q4 q)

/-! ### for -/
/-- W: the invariant by the turn and a measure; N: what the body is to reach -/
def tFor (wi : TI) (g : TG) (tb : TS) : TS := fun D σ H => wi σ H fun J H1 => ∃ W : Nat → Nat → St → Hp → Prop, (∃ m, W 0 m σ H1) ∧ ∀ i m σ H, W i m σ H →
  (J.stop i H ∧ D.nx σ H) ∨ (J.go i H ∧ ∃ N : St → Hp → Prop, (∀ σ' H', N σ' H' → ∃ m', m' < m ∧ W (i + 1) m' σ' H') ∧ ∀ x H', J.yld i H x H' → g x σ H' fun σ2 H2 => tb { D with nx := N, ct := N, bk := D.nx } σ2 H2)
/-- the records at fp as they stand -/
def pinsAt (fp : List Addr) (h : Heap) : List (Addr × Obj) := fp.filterMap fun b => (h.get? b).map fun o => (b, o)
theorem mem_pinsAt {fp : List Addr} {h : Heap} {b : Addr} {o : Obj} (hb : b ∈ fp) (e : h.get? b = some o) : (b, o) ∈ pinsAt fp h := List.mem_filterMap.mpr ⟨b, hb, by rw [e]; rfl⟩
theorem of_pinsAt {fp : List Addr} {h : Heap} {p : Addr × Obj} (hp : p ∈ pinsAt fp h) : p.1 ∈ fp ∧ h.get? p.1 = some p.2 := by
  obtain ⟨b, hb, e⟩ := List.mem_filterMap.mp hp
  cases q : h.get? b with
  | none => rw [q] at e; cases e
  | some o =>
    rw [q] at e
    have e' : (b, o) = p := Option.some.inj e
    subst e'
    exact ⟨hb, q⟩
theorem Inv.pinned {pins : List (Addr × Obj)} {σ : St} {H : Hp} {s : Shared} {fp : List Addr} (I : Inv X pins σ H s) (hf : ∀ b ∈ fp, FpOk X pins H b) (ho : ∀ b ∈ fp, ∃ o, s.heap.get? b = some o ∧ ∀ v, o.data ≠ .cell v) : Inv X (pins ++ pinsAt fp s.heap) σ H s :=
  I.pins_of fun p hp => (List.mem_append.mp hp).elim (fun z => I.pin p (List.mem_append_right _ z)) fun z => by
    obtain ⟨hb, e⟩ := of_pinsAt z
    obtain ⟨f0, f1, f2, _⟩ := hf p.1 hb
    obtain ⟨o, e', d⟩ := ho p.1 hb
    rw [e] at e'; cases e'
    exact ⟨e, f0, f1, f2, d⟩
theorem Inv.unpinned {pins pl : List (Addr × Obj)} {σ : St} {H : Hp} {s : Shared} (I : Inv X (pins ++ pl) σ H s) : Inv X pins σ H s := I.pins_of fun p hp => I.pin p (List.mem_append_right _ (List.mem_append_left _ hp))
theorem ps_for {iter : Expr} {body : List Stmt} {wi : TI} {g : TG} {tb : TS} {pos : Pos} (hp : PassesOwn (model X.prog X.w) X.A X.env X.xe) (hc : X.calm = true) (hi : PI X tg iter wi) (hg : PG X tg g) (hb : PSs X body tb)
    (hs : ∀ x, foldedSetIterable iter X.env x = pure x := by intro _; rfl) : PS X (.For tg iter body [] pos) (tFor wi g tb) := by
  intro pins s σ H D I h
  refine wpAny_For (thn (hi pins s σ H _ I h) fun v s1 h1 => thn h1 fun itv s2 h2 => ?_) hs
  obtain ⟨it, fp, tn, J, H2, e, I2, T, st2, f2, W, ⟨m0, w0⟩, turn⟩ := h2
  subst e
  -- what stays true of the iterator's objects through the loop
  have stat : ∀ {H' : Hp}, (∀ b ∈ fp, H' b = none) → ∀ b ∈ fp, FpOk X pins H' b := fun hn b hb => ⟨hn b hb, (f2 b hb).2⟩
  refine codeAny_forLoop_any (fun n s' => ∃ i σ' H', Inv X pins σ' H' s' ∧ tn i s'.heap ∧ (∀ b ∈ fp, H' b = none) ∧ W i n σ' H') ?_ m0 ⟨0, σ, H2, I2, st2, fun b hb => (f2 b hb).1, w0⟩
  rintro n s3 ⟨i, σ3, H3, I3, st3, fr3, w3⟩
  rcases turn i n σ3 H3 w3 with ⟨stop, qn⟩ | ⟨go, N, hN, step⟩
  · refine wpAny_passesOwn hp (thn (T.done X rfl rfl rfl hc i pins s3 σ3 H3 X.xe I3 (stat fr3) st3 stop) fun r s4 ⟨hr, I4⟩ => ?_)
    subst hr
    exact wpAny_execs_nil ⟨σ3, H3, I4, qn⟩
  · refine wpAny_passesOwn hp (thn (T.item X rfl rfl rfl hc i pins s3 σ3 H3 X.xe I3 (stat fr3) st3 go) fun r s4 ⟨u, hr, h4⟩ => ?_)
    subst hr
    refine wpAny_passesOwn hp (thn h4 fun _ s5 ⟨x, H5, I5, r5, y5, st5, fr5⟩ => ?_)
    have I5' := I5.pinned (stat fr5) (T.obj _ _ st5)
    refine wpAny_passesOwn hp (thn (hg _ s5 σ3 H5 x u _ I5' r5 (step x H5 y5)) fun _ s6 ⟨σ6, H6, I6, q6⟩ => ?_)
    refine wpAny_passesOwn hp (thn (hb _ s6 σ6 H6 _ I6 q6) fun f s7 q7 => ?_)
    have again : ∀ {σ7 : St} {H7 : Hp}, Inv X (pins ++ pinsAt fp s5.heap) σ7 H7 s7 → N σ7 H7 → ∃ m, m < n ∧ ∃ i σ' H', Inv X pins σ' H' s7 ∧ tn i s7.heap ∧ (∀ b ∈ fp, H' b = none) ∧ W i m σ' H' := fun {σ7 H7} I7 n7 => by
      obtain ⟨m', hm, w7⟩ := hN σ7 H7 n7
      refine ⟨m', hm, i + 1, σ7, H7, I7.unpinned, T.keep _ _ _ st5 fun b hb o e => (I7.pin (b, o) (List.mem_append_right _ (List.mem_append_right _ (mem_pinsAt hb e)))).1, fun b hb => ?_, w7⟩
      obtain ⟨o, e, d⟩ := T.obj _ _ st5 b hb
      exact (I7.pin (b, o) (List.mem_append_right _ (List.mem_append_right _ (mem_pinsAt hb e)))).2.1
    cases f with
    | next => obtain ⟨σ7, H7, I7, n7⟩ := q7; exact again I7 n7
    | cont => obtain ⟨σ7, H7, I7, n7⟩ := q7; exact again I7 n7
    | brk => obtain ⟨σ7, H7, I7, q7⟩ := q7; exact ⟨σ7, H7, I7.unpinned, q7⟩
    | ret v => obtain ⟨x7, σ7, H7, I7, r7, q7⟩ := q7; exact ⟨x7, σ7, H7, I7.unpinned, r7, q7⟩
end

/-! ### the forms one uses -/
/-- over a list that the body leaves as it is -/
theorem for_list {K : PySem.W.Frag} {a : Addr} {xs : List V} {g : TG} {tb : TS} {D : Ends} {σ : St} {H : Hp} (Pv : Nat → St → Hp → Prop) (h0 : Pv 0 σ H) (hl : ∀ i σ H, i ≤ xs.length → Pv i σ H → SqL K H a xs)
    (hs : ∀ i x σ H, xs[i]? = some x → Pv i σ H → g x σ H fun σ2 H2 => tb { D with nx := Pv (i + 1), ct := Pv (i + 1), bk := D.nx } σ2 H2) (hd : ∀ σ H, Pv xs.length σ H → D.nx σ H) :
    ∃ W : Nat → Nat → St → Hp → Prop, (∃ m, W 0 m σ H) ∧ ∀ i m σ H, W i m σ H →
      ((Itl K a).stop i H ∧ D.nx σ H) ∨ ((Itl K a).go i H ∧ ∃ N : St → Hp → Prop, (∀ σ' H', N σ' H' → ∃ m', m' < m ∧ W (i + 1) m' σ' H') ∧ ∀ x H', (Itl K a).yld i H x H' → g x σ H' fun σ2 H2 => tb { D with nx := N, ct := N, bk := D.nx } σ2 H2) := by
  refine ⟨fun i m σ H => m = xs.length - i ∧ i ≤ xs.length ∧ Pv i σ H, ⟨xs.length, by simp, Nat.zero_le _, h0⟩, ?_⟩
  rintro i m σ H ⟨rfl, hi, p⟩
  have q := hl i σ H hi p
  by_cases hlt : i < xs.length
  · refine .inr ⟨⟨xs, xs[i], q, by simp [hlt]⟩, Pv (i + 1), fun σ' H' p' => ⟨xs.length - (i + 1), by omega, rfl, hlt, p'⟩, fun x H' y => ?_⟩
    obtain ⟨e, y⟩ := y
    subst e
    exact hs i x σ _ (y xs q) p
  · have e : i = xs.length := by omega
    subst e
    exact .inl ⟨⟨xs, q, Nat.le_refl _⟩, hd σ H p⟩
theorem for_tup {K : PySem.W.Frag} {a : Addr} {xs : List V} {g : TG} {tb : TS} {D : Ends} {σ : St} {H : Hp} (Pv : Nat → St → Hp → Prop) (h0 : Pv 0 σ H) (hl : ∀ i σ H, i ≤ xs.length → Pv i σ H → SqT K H a xs)
    (hs : ∀ i x σ H, xs[i]? = some x → Pv i σ H → g x σ H fun σ2 H2 => tb { D with nx := Pv (i + 1), ct := Pv (i + 1), bk := D.nx } σ2 H2) (hd : ∀ σ H, Pv xs.length σ H → D.nx σ H) :
    ∃ W : Nat → Nat → St → Hp → Prop, (∃ m, W 0 m σ H) ∧ ∀ i m σ H, W i m σ H →
      ((Itt K a).stop i H ∧ D.nx σ H) ∨ ((Itt K a).go i H ∧ ∃ N : St → Hp → Prop, (∀ σ' H', N σ' H' → ∃ m', m' < m ∧ W (i + 1) m' σ' H') ∧ ∀ x H', (Itt K a).yld i H x H' → g x σ H' fun σ2 H2 => tb { D with nx := N, ct := N, bk := D.nx } σ2 H2) := by
  refine ⟨fun i m σ H => m = xs.length - i ∧ i ≤ xs.length ∧ Pv i σ H, ⟨xs.length, by simp, Nat.zero_le _, h0⟩, ?_⟩
  rintro i m σ H ⟨rfl, hi, p⟩
  have q := hl i σ H hi p
  by_cases hlt : i < xs.length
  · refine .inr ⟨⟨xs, xs[i], q, by simp [hlt]⟩, Pv (i + 1), fun σ' H' p' => ⟨xs.length - (i + 1), by omega, rfl, hlt, p'⟩, fun x H' y => ?_⟩
    obtain ⟨e, y⟩ := y
    subst e
    exact hs i x σ _ (y xs q) p
  · have e : i = xs.length := by omega
    subst e
    exact .inl ⟨⟨xs, q, Nat.le_refl _⟩, hd σ H p⟩
theorem for_range {lo : Int} {n : Nat} {g : TG} {tb : TS} {D : Ends} {σ : St} {H : Hp} (Pv : Nat → St → Hp → Prop) (h0 : Pv 0 σ H)
    (hs : ∀ i σ H, i < n → Pv i σ H → g (.int (lo + i)) σ H fun σ2 H2 => tb { D with nx := Pv (i + 1), ct := Pv (i + 1), bk := D.nx } σ2 H2) (hd : ∀ σ H, Pv n σ H → D.nx σ H) :
    ∃ W : Nat → Nat → St → Hp → Prop, (∃ m, W 0 m σ H) ∧ ∀ i m σ H, W i m σ H →
      ((Itr lo n).stop i H ∧ D.nx σ H) ∨ ((Itr lo n).go i H ∧ ∃ N : St → Hp → Prop, (∀ σ' H', N σ' H' → ∃ m', m' < m ∧ W (i + 1) m' σ' H') ∧ ∀ x H', (Itr lo n).yld i H x H' → g x σ H' fun σ2 H2 => tb { D with nx := N, ct := N, bk := D.nx } σ2 H2) := by
  refine ⟨fun i m σ H => m = n - i ∧ i ≤ n ∧ Pv i σ H, ⟨n, by simp, Nat.zero_le _, h0⟩, ?_⟩
  rintro i m σ H ⟨rfl, hi, p⟩
  by_cases hlt : i < n
  · refine .inr ⟨hlt, Pv (i + 1), fun σ' H' p' => ⟨n - (i + 1), by omega, rfl, hlt, p'⟩, fun x H' y => ?_⟩
    obtain ⟨e, y⟩ := y
    subst e y
    exact hs i σ _ hlt p
  · have e : i = n := by omega
    subst e
    exact .inl ⟨Nat.le_refl _, hd σ H p⟩
/-- while, by a word and a measure of the state -/
theorem while_by {c : TT} {tb : TS} {D : Ends} {σ : St} {H : Hp} (Pv : St → Hp → Prop) (μ : St → Hp → Nat) (h0 : Pv σ H)
    (hs : ∀ σ H, Pv σ H → c σ H fun b H1 => if b = true then tb { D with nx := fun σ' H' => Pv σ' H' ∧ μ σ' H' < μ σ H, ct := fun σ' H' => Pv σ' H' ∧ μ σ' H' < μ σ H, bk := D.nx } σ H1 else D.nx σ H1)
    (mono : ∀ σ H Q Q', (∀ b H1, Q b H1 → Q' b H1) → c σ H Q → c σ H Q') : tWhile c tb D σ H := by
  refine ⟨fun m σ H => m = μ σ H ∧ Pv σ H, ⟨_, rfl, h0⟩, ?_⟩
  rintro m σ H ⟨rfl, p⟩
  refine mono σ H _ _ (fun b H1 q => ?_) (hs σ H p)
  cases b with
  | true => exact ⟨_, fun σ' H' ⟨p', l⟩ => ⟨_, l, rfl, p'⟩, q⟩
  | false => exact q
end L2

namespace L2
open PySem PySem.Spec PyProof.Rows

abbrev R2 := V → V → Hp → VK → Prop
/-- a two-place operation on values: f is binaryOp op, inplaceOp op or compareOp op -/
def OpR (X : Cx) (f : Value → Value → Sem Value) (r : R2) : Prop :=
  ∀ (pins : List (Addr × Obj)) (s : Shared) (σ : St) (H : Hp) (x y : V) (v u : Value) (Q : VK), Inv X pins σ H s → RelV x v → RelV y u → r x y H Q →
    wpAny (model X.prog X.w) X.A (f v u) (EP X pins σ Q) X.xe s
/-- a one-place operation -/
def UnR (X : Cx) (f : Value → Sem Value) (r : V → Hp → VK → Prop) : Prop :=
  ∀ (pins : List (Addr × Obj)) (s : Shared) (σ : St) (H : Hp) (x : V) (v : Value) (Q : VK), Inv X pins σ H s → RelV x v → r x H Q →
    wpAny (model X.prog X.w) X.A (f v) (EP X pins σ Q) X.xe s
/-- a call of a value that is known (a builtin, a type) with values -/
def CallR (X : Cx) (f : Value) (r : List V → Hp → VK → Prop) : Prop :=
  ∀ (pins : List (Addr × Obj)) (s : Shared) (σ : St) (H : Hp) (xs : List V) (us : List Value) (Q : VK), Inv X pins σ H s → Vals xs us → r xs H Q →
    wpAny (model X.prog X.w) X.A (call f us) (EP X pins σ Q) X.xe s
/-- a value's truth -/
def TruR (X : Cx) (r : V → Hp → (Bool → Hp → Prop) → Prop) : Prop :=
  ∀ (pins : List (Addr × Obj)) (s : Shared) (σ : St) (H : Hp) (x : V) (v : Value) (Q : Bool → Hp → Prop), Inv X pins σ H s → RelV x v → r x H Q →
    wpAny (model X.prog X.w) X.A (truthy v) (TP X pins σ Q) X.xe s

def tOp (r : R2) (ta tb : TE) : TE := fun σ H Q => ta σ H fun x H1 => tb σ H1 fun y H2 => r x y H2 Q
def tUn (r : V → Hp → VK → Prop) (ta : TE) : TE := fun σ H Q => ta σ H fun x H1 => r x H1 Q
/-- ints in, under C, and a value out -/
def rI (C : Int → Int → Prop) (g : Int → Int → V) : R2 := fun x y H Q => ∃ i j, x = .int i ∧ y = .int j ∧ C i j ∧ Q (g i j) H
def rI0 (g : Int → Int → V) : R2 := fun x y H Q => ∃ i j, x = .int i ∧ y = .int j ∧ Q (g i j) H
def rU (g : Int → V) : V → Hp → VK → Prop := fun x H Q => ∃ i, x = .int i ∧ Q (g i) H

section
variable {X : Cx} {a b c : Expr} {ta tb tc : TE} {pos : Pos}

theorem binT (ha : PE X a ta) (hb : PE X b tb) {pins : List (Addr × Obj)} {s : Shared} {σ : St} {H : Hp} {R : V → V → Hp → Prop} (I : Inv X pins σ H s)
    (h : ta σ H fun x H1 => tb σ H1 fun y H2 => R x y H2) {Q : Value → Shared → Prop} {f : Value → Value → Sem Value}
    (hf : ∀ v u s2 x y H2, Inv X pins σ H2 s2 → RelV x v → RelV y u → R x y H2 → wpAny (model X.prog X.w) X.A (f v u) Q X.xe s2) :
    wpAny (model X.prog X.w) X.A (eval a X.env) (fun v s₁ => wpAny (model X.prog X.w) X.A (eval b X.env) (fun u s₂ => wpAny (model X.prog X.w) X.A (f v u) Q X.xe s₂) X.xe s₁) X.xe s := by
  refine thn (ha pins s σ H _ I h) fun v s1 ⟨x, H1, I1, r1, q1⟩ => ?_
  refine thn (hb pins s1 σ H1 _ I1 q1) fun u s2 ⟨y, H2, I2, r2, q2⟩ => ?_
  exact hf v u s2 x y H2 I2 r1 r2 q2

theorem pe_op {op : Operator} {r : R2} (ho : OpR X (binaryOp op) r) (ha : PE X a ta) (hb : PE X b tb) : PE X (.BinOp a op b pos) (tOp r ta tb) := by
  intro pins s σ H Q I h
  exact wpAny_BinOp (binT ha hb I h fun v u s2 x y H2 I2 rx ry q => ho pins s2 σ H2 x y v u Q I2 rx ry q)
theorem pe_un {op : UnaryOp} {r : V → Hp → VK → Prop} (ho : UnR X (unaryOp op) r) (ha : PE X a ta) : PE X (.UnaryOp op a pos) (tUn r ta) := by
  intro pins s σ H Q I h
  exact UnaryOp_ (thn (ha pins s σ H _ I h) fun v s1 ⟨x, H1, I1, r1, q1⟩ => ho pins s1 σ H1 x v Q I1 r1 q1)
/-- a op= e at a name: the name's slot i -/
theorem augR {op : Operator} {r : R2} (ho : OpR X (inplaceOp op) r) {pins : List (Addr × Obj)} {s : Shared} {σ : St} {H : Hp} {x y : V} {v u : Value} {Q : VK} (I : Inv X pins σ H s)
    (rx : RelV x v) (ry : RelV y u) (q : r x y H Q) : wpAny (model X.prog X.w) X.A (inplaceOp op v u) (EP X pins σ Q) X.xe s := ho pins s σ H x y v u Q I rx ry q

/-! ### ints -/
theorem opI {f : Value → Value → Sem Value} {C : Int → Int → Prop} {g : Int → Int → Int}
    (rule : ∀ (i j : Int) (t u : Tok) (s : Shared) (Q : Value → Shared → Prop) (E : Value → Shared → Prop), C i j → Q (.int (g i j) s.toks) { s with toks := s.toks + 1 } → wpAny (model X.prog X.w) X.A (f (.int i t) (.int j u)) Q E s) :
    OpR X f (rI C fun i j => .int (g i j)) := by
  intro pins s σ H x y v u Q I rx ry h
  obtain ⟨i, j, rfl, rfl, hc, q⟩ := h
  obtain ⟨t, rfl⟩ := rx
  obtain ⟨t', rfl⟩ := ry
  exact rule i j t t' s _ _ hc ⟨.int (g i j), H, I.tok _, ⟨_, rfl⟩, q⟩
theorem opI0 {f : Value → Value → Sem Value} {g : Int → Int → Int}
    (rule : ∀ (i j : Int) (t u : Tok) (s : Shared) (Q : Value → Shared → Prop) (E : Value → Shared → Prop), Q (.int (g i j) s.toks) { s with toks := s.toks + 1 } → wpAny (model X.prog X.w) X.A (f (.int i t) (.int j u)) Q E s) :
    OpR X f (rI0 fun i j => .int (g i j)) := by
  intro pins s σ H x y v u Q I rx ry h
  obtain ⟨i, j, rfl, rfl, q⟩ := h
  obtain ⟨t, rfl⟩ := rx
  obtain ⟨t', rfl⟩ := ry
  exact rule i j t t' s _ _ ⟨.int (g i j), H, I.tok _, ⟨_, rfl⟩, q⟩
theorem opB0 {f : Value → Value → Sem Value} {g : Int → Int → Bool}
    (rule : ∀ (i j : Int) (t u : Tok) (s : Shared) (Q : Value → Shared → Prop) (E : Value → Shared → Prop), Q (.bool (g i j)) s → wpAny (model X.prog X.w) X.A (f (.int i t) (.int j u)) Q E s) :
    OpR X f (rI0 fun i j => .bl (g i j)) := by
  intro pins s σ H x y v u Q I rx ry h
  obtain ⟨i, j, rfl, rfl, q⟩ := h
  obtain ⟨t, rfl⟩ := rx
  obtain ⟨t', rfl⟩ := ry
  exact rule i j t t' s _ _ ⟨.bl (g i j), H, I, rfl, q⟩

def CDiv (i j : Int) : Prop := 0 < j ∧ j < 1073741824
def CDivN (i j : Int) : Prop := j ≠ 0 ∧ j.natAbs < 1073741824
def CPow (i j : Int) : Prop := 0 ≤ j ∧ j ≤ 1000000 ∧ i.natAbs < 2 ^ 64
def CMul (i j : Int) : Prop := (-(2 ^ 64) < i ∧ i < 2 ^ 64) ∨ (-(2 ^ 64) < j ∧ j < 2 ^ 64)
theorem CMul.ok {i j : Int} (h : CMul i j) : IntMulOk i j := by
  rcases h with ⟨h1, h2⟩ | ⟨h1, h2⟩
  · exact .of_left (intBits_le_64 h1 h2)
  · exact .of_right (intBits_le_64 h1 h2)
theorem two_pow_nn (k : Nat) : (0 : Int) ≤ 2 ^ k := by
  rw [two_pow_cast]
  exact Int.natCast_nonneg _

theorem op_add : OpR X (binaryOp .Add) (rI0 fun i j => .int (i + j)) := opI0 fun _ _ _ _ _ _ _ q => add_int q
theorem op_sub : OpR X (binaryOp .Sub) (rI0 fun i j => .int (i - j)) := opI0 fun _ _ _ _ _ _ _ q => sub_int q
theorem op_mul : OpR X (binaryOp .Mult) (rI CMul fun i j => .int (i * j)) := opI fun _ _ _ _ _ _ _ hc q => mul_int q hc.ok
/-- // by a positive divisor -/
theorem op_fdiv : OpR X (binaryOp .FloorDiv) (rI CDiv fun i j => .int (i / j)) := opI fun i j _ _ _ _ _ hc q => by
  have h1 : (0 : Int) < j := hc.1
  have h2 : j < 1073741824 := hc.2
  exact floordiv_int (by omega) (by rw [Int.fdiv_eq_ediv_of_nonneg i (by omega)]; exact q) (.inl (PyProof.noPylong_small (by omega)))
theorem op_fdivN : OpR X (binaryOp .FloorDiv) (rI CDivN fun i j => .int (i.fdiv j)) := opI fun _ _ _ _ _ _ _ hc q => floordiv_int hc.1 q (.inl (PyProof.noPylong_small hc.2))
/-- % by a positive divisor of any size -/
theorem op_mod : OpR X (binaryOp .Mod) (rI (fun _ j => 0 < j) fun i j => .int (i % j)) := opI fun i j _ _ _ _ _ hc q => by
  have h1 : (0 : Int) < j := hc
  exact mod_int' (by omega) (by rw [Int.fmod_eq_emod_of_nonneg i (by omega)]; exact q)
theorem op_modN : OpR X (binaryOp .Mod) (rI (fun _ j => j ≠ 0) fun i j => .int (i.fmod j)) := opI fun _ _ _ _ _ _ _ hc q => mod_int' hc q
theorem op_pow : OpR X (binaryOp .Pow) (rI CPow fun i j => .int (i ^ j.toNat)) := opI fun _ _ _ _ _ _ _ hc q => pow_int_small hc.1 hc.2.1 hc.2.2 q
theorem op_shl : OpR X (binaryOp .LShift) (rI CPow fun i j => .int (i * 2 ^ j.toNat)) := opI fun _ _ _ _ _ _ _ hc q => lshift_int_small hc.1 hc.2.1 hc.2.2 q
theorem op_shr : OpR X (binaryOp .RShift) (rI (fun _ j => 0 ≤ j) fun i j => .int (i / 2 ^ j.toNat)) := opI fun i j _ _ _ _ _ hc q =>
  rshift_int hc (by rw [Int.fdiv_eq_ediv_of_nonneg i (two_pow_nn _)]; exact q)
theorem op_and : OpR X (binaryOp .BitAnd) (rI0 fun i j => .int (Builtin.bitAnd i j)) := opI0 fun _ _ _ _ _ _ _ q => and_int q
theorem op_or : OpR X (binaryOp .BitOr) (rI0 fun i j => .int (Builtin.bitOr i j)) := opI0 fun _ _ _ _ _ _ _ q => or_int q
theorem op_xor : OpR X (binaryOp .BitXor) (rI0 fun i j => .int (Builtin.bitXor i j)) := opI0 fun _ _ _ _ _ _ _ q => xor_int q

theorem iop_add : OpR X (inplaceOp .Add) (rI0 fun i j => .int (i + j)) := opI0 fun _ _ _ _ _ _ _ q => iadd_int q
theorem iop_sub : OpR X (inplaceOp .Sub) (rI0 fun i j => .int (i - j)) := opI0 fun _ _ _ _ _ _ _ q => isub_int q
theorem iop_mul : OpR X (inplaceOp .Mult) (rI CMul fun i j => .int (i * j)) := opI fun _ _ _ _ _ _ _ hc q => imul_int q hc.ok
theorem iop_fdiv : OpR X (inplaceOp .FloorDiv) (rI CDiv fun i j => .int (i / j)) := opI fun i j _ _ _ _ _ hc q => by
  have h1 : (0 : Int) < j := hc.1
  have h2 : j < 1073741824 := hc.2
  exact ifloordiv_int (by omega) (by rw [Int.fdiv_eq_ediv_of_nonneg i (by omega)]; exact q) (.inl (PyProof.noPylong_small (by omega)))
theorem iop_mod : OpR X (inplaceOp .Mod) (rI (fun _ j => 0 < j) fun i j => .int (i % j)) := opI fun i j _ _ _ _ _ hc q => by
  have h1 : (0 : Int) < j := hc
  exact imod_int (by omega) (by rw [Int.fmod_eq_emod_of_nonneg i (by omega)]; exact q)
theorem iop_shl : OpR X (inplaceOp .LShift) (rI CPow fun i j => .int (i * 2 ^ j.toNat)) := opI fun _ _ _ _ _ _ _ hc q => ilshift_int_small hc.1 hc.2.1 hc.2.2 q
theorem iop_shr : OpR X (inplaceOp .RShift) (rI (fun _ j => 0 ≤ j) fun i j => .int (i / 2 ^ j.toNat)) := opI fun i j _ _ _ _ _ hc q =>
  irshift_int hc (by rw [Int.fdiv_eq_ediv_of_nonneg i (two_pow_nn _)]; exact q)
theorem iop_and : OpR X (inplaceOp .BitAnd) (rI0 fun i j => .int (Builtin.bitAnd i j)) := opI0 fun _ _ _ _ _ _ _ q => iand_int q
theorem iop_or : OpR X (inplaceOp .BitOr) (rI0 fun i j => .int (Builtin.bitOr i j)) := opI0 fun _ _ _ _ _ _ _ q => ior_int q
theorem iop_xor : OpR X (inplaceOp .BitXor) (rI0 fun i j => .int (Builtin.bitXor i j)) := opI0 fun _ _ _ _ _ _ _ q => ixor_int q

theorem unI {f : Value → Sem Value} {g : Int → Int}
    (rule : ∀ (i : Int) (t : Tok) (s : Shared) (Q : Value → Shared → Prop) (E : Value → Shared → Prop), Q (.int (g i) s.toks) { s with toks := s.toks + 1 } → wpAny (model X.prog X.w) X.A (f (.int i t)) Q E s) :
    UnR X f (rU fun i => .int (g i)) := by
  intro pins s σ H x v Q I rx h
  obtain ⟨i, rfl, q⟩ := h
  obtain ⟨t, rfl⟩ := rx
  exact rule i t s _ _ ⟨.int (g i), H, I.tok _, ⟨_, rfl⟩, q⟩
theorem un_neg : UnR X (unaryOp .USub) (rU fun i => .int (-i)) := unI fun _ _ _ _ _ q => neg_int q
theorem un_inv : UnR X (unaryOp .Invert) (rU fun i => .int (Builtin.bitNot i)) := unI fun _ _ _ _ _ q => invert_int q

/-! ### bools among ints: n += (a < b) -/
theorem op_add_ib : OpR X (binaryOp .Add) (fun x y H Q => ∃ i k, x = .int i ∧ y = .bl k ∧ Q (.int (i + b2i k)) H) := by
  intro pins s σ H x y v u Q I rx ry h
  obtain ⟨i, k, rfl, rfl, q⟩ := h
  obtain ⟨t, rfl⟩ := rx
  cases ry
  exact add_int_bool ⟨.int (i + b2i k), H, I.tok _, ⟨_, rfl⟩, q⟩
end

/-! ### comparisons -/
/-- the scalars that == tells apart as data does -/
def scal : V → V → Bool
  | .non, .non => true | .non, .int _ => true | .int _, .non => true | .non, .bl _ => true | .bl _, .non => true | .non, .str _ => true | .str _, .non => true
  | .int _, .int _ => true | .bl _, .bl _ => true | .str _, .str _ => true | .byt _, .byt _ => true
  | .int _, .str _ => true | .str _, .int _ => true | .bl _, .str _ => true | .str _, .bl _ => true
  | _, _ => false
def rEq : R2 := fun x y H Q => scal x y = true ∧ Q (.bl (decide (x = y))) H
def rNe : R2 := fun x y H Q => scal x y = true ∧ Q (.bl (!decide (x = y))) H

theorem dec_int {i j : Int} : decide (V.int i = V.int j) = (i == j) := by
  rw [Bool.eq_iff_iff]
  simp
theorem dec_bl {i j : Bool} : decide (V.bl i = V.bl j) = (i == j) := by
  rw [Bool.eq_iff_iff]
  simp
theorem dec_str {i j : Str} : decide (V.str i = V.str j) = (i == j) := by
  rw [Bool.eq_iff_iff]
  simp
theorem dec_byt {i j : Array UInt8} : decide (V.byt i = V.byt j) = (i.toList == j.toList) := by
  rw [Bool.eq_iff_iff]
  cases i
  cases j
  simp

section
variable {X : Cx} {a b c : Expr} {ta tb tc : TE} {pos : Pos}
theorem fin_bl {pins : List (Addr × Obj)} {σ : St} {H : Hp} {s : Shared} {Q : VK} {k k' : Bool} (I : Inv X pins σ H s) (q : Q (.bl k) H) (e : k = k') : EP X pins σ Q (.bool k') s := by
  subst e
  exact ⟨.bl k, H, I, rfl, q⟩
theorem op_eq : OpR X (compareOp .Eq) rEq := by
  intro pins s σ H x y v u Q I rx ry h
  obtain ⟨hs, q⟩ := h
  cases x with
  | non =>
    cases rx
    cases y with
    | non => cases ry; exact PySem.EqNone.eq_none_none (fin_bl I q (by simp))
    | bl j => cases ry; exact PySem.EqNone.eq_none_bool (fin_bl I q (by simp))
    | int j => obtain ⟨t', rfl⟩ := ry; exact PySem.EqNone.eq_none_int (fin_bl I q (by simp))
    | str j => obtain ⟨t', rfl⟩ := ry; exact PySem.EqNone.eq_none_str (fin_bl I q (by simp))
    | _ => exact absurd (show false = true from hs) Bool.false_ne_true
  | bl i =>
    cases rx
    cases y with
    | non => cases ry; exact PySem.EqNone.eq_bool_none (fin_bl I q (by simp))
    | bl j => cases ry; exact eq_bool (fin_bl I q dec_bl)
    | str j => obtain ⟨t', rfl⟩ := ry; exact PySem.EqMixed.eq_bool_str (fin_bl I q (by simp))
    | _ => exact absurd (show false = true from hs) Bool.false_ne_true
  | int i =>
    obtain ⟨t, rfl⟩ := rx
    cases y with
    | non => cases ry; exact PySem.EqNone.eq_int_none (fin_bl I q (by simp))
    | int j => obtain ⟨t', rfl⟩ := ry; exact eq_int (fin_bl I q dec_int)
    | str j => obtain ⟨t', rfl⟩ := ry; exact PySem.EqMixed.eq_int_str (fin_bl I q (by simp))
    | _ => exact absurd (show false = true from hs) Bool.false_ne_true
  | str i =>
    obtain ⟨t, rfl⟩ := rx
    cases y with
    | non => cases ry; exact PySem.EqNone.eq_str_none (fin_bl I q (by simp))
    | bl j => cases ry; exact PySem.EqMixed.eq_str_bool (fin_bl I q (by simp))
    | int j => obtain ⟨t', rfl⟩ := ry; exact PySem.EqMixed.eq_str_int (fin_bl I q (by simp))
    | str j => obtain ⟨t', rfl⟩ := ry; exact eq_str (fin_bl I q dec_str)
    | _ => exact absurd (show false = true from hs) Bool.false_ne_true
  | byt i =>
    obtain ⟨t, rfl⟩ := rx
    cases y with
    | byt j => obtain ⟨t', rfl⟩ := ry; exact PySem.W.eq_bytes (fin_bl I q dec_byt)
    | _ => exact absurd (show false = true from hs) Bool.false_ne_true
  | _ => cases y <;> exact absurd (show false = true from hs) Bool.false_ne_true
theorem op_ne : OpR X (compareOp .NotEq) rNe := by
  intro pins s σ H x y v u Q I rx ry h
  obtain ⟨hs, q⟩ := h
  cases x with
  | non =>
    cases rx
    cases y with
    | non => cases ry; exact PySem.EqNone.ne_none_none (fin_bl I q (by simp))
    | bl j => cases ry; exact PySem.EqNone.ne_none_bool (fin_bl I q (by simp))
    | int j => obtain ⟨t', rfl⟩ := ry; exact PySem.EqNone.ne_none_int (fin_bl I q (by simp))
    | str j => obtain ⟨t', rfl⟩ := ry; exact PySem.EqNone.ne_none_str (fin_bl I q (by simp))
    | _ => exact absurd (show false = true from hs) Bool.false_ne_true
  | bl i =>
    cases rx
    cases y with
    | non => cases ry; exact PySem.EqNone.ne_bool_none (fin_bl I q (by simp))
    | bl j => cases ry; exact ne_bool (fin_bl I q (congrArg not dec_bl))
    | str j => obtain ⟨t', rfl⟩ := ry; exact PySem.EqMixed.ne_bool_str (fin_bl I q (by simp))
    | _ => exact absurd (show false = true from hs) Bool.false_ne_true
  | int i =>
    obtain ⟨t, rfl⟩ := rx
    cases y with
    | non => cases ry; exact PySem.EqNone.ne_int_none (fin_bl I q (by simp))
    | int j => obtain ⟨t', rfl⟩ := ry; exact ne_int (fin_bl I q (congrArg not dec_int))
    | str j => obtain ⟨t', rfl⟩ := ry; exact PySem.EqMixed.ne_int_str (fin_bl I q (by simp))
    | _ => exact absurd (show false = true from hs) Bool.false_ne_true
  | str i =>
    obtain ⟨t, rfl⟩ := rx
    cases y with
    | non => cases ry; exact PySem.EqNone.ne_str_none (fin_bl I q (by simp))
    | bl j => cases ry; exact PySem.EqMixed.ne_str_bool (fin_bl I q (by simp))
    | int j => obtain ⟨t', rfl⟩ := ry; exact PySem.EqMixed.ne_str_int (fin_bl I q (by simp))
    | str j => obtain ⟨t', rfl⟩ := ry; exact ne_str (fin_bl I q (congrArg not dec_str))
    | _ => exact absurd (show false = true from hs) Bool.false_ne_true
  | byt i =>
    obtain ⟨t, rfl⟩ := rx
    cases y with
    | byt j => obtain ⟨t', rfl⟩ := ry; exact PySem.W.ne_bytes (fin_bl I q (congrArg not dec_byt))
    | _ => exact absurd (show false = true from hs) Bool.false_ne_true
  | _ => cases y <;> exact absurd (show false = true from hs) Bool.false_ne_true

theorem op_lt : OpR X (compareOp .Lt) (rI0 fun i j => .bl (decide (i < j))) := opB0 fun _ _ _ _ _ _ _ q => lt_int q
theorem op_le : OpR X (compareOp .LtE) (rI0 fun i j => .bl (decide (i ≤ j))) := opB0 fun _ _ _ _ _ _ _ q => le_int q
theorem op_gt : OpR X (compareOp .Gt) (rI0 fun i j => .bl (decide (j < i))) := opB0 fun _ _ _ _ _ _ _ q => gt_int q
theorem op_ge : OpR X (compareOp .GtE) (rI0 fun i j => .bl (decide (j ≤ i))) := opB0 fun _ _ _ _ _ _ _ q => ge_int q
theorem op_lt_str : OpR X (compareOp .Lt) (fun x y H Q => ∃ i j, x = .str i ∧ y = .str j ∧ Q (.bl (decide (i.cps.toList < j.cps.toList))) H) := by
  intro pins s σ H x y v u Q I rx ry h
  obtain ⟨i, j, rfl, rfl, q⟩ := h
  obtain ⟨t, rfl⟩ := rx
  obtain ⟨t', rfl⟩ := ry
  exact lt_str (fin_bl I q rfl)
/-- the one string within the other -/
theorem op_in_str : OpR X (compareOp .In) (fun x y H Q => ∃ i j, x = .str i ∧ y = .str j ∧ Q (.bl (!(Builtin.Str.occurrences j i 0 j.length 1).isEmpty)) H) := by
  intro pins s σ H x y v u Q I rx ry h
  obtain ⟨i, j, rfl, rfl, q⟩ := h
  obtain ⟨t, rfl⟩ := rx
  obtain ⟨t', rfl⟩ := ry
  exact in_str (fin_bl I q rfl)

/-- is None, is not None: the right side a value none -/
theorem op_isN : OpR X (compareOp .Is) (fun x y H Q => y = .non ∧ Q (.bl (decide (x = .non))) H) := by
  intro pins s σ H x y v u Q I rx ry h
  obtain ⟨rfl, q⟩ := h
  cases ry
  refine is_none_gen (fin_bl I q ?_)
  cases x <;> first
    | (cases rx; rfl)
    | (obtain ⟨t, rfl⟩ := rx; rfl)
theorem op_notN : OpR X (compareOp .IsNot) (fun x y H Q => y = .non ∧ Q (.bl (!decide (x = .non))) H) := by
  intro pins s σ H x y v u Q I rx ry h
  obtain ⟨rfl, q⟩ := h
  cases ry
  refine isnot_none_gen (fin_bl I q ?_)
  cases x <;> first
    | (cases rx; rfl)
    | (obtain ⟨t, rfl⟩ := rx; rfl)

theorem op_notin_str : OpR X (compareOp .NotIn) (fun x y H Q => ∃ i j, x = .str i ∧ y = .str j ∧ Q (.bl (!(!(Builtin.Str.occurrences j i 0 j.length 1).isEmpty))) H) := by
  intro pins s σ H x y v u Q I rx ry h
  obtain ⟨i, j, rfl, rfl, q⟩ := h
  obtain ⟨t, rfl⟩ := rx
  obtain ⟨t', rfl⟩ := ry
  exact notIn_str (fin_bl I q rfl)
/-- is, is not of two objects that are tracked lists or instances -/
def isObj : HO → Bool
  | .lst _ => true
  | .ins _ _ _ => true
  | _ => false
theorem obj_there {pins : List (Addr × Obj)} {s : Shared} {σ : St} {H : Hp} {a : Addr} {o : HO} (I : Inv X pins σ H s) (h : H a = some o) (p : isObj o = true) : ∃ ob, s.heap.get? a = some ob ∧ ob.cls ≠ .type "tuple" := by
  cases o with
  | lst xs =>
    obtain ⟨_, its, n, _, e⟩ : xs.length ≤ sizeLine ∧ ∃ (its : List Value) (n : Nat), Vals xs its ∧ s.heap.get? a = some { cls := .type "list", data := .seq its.toArray n } := I.hok a _ h
    exact ⟨_, e, (by show Value.type "list" ≠ .type "tuple"; decide +kernel)⟩
  | ins C dx fs =>
    have x := I.hok a _ h
    obtain ⟨_, _, _, e, _⟩ := x
    exact ⟨_, e, (by show Value.ref C ≠ .type "tuple"; exact fun z => by cases z)⟩
  | _ => exact absurd (show false = true from p) Bool.false_ne_true
theorem op_is_ref : OpR X (compareOp .Is) (fun x y H Q => ∃ a b oa ob, x = .ref a ∧ y = .ref b ∧ H a = some oa ∧ isObj oa = true ∧ H b = some ob ∧ isObj ob = true ∧ Q (.bl (decide (a = b))) H) := by
  intro pins s σ H x y v u Q I rx ry h
  obtain ⟨a, b, oa, ob, rfl, rfl, ha, pa, hb, pb, q⟩ := h
  cases rx
  cases ry
  obtain ⟨o1, e1, n1⟩ := obj_there I ha pa
  obtain ⟨o2, e2, _⟩ := obj_there I hb pb
  by_cases z : a = b
  · subst z
    exact wpAny_is_ref_self (fin_bl I q (by simp))
  · exact wpAny_is_ref_other z e1 e2 n1 (fin_bl I q (by simp [z]))
theorem op_isnot_ref : OpR X (compareOp .IsNot) (fun x y H Q => ∃ a b oa ob, x = .ref a ∧ y = .ref b ∧ H a = some oa ∧ isObj oa = true ∧ H b = some ob ∧ isObj ob = true ∧ Q (.bl (!decide (a = b))) H) := by
  intro pins s σ H x y v u Q I rx ry h
  obtain ⟨a, b, oa, ob, rfl, rfl, ha, pa, hb, pb, q⟩ := h
  cases rx
  cases ry
  obtain ⟨o1, e1, n1⟩ := obj_there I ha pa
  obtain ⟨o2, e2, _⟩ := obj_there I hb pb
  by_cases z : a = b
  · subst z
    exact wpAny_isNot_ref_self (fin_bl I q (by simp))
  · exact wpAny_isNot_ref_other z e1 e2 n1 (fin_bl I q (by simp [z]))

/-- two rules for one operation: by cases -/
theorem OpR.or {f : Value → Value → Sem Value} {r r' : R2} (h : OpR X f r) (h' : OpR X f r') : OpR X f (fun x y H Q => r x y H Q ∨ r' x y H Q) := by
  intro pins s σ H x y v u Q I rx ry q
  rcases q with q | q
  · exact h pins s σ H x y v u Q I rx ry q
  · exact h' pins s σ H x y v u Q I rx ry q

theorem nomark (b : Expr) {op : CmpOp} (h : op ≠ .In := by decide) (h2 : op ≠ .NotIn := by decide) : behindInMarks op b = false := by
  have e1 : (op == CmpOp.In) = false := by cases op <;> first | rfl | exact absurd rfl h
  have e2 : (op == CmpOp.NotIn) = false := by cases op <;> first | rfl | exact absurd rfl h2
  cases b <;> simp [behindInMarks, e1, e2]
/-- a comparison as a value; hm: nomark b, or (for in, not in) by with_unfolding_all rfl -/
theorem pe_cmpR {op : CmpOp} {r : R2} (ho : OpR X (compareOp op) r) (ha : PE X a ta) (hb : PE X b tb) (hm : behindInMarks op b = false) : PE X (.Compare a [op] [b] pos) (tOp r ta tb) := by
  intro pins s σ H Q I h
  exact wpAny_Compare1 (binT ha hb I h fun v u s2 x y H2 I2 rx ry q => ho pins s2 σ H2 x y v u Q I2 rx ry q) hm
/-- a reading of a value as a test -/
def tTest (t : TE) : TT := fun σ H Q => t σ H fun x H' => ∃ k, x = .bl k ∧ Q k H'
theorem pt_cmpR {op : CmpOp} {r : R2} (ho : OpR X (compareOp op) r) (ha : PE X a ta) (hb : PE X b tb) (hm : behindInMarks op b = false) : PT X (.Compare a [op] [b] pos) (tTest (tOp r ta tb)) := by
  intro pins s σ H Q I h
  refine wpAny_isTrue_Compare1 (thn (ha pins s σ H _ I h) fun v s1 ⟨x, H1, I1, r1, q1⟩ => thn (hb pins s1 σ H1 _ I1 q1) fun u s2 ⟨y, H2, I2, r2, q2⟩ =>
    thn (ho pins s2 σ H2 x y v u _ I2 r1 r2 q2) fun c s3 ⟨z, H3, I3, r3, k, e, q3⟩ => ?_) hm
  subst e
  cases r3
  exact wpAny_truthy_bool ⟨H3, I3, q3⟩
/-- a op1 b op2 c -/
def tChain (r r' : R2) (ta tb tc : TE) : TE := fun σ H Q => ta σ H fun x H1 => tb σ H1 fun y H2 => r x y H2 fun z H3 => ∃ k, z = .bl k ∧
  (if k = true then tc σ H3 fun w' H4 => r' y w' H4 Q else Q (.bl false) H3)
theorem pe_chain {op op' : CmpOp} {r r' : R2} (ho : OpR X (compareOp op) r) (ho' : OpR X (compareOp op') r') (ha : PE X a ta) (hb : PE X b tb) (hc : PE X c tc)
    (hm : lastMarks [op, op'] [b, c] = false := by with_unfolding_all rfl) : PE X (.Compare a [op, op'] [b, c] pos) (tChain r r' ta tb tc) := by
  intro pins s σ H Q I h
  refine Compare_chain (thn (ha pins s σ H _ I h) fun v s1 ⟨x, H1, I1, r1, q1⟩ => chain_link (thn (hb pins s1 σ H1 _ I1 q1) fun u s2 ⟨y, H2, I2, r2, q2⟩ =>
    thn (ho pins s2 σ H2 x y v u _ I2 r1 r2 q2) fun d s3 ⟨z, H3, I3, r3, k, e, q3⟩ => ?_)) hm
  subst e
  cases r3
  refine wpAny_truthy_bool ?_
  cases k with
  | false => exact ite_ff ⟨.bl false, H3, I3, rfl, q3⟩
  | true => exact ite_tt (chain_last (thn (hc pins s3 σ H3 _ I3 q3) fun w' s4 ⟨z', H4, I4, r4, q4⟩ => ho' pins s4 σ H4 y z' u w' Q I4 r2 r4 q4))
theorem pt_chain {op op' : CmpOp} {r r' : R2} (ho : OpR X (compareOp op) r) (ho' : OpR X (compareOp op') r') (ha : PE X a ta) (hb : PE X b tb) (hc : PE X c tc)
    (hm : lastMarks [op, op'] [b, c] = false := by with_unfolding_all rfl) : PT X (.Compare a [op, op'] [b, c] pos) (tTest (tChain r r' ta tb tc)) := by
  intro pins s σ H Q I h
  refine isTrue_chain (thn (ha pins s σ H _ I h) fun v s1 ⟨x, H1, I1, r1, q1⟩ => test_link (thn (hb pins s1 σ H1 _ I1 q1) fun u s2 ⟨y, H2, I2, r2, q2⟩ =>
    thn (ho pins s2 σ H2 x y v u _ I2 r1 r2 q2) fun d s3 ⟨z, H3, I3, r3, k, e, q3⟩ => ?_)) hm
  subst e
  cases r3
  refine wpAny_truthy_bool ?_
  cases k with
  | false =>
    obtain ⟨k', e', q'⟩ := q3
    cases e'
    exact ite_ff ⟨H3, I3, q'⟩
  | true =>
    refine ite_tt (test_last (thn (hc pins s3 σ H3 _ I3 q3) fun w' s4 ⟨z', H4, I4, r4, q4⟩ => thn (ho' pins s4 σ H4 y z' u w' _ I4 r2 r4 q4) fun d' s5 ⟨z2, H5, I5, r5, k2, e2, q5⟩ => ?_))
    subst e2
    cases r5
    exact wpAny_truthy_bool ⟨H5, I5, q5⟩

/-! ### truth -/
/-- a value's truth by the abstract heap -/
def TruV (K : PySem.W.Frag) (x : V) (H : Hp) (k : Bool) : Prop :=
  match x with
  | .non => k = false
  | .bl b => k = b
  | .int i => k = (i != 0)
  | .str y => y.length ≤ sizeLine ∧ k = ((y.length : Int) != 0)
  | .byt y => y.size ≤ sizeLine ∧ k = ((y.size : Int) != 0)
  | .ref p => (∃ xs, SqL K H p xs ∧ k = !xs.isEmpty) ∨ (∃ xs, SqT K H p xs ∧ k = !xs.isEmpty) ∨ ∃ kvs, H p = some (.dK kvs) ∧ k = !kvs.isEmpty
  | _ => False
theorem isEmpty_kv {κ : Type} {kvs : List (κ × V)} {vs : List (κ × Value)} (r : KV kvs vs) : (!vs.isEmpty) = !kvs.isEmpty := by
  cases r <;> rfl
theorem isEmpty_of {xs : List V} {its : List Value} (r : Vals xs its) : (!its.toArray.isEmpty) = !xs.isEmpty := by
  cases r <;> simp
theorem line63 : (sizeLine : Nat) < 2 ^ 63 := by rw [sizeLine_eq]; decide
theorem tru_ok : TruR X (fun x H Q => ∃ k, TruV X.K x H k ∧ Q k H) := by
  intro pins s σ H x v Q I rx h
  obtain ⟨k, e, q⟩ := h
  have hl := line63
  have hs : sizeLine = 16777216 := sizeLine_eq
  cases x with
  | non =>
    cases rx
    have e' : k = false := e
    subst e'
    exact truthy_none ⟨H, I, q⟩
  | bl b =>
    cases rx
    have e' : k = b := e
    subst e'
    exact wpAny_truthy_bool ⟨H, I, q⟩
  | int i =>
    obtain ⟨t, rfl⟩ := rx
    have e' : k = (i != 0) := e
    subst e'
    exact PySem.P.truthy_int ⟨H, I, q⟩
  | str y =>
    obtain ⟨t, rfl⟩ := rx
    obtain ⟨hy, e'⟩ : y.length ≤ sizeLine ∧ k = ((y.length : Int) != 0) := e
    subst e'
    exact PySem.P.truthy_str (by omega) ⟨H, I.tok _, q⟩
  | byt y =>
    obtain ⟨t, rfl⟩ := rx
    obtain ⟨hy, e'⟩ : y.size ≤ sizeLine ∧ k = ((y.size : Int) != 0) := e
    subst e'
    exact PySem.W.truthy_bytes (by omega) ⟨H, I.tok _, q⟩
  | ref p =>
    cases rx
    have e' : (∃ xs, SqL X.K H p xs ∧ k = !xs.isEmpty) ∨ (∃ xs, SqT X.K H p xs ∧ k = !xs.isEmpty) ∨ ∃ kvs, H p = some (.dK kvs) ∧ k = !kvs.isEmpty := e
    rcases e' with ⟨xs, hx, e'⟩ | ⟨xs, hx, e'⟩ | ⟨kvs, hx, e'⟩
    · subst e'
      obtain ⟨its, r, pl, hz⟩ := I.list hx
      have hlen := r.length
      exact wpAny_truthy_list pl.isList (by simp only [List.size_toArray]; omega) ⟨H, I.tok _, by rw [isEmpty_of r]; exact q⟩
    · subst e'
      obtain ⟨its, r, pl, hz⟩ := I.tuple hx
      have hlen := r.length
      exact truthy_tuple pl (by simp only [List.size_toArray]; omega) ⟨H, I.tok _, by rw [isEmpty_of r]; exact q⟩
    · subst e'
      obtain ⟨hz, hS, vs, r, m⟩ : kvs.length ≤ sizeLine ∧ (p == sysModules) = false ∧ ∃ vs, KV kvs vs ∧ s.heap.DictOf (mixKind X.prog X.w) p vs := I.hok p _ hx
      have hlen : kvs.length = vs.length := Paired.length r
      exact wpAny_truthy_dict hS m (by omega) ⟨H, I.tok _, by rw [isEmpty_kv r]; exact q⟩
  | _ => exact (show False from e).elim
/-- any expression whose test is its value's truth (a name, a call, a subscript, a field ..: he by fun _ => rfl) -/
theorem pt_truth (ha : PE X a ta) (he : ∀ whole, isTrue a X.env whole = (do let v ← whole; standAt a.pos; holding [v] (truthy v))) :
    PT X a (fun σ H Q => ta σ H fun x H' => ∃ k, TruV X.K x H' k ∧ Q k H') := by
  intro pins s σ H Q I h
  exact isTrue_plain (thn (ha pins s σ H _ I h) fun v s1 ⟨x, H1, I1, r1, q1⟩ => tru_ok pins s1 σ H1 x v Q I1 r1 q1) (he _)

/-! ### strs and bytes -/
theorem pe_byt {x : List UInt8} {k : Nat} : PE X (.Constant (.bytes x) k pos) (fun _ H Q => Q (.byt x.toArray) H) := fun _ _ _ H _ I h => PySem.W.Constant_bytes ⟨.byt x.toArray, H, I.tok _, ⟨_, rfl⟩, h⟩
theorem op_add_str : OpR X (binaryOp .Add) (fun x y H Q => ∃ i j, x = .str i ∧ y = .str j ∧ i.length + j.length ≤ sizeLine ∧ Q (.str (i ++ j)) H) := by
  intro pins s σ H x y v u Q I rx ry h
  obtain ⟨i, j, rfl, rfl, hz, q⟩ := h
  obtain ⟨t, rfl⟩ := rx
  obtain ⟨t', rfl⟩ := ry
  exact add_str (fun t' tk => ⟨.str (i ++ j), H, I.tok _, ⟨_, rfl⟩, q⟩) hz
theorem iop_add_str : OpR X (inplaceOp .Add) (fun x y H Q => ∃ i j, x = .str i ∧ y = .str j ∧ i.length + j.length ≤ sizeLine ∧ Q (.str (i ++ j)) H) := by
  intro pins s σ H x y v u Q I rx ry h
  obtain ⟨i, j, rfl, rfl, hz, q⟩ := h
  obtain ⟨t, rfl⟩ := rx
  obtain ⟨t', rfl⟩ := ry
  exact iadd_str (fun t' tk => ⟨.str (i ++ j), H, I.tok _, ⟨_, rfl⟩, q⟩) hz
theorem op_add_byt : OpR X (binaryOp .Add) (fun x y H Q => ∃ i j, x = .byt i ∧ y = .byt j ∧ i.size + j.size ≤ 16777216 ∧ Q (.byt (i ++ j)) H) := by
  intro pins s σ H x y v u Q I rx ry h
  obtain ⟨i, j, rfl, rfl, hz, q⟩ := h
  obtain ⟨t, rfl⟩ := rx
  obtain ⟨t', rfl⟩ := ry
  exact PySem.W.KBy.add_bytes hz (fun t' tk => ⟨.byt (i ++ j), H, I.tok _, ⟨_, rfl⟩, q⟩)

def PlainIxT (b : Expr) : Prop := ∀ o i, subscripted b false o i = operate [o, i] (getItem o i)
/-- s[i], 0 ≤ i < len -/
theorem pe_item_str (ha : PE X a ta) (hb : PE X b tb) (hs : PlainIxT b) :
    PE X (.Subscript a b pos) (tOp (fun x y H Q => ∃ z i c, x = .str z ∧ y = .int i ∧ 0 ≤ i ∧ i < 2 ^ 63 ∧ i < z.length ∧ z.cps[i.toNat]? = some c ∧ Q (.str ⟨#[c]⟩) H) ta tb) := by
  intro pins s σ H Q I h
  refine Subscript_ (binT ha hb I h fun v u s2 x y H2 I2 rx ry q => ?_)
  obtain ⟨z, i, c, rfl, rfl, h0, h63, h1, hc, q⟩ := q
  obtain ⟨t, rfl⟩ := rx
  obtain ⟨t', rfl⟩ := ry
  have e : seqIndex? i z.length = some i.toNat := PySem.StrLaws.seqIndex_nonneg h0 h1
  exact tail_any (typeIs_str s2 z t) slot_str_getitem.lookup (getItem_str (c := c) (by
    have e1 : decide (i < -(2 ^ 63 : Int)) = false := decide_eq_false (by omega)
    have e2 : decide (i ≥ 2 ^ 63) = false := decide_eq_false (by omega)
    rw [e1, e2] <;> rfl) (by rw [e]; exact hc) ⟨.str ⟨#[c]⟩, H2, I2.tok _, ⟨_, rfl⟩, q⟩) (hs _ _)
/-- b[i], 0 ≤ i < len -/
theorem pe_item_byt (ha : PE X a ta) (hb : PE X b tb) (hs : PlainIxT b) :
    PE X (.Subscript a b pos) (tOp (fun x y H Q => ∃ (z : List UInt8) (i : Int), x = .byt z.toArray ∧ y = .int i ∧ z.length ≤ sizeLine ∧ 0 ≤ i ∧ i < z.length ∧ Q (.int ((z.getD i.toNat 0).toNat : Nat)) H) ta tb) := by
  intro pins s σ H Q I h
  refine Subscript_ (binT ha hb I h fun v u s2 x y H2 I2 rx ry q => ?_)
  obtain ⟨z, i, rfl, rfl, hz, h0, h1, q⟩ := q
  obtain ⟨t, rfl⟩ := rx
  obtain ⟨t', rfl⟩ := ry
  have hl : sizeLine = 16777216 := sizeLine_eq
  exact tail_any (PySem.W.typeIs_bytes s2 z.toArray t) PySem.W.FB.slot_bytes_getitem.lookup (PySem.W.getItem_bytes (by omega) h0 h1 ⟨.int ((z.getD i.toNat 0).toNat : Nat), H2, I2.tok _, ⟨_, rfl⟩, q⟩) (hs _ _)

/-! ### scalar builtins, by CallR -/
theorem vals1 {x : V} {us : List Value} (r : Vals [x] us) : ∃ u, us = [u] ∧ RelV x u := by
  cases r with
  | cons r1 r2 => cases r2; exact ⟨_, rfl, r1⟩
theorem vals2 {x y : V} {us : List Value} (r : Vals [x, y] us) : ∃ u w', us = [u, w'] ∧ RelV x u ∧ RelV y w' := by
  cases r with
  | cons r1 r2 =>
    cases r2 with
    | cons r3 r4 => cases r4; exact ⟨_, _, rfl, r1, r3⟩
theorem call_abs : CallR X (.builtin "abs") (fun xs H Q => ∃ i, xs = [.int i] ∧ Q (.int (if i < 0 then -i else i)) H) := by
  intro pins s σ H xs us Q I r h
  obtain ⟨i, rfl, q⟩ := h
  obtain ⟨u, rfl, t, rfl⟩ := vals1 r
  exact call_abs_int fun u tk => ⟨.int (if i < 0 then -i else i), H, I.tok _, ⟨_, rfl⟩, q⟩
theorem call_max2 (hc : X.calm = true) : CallR X (.builtin "max") (fun xs H Q => ∃ i j, xs = [.int i, .int j] ∧ Q (.int (if j > i then j else i)) H) := by
  intro pins s σ H xs us Q I r h
  obtain ⟨i, j, rfl, q⟩ := h
  obtain ⟨u, w', rfl, ⟨t, rfl⟩, ⟨t', rfl⟩⟩ := vals2 r
  refine max_two_ints (I.ok.hd hc) fun h' tk k => ⟨_, H, I.kept k, ?_, q⟩
  by_cases hj : j > i
  · rw [if_pos hj, if_pos hj]; exact ⟨_, rfl⟩
  · rw [if_neg hj, if_neg hj]; exact ⟨_, rfl⟩
theorem call_min2 (hc : X.calm = true) : CallR X (.builtin "min") (fun xs H Q => ∃ i j, xs = [.int i, .int j] ∧ Q (.int (if j < i then j else i)) H) := by
  intro pins s σ H xs us Q I r h
  obtain ⟨i, j, rfl, q⟩ := h
  obtain ⟨u, w', rfl, ⟨t, rfl⟩, ⟨t', rfl⟩⟩ := vals2 r
  refine min_two_ints (I.ok.hd hc) fun h' tk k => ⟨_, H, I.kept k, ?_, q⟩
  by_cases hj : j < i
  · rw [if_pos hj, if_pos hj]; exact ⟨_, rfl⟩
  · rw [if_neg hj, if_neg hj]; exact ⟨_, rfl⟩
theorem call_int1 : CallR X (.type "int") (fun xs H Q => (∃ i, xs = [.int i] ∧ Q (.int i) H) ∨ ∃ k, xs = [.bl k] ∧ Q (.int (if k then 1 else 0)) H) := by
  intro pins s σ H xs us Q I r h
  rcases h with ⟨i, rfl, q⟩ | ⟨k, rfl, q⟩
  · obtain ⟨u, rfl, t, rfl⟩ := vals1 r
    exact call_int_int ⟨.int i, H, I, ⟨_, rfl⟩, q⟩
  · obtain ⟨u, rfl, r1⟩ := vals1 r
    cases r1
    exact call_int_bool ⟨.int (if k then 1 else 0), H, I.tok _, ⟨_, rfl⟩, q⟩
theorem call_bool1 : CallR X (.type "bool") (fun xs H Q => (∃ i, xs = [.int i] ∧ Q (.bl (i != 0)) H) ∨ ∃ k, xs = [.bl k] ∧ Q (.bl k) H) := by
  intro pins s σ H xs us Q I r h
  rcases h with ⟨i, rfl, q⟩ | ⟨k, rfl, q⟩
  · obtain ⟨u, rfl, t, rfl⟩ := vals1 r
    exact call_bool_int ⟨.bl (i != 0), H, I, rfl, q⟩
  · obtain ⟨u, rfl, r1⟩ := vals1 r
    cases r1
    exact call_bool_bool ⟨.bl k, H, I, rfl, q⟩
theorem call_str_int : CallR X (.type "str") (fun xs H Q => ∃ i, xs = [.int i] ∧ i.natAbs.log2 < 1920 ∧ Q (.str (toString i)) H) := by
  intro pins s σ H xs us Q I r h
  obtain ⟨i, rfl, hz, q⟩ := h
  obtain ⟨u, rfl, t, rfl⟩ := vals1 r
  exact PySem.P.str_of_int hz ⟨.str _, H, I.tok _, ⟨_, rfl⟩, q⟩
theorem call_ord : CallR X (.builtin "ord") (fun xs H Q => ∃ x, xs = [.str x] ∧ x.length = 1 ∧ Q (.int (x.cps.getD 0 0 : Nat)) H) := by
  intro pins s σ H xs us Q I r h
  obtain ⟨x, rfl, hz, q⟩ := h
  obtain ⟨u, rfl, t, rfl⟩ := vals1 r
  exact ord_of_one hz ⟨.int _, H, I.tok _, ⟨_, rfl⟩, q⟩
theorem call_chr : CallR X (.builtin "chr") (fun xs H Q => ∃ i, xs = [.int i] ∧ 0 ≤ i ∧ i ≤ 1114111 ∧ Q (.str ⟨#[i.toNat]⟩) H) := by
  intro pins s σ H xs us Q I r h
  obtain ⟨i, rfl, h0, h1, q⟩ := h
  obtain ⟨u, rfl, t, rfl⟩ := vals1 r
  exact chr_of_range h0 h1 ⟨.str _, H, I.tok _, ⟨_, rfl⟩, q⟩
/-- len of a str, a bytes, a list, a tuple -/
def LenV (K : PySem.W.Frag) (x : V) (H : Hp) (n : Nat) : Prop :=
  match x with
  | .str y => y.length ≤ sizeLine ∧ n = y.length
  | .byt y => y.size ≤ sizeLine ∧ n = y.size
  | .ref p => (∃ xs, SqL K H p xs ∧ n = xs.length) ∨ ∃ xs, SqT K H p xs ∧ n = xs.length
  | _ => False
theorem call_len : CallR X (.builtin "len") (fun xs H Q => ∃ x n, xs = [x] ∧ LenV X.K x H n ∧ Q (.int n) H) := by
  intro pins s σ H xs us Q I r h
  obtain ⟨x, n, rfl, e, q⟩ := h
  obtain ⟨u, rfl, rx⟩ := vals1 r
  have hl := line63
  have hs : sizeLine = 16777216 := sizeLine_eq
  cases x with
  | str y =>
    obtain ⟨t, rfl⟩ := rx
    obtain ⟨hy, e'⟩ : y.length ≤ sizeLine ∧ n = y.length := e
    subst e'
    exact len_str (by omega) ⟨.int _, H, I.tok _, ⟨_, rfl⟩, q⟩
  | byt y =>
    obtain ⟨t, rfl⟩ := rx
    obtain ⟨hy, e'⟩ : y.size ≤ sizeLine ∧ n = y.size := e
    subst e'
    exact PySem.W.len_bytes (by omega) ⟨.int _, H, I.tok _, ⟨_, rfl⟩, q⟩
  | ref p =>
    cases rx
    have e' : (∃ xs, SqL X.K H p xs ∧ n = xs.length) ∨ ∃ xs, SqT X.K H p xs ∧ n = xs.length := e
    rcases e' with ⟨xs, hx, e'⟩ | ⟨xs, hx, e'⟩
    · subst e'
      obtain ⟨its, r', pl, hz⟩ := I.list hx
      have hlen := r'.length
      exact Calls.call_len_list pl.isList (by simp only [List.size_toArray]; omega) ⟨.int xs.length, H, I.tok _, ⟨_, by simp only [List.size_toArray]; rw [hlen]⟩, q⟩
    · subst e'
      obtain ⟨its, r', pl, hz⟩ := I.tuple hx
      have hlen := r'.length
      exact len_tuple pl (by simp only [List.size_toArray]; omega) ⟨.int xs.length, H, I.tok _, ⟨_, by simp only [List.size_toArray]; rw [hlen]⟩, q⟩
  | _ => exact (show False from e).elim
/-- divmod: a new tuple -/
theorem call_divmod : CallR X (.builtin "divmod") (fun xs H Q => ∃ i j, xs = [.int i, .int j] ∧ CDiv i j ∧ ∀ p, H p = none → Q (.ref p) (upd H p (.tup [.int (i / j), .int (i % j)]))) := by
  intro pins s σ H xs us Q I r h
  obtain ⟨i, j, rfl, ⟨h1, h2⟩, q⟩ := h
  obtain ⟨u, w', rfl, ⟨t, rfl⟩, ⟨t', rfl⟩⟩ := vals2 r
  refine divmod_int (by omega) ?_ (.inl (PyProof.noPylong_small (by omega)))
  rw [Int.fdiv_eq_ediv_of_nonneg i (by omega), Int.fmod_eq_emod_of_nonneg i (by omega)]
  have hn : H s.heap.objs.size = none := I.hok.fresh (Nat.le_refl _)
  refine ⟨.ref s.heap.objs.size, _, ?_, rfl, q _ hn⟩
  refine I.laid (fun b o e => Heap.get?_push_of_some _ e) (Nat.le_refl _) ⟨by simp only [List.length_cons, List.length_nil]; rw [sizeLine_eq]; decide, [.int (i / j) s.toks, .int (i % j) (s.toks + 1)], .cons ⟨_, rfl⟩ (.cons ⟨_, rfl⟩ .nil), ?_⟩
  exact ⟨_, Heap.get?_push_size s.heap rfl, rfl, 0, rfl⟩
end
end L2

namespace L2
open PySem PySem.Spec PyProof.Rows

/-! ### an instance, its attributes a map -/
structure ObjM (h : Heap) (x dx C : Addr) (mA : Str → Option Value) : Prop where
  obj : h.get? x = some (PySem.W.instObj C dx)
  ns : h.Ns1 dx mA
  ne : dx ≠ x

theorem lookIn_ns {h : Heap} {dx : Addr} {mA : Str → Option Value} (n : h.Ns1 dx mA) : ∃ od, h.get? dx = some od ∧ ∀ name, PySem.W.lookIn name od = some (mA name) := by
  obtain ⟨o, es, ep, ho, hd, hk, _, hm⟩ := n
  refine ⟨o, ho, fun name => ?_⟩
  have e := hm name
  unfold nsFind findBy at e
  rw [← Array.find?_toList] at e
  unfold PySem.W.lookIn
  rw [hd]
  dsimp only
  split
  · rename_i y q
    rw [q] at e
    exact congrArg some e
  · rename_i q
    rw [q] at e
    have a : es.toList.any (·.refKey) = false := by
      rw [List.any_eq_false]
      intro y hy
      obtain ⟨z, t, hkey⟩ := hk y (Array.mem_toList_iff.mp hy)
      simp [DictEntry.refKey, hkey]
    have a' : ¬ es.toList.any (·.refKey) = true := by rw [a]; exact Bool.false_ne_true
    rw [if_neg a']
    exact congrArg some e

theorem ObjM.look {h : Heap} {x dx C : Addr} {mA : Str → Option Value} (I : ObjM h x dx C mA) : ∃ od, PySem.W.InstAt h x (PySem.W.instObj C dx) C (some od) ∧ ∀ name, PySem.W.lookIn name od = some (mA name) :=
  let ⟨od, ho, hl⟩ := lookIn_ns I.ns
  ⟨od, ⟨I.obj, rfl, rfl, ho⟩, hl⟩

section
variable {prog : Program} {w : World} {A : Around} {E : Value → Shared → Prop} {s : Shared} {K : PySem.W.Frag} {x dx C f : Addr} {mA : Str → Option Value} {name : Str} {v : Value}

theorem get_map {expr : Bool} {Q : Value → Shared → Prop} (X : K.In s.heap) (I : ObjM s.heap x dx C mA) (hg : PySem.W.plainGet K C name = true) (hh : PySem.W.hasDictIn K C = true)
    (ha : PySem.W.findIn K (.ref C) name = some none) (hv : mA name = some v) (hv' : PySem.W.handedIn v = true) (h : Q v { s with toks := s.toks + 1 }) :
    wpAny (model prog w) A (getAttr (.ref x) name expr) Q E s := by
  obtain ⟨od, J, hl⟩ := I.look
  exact PySem.W.get_value X J (PySem.W.plainGet_of hg).1 (PySem.W.findObj_own hh ha rfl (by rw [hl, hv])) hv' h

theorem get_const {expr : Bool} {a : Value} {Q : Value → Shared → Prop} (X : K.In s.heap) (I : ObjM s.heap x dx C mA) (hg : PySem.W.plainGet K C name = true) (hh : PySem.W.hasDictIn K C = true)
    (ha : PySem.W.findIn K (.ref C) name = some (some a)) (hn : PySem.W.specialIn K a "__get__" = some none) (hc : PySem.W.copiedNames.contains name = false) (hv : mA name = none) (hv' : PySem.W.handedIn a = true)
    (h : Q a { s with toks := s.toks + 1 }) : wpAny (model prog w) A (getAttr (.ref x) name expr) Q E s := by
  obtain ⟨od, J, hl⟩ := I.look
  exact PySem.W.get_value X J (PySem.W.plainGet_of hg).1 (PySem.W.findObj_cls hh ha hn hv' hc (by rw [hl, hv])) hv' h

theorem get_meth {pl : Sem Bool} {Q : Value × List Value → Shared → Prop} (X : K.In s.heap) (I : ObjM s.heap x dx C mA) (hg : PySem.W.plainGet K C name = true)
    (hf : PySem.W.findIn K (.ref C) name = some (some (.ref f))) (ht : PySem.W.isFn K (.ref f) = true) (hv : mA name = none) (h : Q (.ref f, [.ref x]) s) :
    wpAny (model prog w) A (getMethod (.ref x) name pl) Q E s := by
  obtain ⟨od, J, hl⟩ := I.look
  exact PySem.W.method_fn X J (PySem.W.plainGet_of hg).1 (PySem.W.plainGet_of hg).2 hf (beq_iff_eq.mp ht) (by show (PySem.W.lookIn name od).map (·.isSome) = some false; rw [hl, hv]; rfl) h

theorem set_map {ns : List Str} {Q : Unit → Shared → Prop} (X : K.In s.heap) (I : ObjM s.heap x dx C mA)
    (hs : PySem.W.findIn K (.ref C) "__setattr__" = some (some (.builtin "object.__setattr__"))) (hp : PySem.W.plainOver K C = true) (ht : PySem.W.takerIn K C name = some none) (hh : PySem.W.hasDictIn K C = true)
    (hw : PySem.Within mA ns) (hsz : ns.length ≤ sizeLine)
    (h : ∀ h', ObjM h' x dx C (fun y => if y = name then some v else mA y) → Heap.SameBut dx s.heap h' → Q () { s with heap := h', toks := s.toks + 2 }) :
    wpAny (model prog w) A (setAttr (.ref x) name v) Q E s := by
  obtain ⟨od, J, hl⟩ := I.look
  refine PySem.W.set_plain X J hs (PySem.W.osa_open (s := { s with toks := s.toks + 1 }) (r := none) X J hp ht fun b => ?_)
  obtain ⟨cd, hc, hd'⟩ := PySem.W.any_some hh
  have hx : s.heap.get? x = some ⟨.ref C, some dx, .plain, #[]⟩ := I.obj
  refine wpAny_bind (wpAny_pure (wpAny_bind (wpAny_bind (wpAny_loadPart hx (wpAny_bind (PySem.W.Looks.here (s := { s with toks := s.toks + 1 }) (PySem.W.looks_clsIn X hc) ?_))))))
  rw [hd']
  refine wpAny_pure (a := some dx) (wpAny_bind (wpAny_pure (wpAny_bind ?_)))
  refine wpAny_nsSet1 (s := { s with toks := s.toks + 1 }) I.ns fun h' hn2 hs2 => ?_
  obtain ⟨oD, esD, epD, hoD, hdD, hcD⟩ := hn2.count (PySem.Within.cons name v hw)
  refine wpAny_bind (wpAny_lookBehind hoD (by rw [hdD]; exact pastItsLine_dict (Nat.le_trans hcD (by rw [List.length_cons]; omega))) ?_)
  exact wpAny_pure (h _ ⟨(hs2.2 _ (Ne.symm I.ne)).trans I.obj, hn2, I.ne⟩ hs2)

/-- C(..): the dict at the heap's end, the instance behind it; then its __init__ -/
theorem make_map {R : Result → Shared → Prop} {vs : List Value} {kw : List (Str × Value)} (X : K.In s.heap) (hm : PySem.W.makesIn K C = true)
    (hi : PySem.W.findIn K (.ref C) "__init__" = some (some (.ref f))) (hf : PySem.W.typeIn K (.ref f) = some (.type "function"))
    (h : codeAny (model prog w) (A.under (.builtin "type.__call__" ⟨.ref C :: vs, kw⟩)) (.call (.ref f) ⟨.ref (s.heap.objs.size + 1) :: vs, kw⟩) (PySem.W.InitBack (s.heap.objs.size + 1) R)
      { s with heap := (s.heap.push PySem.W.emptyDict).push (PySem.W.instObj C s.heap.objs.size) }) :
    codeAny (model prog w) A (.call (.ref C) ⟨vs, kw⟩) R s := by
  obtain ⟨hh, g, d, t, os⟩ := s
  exact PySem.W.make_core (PySem.W.makes_of X hm) (PySem.W.looks_findIn X hi) (fun self => PySem.W.bind_fn X self hf) (.inl rfl) h
/-- C() where there is no __init__ but object's -/
theorem make_map0 {R : Result → Shared → Prop} (X : K.In s.heap) (hm : PySem.W.makesIn K C = true)
    (hi : PySem.W.findIn K (.ref C) "__init__" = some (some (.builtin "object.__init__")))
    (hb : ∀ self, PySem.W.Looks (model prog w) s.heap (bindSpecial (.builtin "object.__init__") self) (.builtin "object.__init__", [self]))
    (h : codeAny (model prog w) (A.under (.builtin "type.__call__" ⟨[.ref C], []⟩)) (.call (.builtin "object.__init__") ⟨[.ref (s.heap.objs.size + 1)], []⟩) (PySem.W.InitBack (s.heap.objs.size + 1) R)
      { s with heap := (s.heap.push PySem.W.emptyDict).push (PySem.W.instObj C s.heap.objs.size) }) :
    codeAny (model prog w) A (.call (.ref C) ⟨[], []⟩) R s := by
  obtain ⟨hh, g, d, t, os⟩ := s
  exact PySem.W.make_core (PySem.W.makes_of X hm) (PySem.W.looks_findIn X hi) hb (.inr ⟨rfl, rfl⟩) h
end

/-! ### the attributes as a list of pairs -/
def putF (f : Str) (v : V) : List (Str × V) → List (Str × V)
  | [] => [(f, v)]
  | (g, x) :: r => if g = f then (g, v) :: r else (g, x) :: putF f v r
theorem lookup_putF (f g : Str) (v : V) : ∀ fs : List (Str × V), (putF f v fs).lookup g = if g = f then some v else fs.lookup g
  | [] => by
    show List.lookup g [(f, v)] = _
    by_cases h : g = f
    · have hb : (g == f) = true := beq_iff_eq.mpr h
      simp only [List.lookup, hb, if_pos h]
    · have hb : (g == f) = false := beq_eq_false_iff_ne.mpr h
      simp only [List.lookup, hb, if_neg h]
  | (k, x) :: r => by
    have ih := lookup_putF f g v r
    rw [show putF f v ((k, x) :: r) = (if k = f then (k, v) :: r else (k, x) :: putF f v r) from rfl]
    by_cases hk : k = f
    · rw [if_pos hk]
      by_cases h : g = k
      · have hb : (g == k) = true := beq_iff_eq.mpr h
        simp only [List.lookup, hb, if_pos (h.trans hk)]
      · have hb : (g == k) = false := beq_eq_false_iff_ne.mpr h
        simp only [List.lookup, hb, if_neg (fun e : g = f => h (e.trans hk.symm))]
    · rw [if_neg hk]
      by_cases h : g = k
      · have hb : (g == k) = true := beq_iff_eq.mpr h
        simp only [List.lookup, hb, if_neg (fun e : g = f => hk (h.symm.trans e))]
      · have hb : (g == k) = false := beq_eq_false_iff_ne.mpr h
        simp only [List.lookup, hb]
        exact ih
theorem keys_putF (f : Str) (v : V) : ∀ fs : List (Str × V), f ∈ (putF f v fs).map (·.1) ∧ ∀ g, g ∈ fs.map (·.1) → g ∈ (putF f v fs).map (·.1)
  | [] => ⟨by simp [putF], fun g h => by simp at h⟩
  | (k, x) :: r => by
    obtain ⟨i1, i2⟩ := keys_putF f v r
    rw [show putF f v ((k, x) :: r) = (if k = f then (k, v) :: r else (k, x) :: putF f v r) from rfl]
    by_cases hk : k = f
    · rw [if_pos hk]
      subst hk
      exact ⟨by simp, fun g h => by simpa using h⟩
    · rw [if_neg hk]
      refine ⟨?_, fun g h => ?_⟩
      · rw [List.map_cons]
        exact List.mem_cons_of_mem _ i1
      · rw [List.map_cons] at h ⊢
        rcases List.mem_cons.mp h with e | e
        · exact List.mem_cons.mpr (.inl e)
        · exact List.mem_cons_of_mem _ (i2 g e)
theorem length_putF (f : Str) (v : V) : ∀ fs : List (Str × V), (putF f v fs).length ≤ fs.length + 1
  | [] => by simp [putF]
  | (k, x) :: r => by
    have ih := length_putF f v r
    rw [show putF f v ((k, x) :: r) = (if k = f then (k, v) :: r else (k, x) :: putF f v r) from rfl]
    by_cases hk : k = f
    · rw [if_pos hk, List.length_cons, List.length_cons]; omega
    · rw [if_neg hk, List.length_cons, List.length_cons]; omega

theorem RelO.some_of {v : V} {o : Option Value} (r : RelO (some v) o) : ∃ u, o = some u ∧ RelV v u := by
  cases o with
  | none => exact (show False from r).elim
  | some u => exact ⟨u, rfl, r⟩
theorem RelO.none_of {o : Option Value} (r : RelO none o) : o = none := by
  cases o with
  | none => rfl
  | some u => exact (show False from r).elim
theorem handed_of {v : V} {u : Value} (r : RelV v u) : PySem.W.handedIn u = true := by
  cases v with
  | non => cases (show u = Value.none from r); rfl
  | bl b => cases (show u = Value.bool b from r); rfl
  | int i => obtain ⟨t, e⟩ := (show ∃ t, u = Value.int i t from r); cases e; rfl
  | str x => obtain ⟨t, e⟩ := (show ∃ t, u = Value.str x t from r); cases e; rfl
  | byt b => obtain ⟨t, e⟩ := (show ∃ t, u = Value.bytes b t from r); cases e; rfl
  | flt b => obtain ⟨t, e⟩ := (show ∃ t, u = Value.float b t from r); cases e; rfl
  | ref a => cases (show u = Value.ref a from r); rfl
  | ty n => cases (show u = Value.type n from r); rfl

section
variable {P : Program} {w : World} {H H' : Hp} {h h' : Heap} {a C dx : Addr} {fs fs' : List (Str × V)}
theorem ins_get (hok : HOk P w H h) (e : H a = some (.ins C dx fs)) : ∃ mA, ObjM h a dx C mA ∧ (∀ f, RelO (fs.lookup f) (mA f)) ∧ PySem.Within mA (fs.map (·.1)) ∧ fs.length ≤ 1000 ∧ H dx = some (.own a) := by
  obtain ⟨d, z, ne, ob, mA, n, r, q⟩ := (show ObjOk P w H h a (.ins C dx fs) from hok a _ e)
  exact ⟨mA, ⟨ob, n, ne⟩, r, q, z, d⟩
end

/-! ### what of the text a class must have -/
structure Cls (K : PySem.W.Frag) (C : Addr) : Prop where
  pg : PySem.W.plainGet K C Str.empty = true
  hd : PySem.W.hasDictIn K C = true
  po : PySem.W.plainOver K C = true
  sa : PySem.W.findIn K (.ref C) "__setattr__" = some (some (.builtin "object.__setattr__"))
theorem Cls.get {K : PySem.W.Frag} {C : Addr} (c : Cls K C) (f : Str) : PySem.W.plainGet K C f = true := c.pg
/-- no class of it has the name -/
def NoAttr (K : PySem.W.Frag) (C : Addr) (f : Str) : Prop := PySem.W.findIn K (.ref C) f = some none
theorem NoAttr.taker {K : PySem.W.Frag} {C : Addr} {f : Str} (n : NoAttr K C f) : PySem.W.takerIn K C f = some none := by
  unfold PySem.W.takerIn
  rw [show PySem.W.findIn K (.ref C) f = some none from n]
  rfl
/-- a constant of the class -/
structure Con (K : PySem.W.Frag) (C : Addr) (f : Str) (v : V) (u : Value) : Prop where
  at_ : PySem.W.findIn K (.ref C) f = some (some u)
  rel : RelV v u
  get : PySem.W.specialIn K u "__get__" = some none
  cp : PySem.W.copiedNames.contains f = false
/-- a method: a plain def of the class or of one above it -/
structure Meth (K : PySem.W.Frag) (C : Addr) (m : Str) (f : Addr) : Prop where
  at_ : PySem.W.findIn K (.ref C) m = some (some (.ref f))
  fn : PySem.W.isFn K (.ref f) = true
  kp : PySem.W.keepIn K (.ref f) = true

section
variable {X : Cx} {pins : List (Addr × Obj)} {σ : St} {H : Hp} {s : Shared} {a C dx : Addr} {fs : List (Str × V)} {f : Str} {v : V} {A : Around} {E : Value → Shared → Prop}

theorem getattr_ok {b : Bool} {Q : Value → Shared → Prop} (I : Inv X pins σ H s) (e : H a = some (.ins C dx fs)) (c : Cls X.K C) (n : NoAttr X.K C f) (l : fs.lookup f = some v)
    (h : ∀ u s', Inv X pins σ H s' → RelV v u → Q u s') : wpAny (model X.prog X.w) A (getAttr (.ref a) f b) Q E s := by
  obtain ⟨mA, O, r, _, _, _⟩ := ins_get I.hok e
  obtain ⟨u, hu, ru⟩ := RelO.some_of (v := v) (o := mA f) (by rw [← l]; exact r f)
  exact get_map I.kIn O (c.get f) c.hd n hu (handed_of ru) (h u _ (I.tok _) ru)

theorem getcon_ok {b : Bool} {u : Value} {Q : Value → Shared → Prop} (I : Inv X pins σ H s) (e : H a = some (.ins C dx fs)) (c : Cls X.K C) (k : Con X.K C f v u) (l : fs.lookup f = none)
    (h : ∀ s', Inv X pins σ H s' → Q u s') : wpAny (model X.prog X.w) A (getAttr (.ref a) f b) Q E s := by
  obtain ⟨mA, O, r, _, _, _⟩ := ins_get I.hok e
  have hn : mA f = none := RelO.none_of (by rw [← l]; exact r f)
  exact get_const I.kIn O (c.get f) c.hd k.at_ k.get k.cp hn (handed_of k.rel) (h _ (I.tok _))

theorem getmeth_ok {m : Str} {g : Addr} {pl : Sem Bool} {Q : Value × List Value → Shared → Prop} (I : Inv X pins σ H s) (e : H a = some (.ins C dx fs)) (c : Cls X.K C) (k : Meth X.K C m g) (l : fs.lookup m = none)
    (h : Q (.ref g, [.ref a]) s) : wpAny (model X.prog X.w) A (getMethod (.ref a) m pl) Q E s := by
  obtain ⟨mA, O, r, _, _, _⟩ := ins_get I.hok e
  have hn : mA m = none := RelO.none_of (by rw [← l]; exact r m)
  exact get_meth I.kIn O (c.get m) k.at_ k.fn hn h

theorem setattr_ok {y : V} {u : Value} {Q : Unit → Shared → Prop} (I : Inv X pins σ H s) (e : H a = some (.ins C dx fs)) (c : Cls X.K C) (n : NoAttr X.K C f) (hl : fs.length < 1000) (ry : RelV y u)
    (h : ∀ s', Inv X pins σ (upd H a (.ins C dx (putF f y fs))) s' → Q () s') : wpAny (model X.prog X.w) A (setAttr (.ref a) f u) Q E s := by
  obtain ⟨mA, O, r, wi, _, ho⟩ := ins_get I.hok e
  have hz : (fs.map (·.1)).length ≤ sizeLine := by rw [List.length_map, sizeLine_eq]; omega
  refine set_map I.kIn O c.sa c.po n.taker c.hd wi hz fun h' O' sb => h _ ?_
  have hd : ∃ o, h'.get? dx = some o := let ⟨o, _, _, e', _⟩ := O'.ns; ⟨o, e'⟩
  refine I.write (x := a) (e := dx) (by rw [e]; exact True.intro) (.inr ho) (fun b q hb z => (sb.2 b hb).trans z) hd ?_
  refine ⟨by rw [upd_ne O.ne]; exact ho, ?_, O.ne, O'.obj, _, O'.ns, fun g => ?_, fun g hg => ?_⟩
  · have := length_putF f y fs; omega
  · show RelO ((putF f y fs).lookup g) (if g = f then some u else mA g)
    rw [lookup_putF]
    by_cases q : g = f
    · rw [if_pos q, if_pos q]; exact ry
    · rw [if_neg q, if_neg q]; exact r g
  · by_cases q : g = f
    · rw [q]; exact (keys_putF f y fs).1
    · refine (keys_putF f y fs).2 g (wi g fun z => hg ?_)
      show (if g = f then some u else mA g) = none
      rw [if_neg q]; exact z

/-- a new instance, tracked, without attributes -/
theorem Inv.made (I : Inv X pins σ H s) : Inv X pins σ (upd (upd H s.heap.objs.size (.own (s.heap.objs.size + 1))) (s.heap.objs.size + 1) (.ins C s.heap.objs.size []))
    { s with heap := (s.heap.push PySem.W.emptyDict).push (PySem.W.instObj C s.heap.objs.size) } := by
  have e1 : (s.heap.push PySem.W.emptyDict).get? s.heap.objs.size = some PySem.W.emptyDict := Heap.get?_push_size s.heap rfl
  have e2 : ((s.heap.push PySem.W.emptyDict).push (PySem.W.instObj C s.heap.objs.size)).get? (s.heap.objs.size + 1) = some (PySem.W.instObj C s.heap.objs.size) := by
    have := Heap.get?_push_size (s.heap.push PySem.W.emptyDict) (o := PySem.W.instObj C s.heap.objs.size) rfl
    rwa [Heap.size_push] at this
  have e3 : (s.heap.push PySem.W.emptyDict).Ns s.heap.objs.size (fun _ => none) := ⟨PySem.W.emptyDict, #[], _, e1, rfl, (fun e he => absurd he (by simp)), fun _ => rfl⟩
  have I1 := I.laid (a := s.heap.objs.size) (o := .own (s.heap.objs.size + 1)) (h' := s.heap.push PySem.W.emptyDict) (t' := s.toks) (fun b u q => Heap.get?_push_of_some _ q) (Nat.le_refl _) ⟨_, e1⟩
  refine I1.laid (a := s.heap.objs.size + 1) (o := .ins C s.heap.objs.size []) (t' := s.toks) (fun b u q => Heap.get?_push_of_some _ q) (Nat.le_of_eq (Heap.size_push _ _)) ?_
  have ne : s.heap.objs.size ≠ s.heap.objs.size + 1 := Nat.ne_of_lt (Nat.lt_succ_self _)
  refine ⟨by rw [upd_ne ne, upd_same], Nat.zero_le _, ne, e2, fun _ => none, (Heap.Ns1.of_empty e3).at fun o q => Heap.get?_push_of_some _ q, fun _ => True.intro, fun y hy => absurd rfl hy⟩

/-- e.f where nothing but the object is asked: through attributeBase (super) and the last hold -/
theorem attr_of {prog : Program} {w : World} {env : Env} {e : Expr} {f : Str} {pos : Pos} {s : Shared} {Q : Value → Shared → Prop} (hb : attributeBase e f env (eval e env) = eval e env)
    (h : wpAny (model prog w) A (eval e env) (fun o s₁ => wpAny (model prog w) A (getAttr o f true) Q E s₁) E s) : wpAny (model prog w) A (eval (.Attribute e f pos) env) Q E s :=
  Attribute_any_ h (by rw [arm_eval_Attribute, hb])
end

/-! ### readings and rules -/
/-- e.f, an attribute of the instance -/
def tFld (K : PySem.W.Frag) (ta : TE) (f : Str) : TE := fun σ H Q => ta σ H fun x H1 => ∃ a C dx fs v, x = .ref a ∧ H1 a = some (.ins C dx fs) ∧ Cls K C ∧ NoAttr K C f ∧ fs.lookup f = some v ∧ Q v H1
/-- e.f, a constant of the class -/
def tCon (K : PySem.W.Frag) (ta : TE) (f : Str) : TE := fun σ H Q => ta σ H fun x H1 => ∃ a C dx fs v u, x = .ref a ∧ H1 a = some (.ins C dx fs) ∧ Cls K C ∧ Con K C f v u ∧ fs.lookup f = none ∧ Q v H1
/-- e.f = value -/
def sFld (K : PySem.W.Frag) (ta tv : TE) (f : Str) : TS := fun D σ H => tv σ H fun y H1 => ta σ H1 fun x H2 => ∃ a C dx fs, x = .ref a ∧ H2 a = some (.ins C dx fs) ∧ Cls K C ∧ NoAttr K C f ∧ fs.length < 1000 ∧
  D.nx σ (upd H2 a (.ins C dx (putF f y fs)))
/-- an augmented operator on two values -/
def InOp (X : Cx) (op : Operator) (rd : V → V → Hp → VK → Prop) : Prop :=
  ∀ (pins : List (Addr × Obj)) (s : Shared) (σ : St) (H : Hp) (x y : V) (u v : Value) (Q : VK), Inv X pins σ H s → RelV x u → RelV y v → rd x y H Q → wpAny (model X.prog X.w) X.A (inplaceOp op u v) (EP X pins σ Q) X.xe s
/-- e.f op= value -/
def sFldAug (K : PySem.W.Frag) (ta tv : TE) (rd : V → V → Hp → VK → Prop) (f : Str) : TS := fun D σ H => ta σ H fun x H1 => ∃ a C dx fs v, x = .ref a ∧ H1 a = some (.ins C dx fs) ∧ Cls K C ∧ NoAttr K C f ∧ fs.lookup f = some v ∧
  tv σ H1 fun y H2 => rd v y H2 fun z H3 => ∃ dx' fs', H3 a = some (.ins C dx' fs') ∧ fs'.length < 1000 ∧ D.nx σ (upd H3 a (.ins C dx' (putF f z fs')))

section
variable {X : Cx} {o e value : Expr} {f : Str} {pos pos' tpos : Pos} {ta tv : TE}
theorem pe_fld (he : PE X e ta) (hb : attributeBase e f X.env (eval e X.env) = eval e X.env) : PE X (.Attribute e f pos) (tFld X.K ta f) := by
  intro pins s σ H Q I h
  refine attr_of hb (thn (he pins s σ H _ I h) fun u s1 ⟨x, H1, I1, rx, a, C, dx, fs, v, ex, ea, c, n, l, q⟩ => ?_)
  subst ex
  obtain rfl : u = Value.ref a := rx
  exact getattr_ok I1 ea c n l fun u' s2 I2 ru => ⟨v, H1, I2, ru, q⟩
theorem pe_con (he : PE X e ta) (hb : attributeBase e f X.env (eval e X.env) = eval e X.env) : PE X (.Attribute e f pos) (tCon X.K ta f) := by
  intro pins s σ H Q I h
  refine attr_of hb (thn (he pins s σ H _ I h) fun u s1 ⟨x, H1, I1, rx, a, C, dx, fs, v, u0, ex, ea, c, k, l, q⟩ => ?_)
  subst ex
  obtain rfl : u = Value.ref a := rx
  exact getcon_ok I1 ea c k l fun s2 I2 => ⟨v, H1, I2, k.rel, q⟩
theorem ps_fld (ha : PE X o ta) (hv : PE X value tv) (hs : swapsWith value (some (.Attribute o f pos')) pos.line X.env = pure false) : PS X (.Assign [.Attribute o f pos'] value pos) (sFld X.K ta tv f) := by
  intro pins s σ H D I h
  refine plainObj_wpAny_Assign_Attribute (thn (hv pins s σ H _ I h) fun u s1 ⟨y, H1, I1, ry, q⟩ => thn (ha pins s1 σ H1 _ I1 q) fun ov s2 ⟨x, H2, I2, rx, a, C, dx, fs, ex, ea, c, n, l, q2⟩ => ?_) hs
  subst ex
  obtain rfl : ov = Value.ref a := rx
  exact setattr_ok I2 ea c n l ry fun s3 I3 => ⟨σ, _, I3, q2⟩
theorem ps_fldaug {op : Operator} {rd : V → V → Hp → VK → Prop} (ha : PE X o ta) (hv : PE X value tv) (hop : InOp X op rd) : PS X (.AugAssign (.Attribute o f tpos) op value pos) (sFldAug X.K ta tv rd f) := by
  intro pins s σ H D I h
  refine wpAny_AugAssign_AttributeAny (thn (ha pins s σ H _ I h) fun ov s1 ⟨x, H1, I1, rx, a, C, dx, fs, v, ex, ea, c, n, l, q⟩ => ?_)
  subst ex
  obtain rfl : ov = Value.ref a := rx
  refine getattr_ok I1 ea c n l fun u s2 I2 ru => thn (hv pins s2 σ H1 _ I2 q) fun w3 s3 ⟨y, H2, I3, ry, q3⟩ => thn (hop pins s3 σ H2 v y u w3 _ I3 ru ry q3) fun w4 s4 ⟨z, H3, I4, rz, dx', fs', ea', l', q4⟩ => ?_
  exact setattr_ok I4 ea' c n l' rz fun s5 I5 => ⟨σ, _, I5, q4⟩
def rAdd : V → V → Hp → VK → Prop := fun x y H Q => ∃ i j, x = .int i ∧ y = .int j ∧ Q (.int (i + j)) H
def rSub : V → V → Hp → VK → Prop := fun x y H Q => ∃ i j, x = .int i ∧ y = .int j ∧ Q (.int (i - j)) H
theorem in_add : InOp X .Add rAdd := by
  rintro pins s σ H x y u v Q I rx ry ⟨i, j, rfl, rfl, q⟩
  obtain ⟨t, rfl⟩ := (show ∃ t, u = Value.int i t from rx)
  obtain ⟨t', rfl⟩ := (show ∃ t', v = Value.int j t' from ry)
  exact PyProof.Rows.iadd_int ⟨.int (i + j), H, I.tok _, ⟨_, rfl⟩, q⟩
theorem in_sub : InOp X .Sub rSub := by
  rintro pins s σ H x y u v Q I rx ry ⟨i, j, rfl, rfl, q⟩
  obtain ⟨t, rfl⟩ := (show ∃ t, u = Value.int i t from rx)
  obtain ⟨t', rfl⟩ := (show ∃ t', v = Value.int j t' from ry)
  exact PyProof.Rows.isub_int ⟨.int (i - j), H, I.tok _, ⟨_, rfl⟩, q⟩

/-- what is between an instance and its method: the tree of a method call -/
theorem methcall_of {pl : Sem Bool} {m : Str} {apos : Pos} {args : List Expr} {pins : List (Addr × Obj)} {s : Shared} {σ : St} {H : Hp} {Q : Value → Shared → Prop} {te : TE} (he : PE X e te) (I : Inv X pins σ H s)
    (h : te σ H fun x H1 => ∃ a C dx fs g, x = .ref a ∧ H1 a = some (.ins C dx fs) ∧ Cls X.K C ∧ Meth X.K C m g ∧ fs.lookup m = none ∧
      ∀ s1, Inv X pins σ H1 s1 → wpAny (model X.prog X.w) X.A (callWith pos (.ref g) [.ref a] (backTo pos (starEach args X.env)) (backToKw pos (keywordEach [] X.env))) Q X.xe s1)
    (ht : eval (.Call (.Attribute e m apos) args [] pos) X.env = (do
      let ov ← eval e X.env
      standAt apos.atName
      let (f, first) ← holding [ov] (getMethod ov m pl)
      callWith pos f first (backTo pos (starEach args X.env)) (backToKw pos (keywordEach [] X.env)))) :
    wpAny (model X.prog X.w) X.A (eval (.Call (.Attribute e m apos) args [] pos) X.env) Q X.xe s := by
  refine PySem.W.methodCall_KW (pl := pl) (thn (he pins s σ H _ I h) fun u s1 ⟨x, H1, I1, rx, a, C, dx, fs, g, ex, ea, c, k, l, q⟩ => ?_) ht
  subst ex
  obtain rfl : u = Value.ref a := rx
  exact getmeth_ok I1 ea c k l (q s1 I1)
end

/-! ### isinstance -/
section
variable {X : Cx} {pins : List (Addr × Obj)} {σ : St} {H : Hp} {s : Shared} {A : Around} {E : Value → Shared → Prop} {Q : Value → Shared → Prop} {c : Value} {b : Bool}
/-- the type of a value, as the fragment's deciders take it; for an instance its class -/
inductive TyOf (K : PySem.W.Frag) (H : Hp) : V → Value → Prop where
  | non : TyOf K H .non (.type "NoneType")
  | bl (x : Bool) : TyOf K H (.bl x) (.type "bool")
  | int (i : Int) : TyOf K H (.int i) (.type "int")
  | str (x : Str) : TyOf K H (.str x) (.type "str")
  | flt (x : UInt64) : TyOf K H (.flt x) (.type "float")
  | lst {a : Addr} {xs : List V} (e : H a = some (.lst xs)) : TyOf K H (.ref a) (.type "list")
  | frz {a : Addr} {o : Obj} {xs : List V} (e : H a = some (.frz o (.lst xs))) : TyOf K H (.ref a) (.type "list")
  | tup {a : Addr} {xs : List V} (e : H a = some (.tup xs)) : TyOf K H (.ref a) (.type "tuple")
  | dK {a : Addr} {kvs : List (Key × V)} (e : H a = some (.dK kvs)) : TyOf K H (.ref a) (.type "dict")
  | dT {a : Addr} {kvs : List (List Key × V)} (e : H a = some (.dT kvs)) : TyOf K H (.ref a) (.type "dict")
  | ins {a C dx : Addr} {fs : List (Str × V)} (e : H a = some (.ins C dx fs)) (cl : Cls K C) (ha : PySem.W.findIn K (.ref C) "__class__" = some (some (.builtin "object.__class__")))
      (hn : PySem.W.specialIn K (.builtin "object.__class__") "__get__" = some (some (.builtin "getset_descriptor.__get__"))) (htk : PySem.W.takesIn K (.builtin "object.__class__") = some true)
      (hm : PySem.W.mroIn K C (.type "object") = some true) : TyOf K H (.ref a) (.ref C)
/-- isinstance(x, c) for one class c, a built-in or an own one: kitOne's answer -/
theorem isinst_ok {x : V} {u t : Value} (I : Inv X pins σ H s) (rx : RelV x u) (ty : TyOf X.K H x t) (e : PySem.W.kitOne X.K t c = some b) (h : ∀ tk, Q (.bool b) { s with toks := tk }) :
    wpAny (model X.prog X.w) A (call (.builtin "isinstance") [u, c]) Q E s := by
  cases ty with
  | non => cases (show u = Value.none from rx); exact PySem.W.kia_one PySem.W.kitx_none I.kIn True.intro e (fun z => nomatch z) h
  | bl y => cases (show u = Value.bool y from rx); exact PySem.W.kia_one PySem.W.kitx_bool I.kIn True.intro e (fun z => nomatch z) h
  | int i => obtain ⟨t, q⟩ := (show ∃ t, u = Value.int i t from rx); cases q; exact PySem.W.kia_one PySem.W.kitx_int I.kIn True.intro e (fun z => nomatch z) h
  | str y => obtain ⟨t, q⟩ := (show ∃ t, u = Value.str y t from rx); cases q; exact PySem.W.kia_one PySem.W.kitx_str I.kIn True.intro e (fun z => nomatch z) h
  | flt y => obtain ⟨t, q⟩ := (show ∃ t, u = Value.float y t from rx); cases q; exact PySem.W.kia_one PySem.W.kitx_float I.kIn True.intro e (fun z => nomatch z) h
  | @lst a xs ea =>
    cases (show u = Value.ref a from rx)
    obtain ⟨_, _, n, _, h1⟩ := (show ObjOk X.prog X.w H s.heap a (.lst xs) from I.hok a _ ea)
    exact PySem.W.kia_one PySem.W.kitx_list I.kIn ⟨_, h1, rfl⟩ e (fun z => nomatch z) h
  | @frz a ob xs ea =>
    cases (show u = Value.ref a from rx)
    obtain ⟨_, _, _, n, _, h1⟩ := (show ObjOk X.prog X.w H s.heap a (.frz ob (.lst xs)) from I.hok a _ ea)
    exact PySem.W.kia_one PySem.W.kitx_list I.kIn ⟨_, h1, rfl⟩ e (fun z => nomatch z) h
  | @tup a xs ea =>
    cases (show u = Value.ref a from rx)
    obtain ⟨_, _, _, p⟩ := (show ObjOk X.prog X.w H s.heap a (.tup xs) from I.hok a _ ea)
    obtain ⟨o, h1, h2, _⟩ := p
    exact PySem.W.kia_one PySem.W.kitx_tuple I.kIn ⟨o, h1, h2⟩ e (fun z => nomatch z) h
  | @dK a kvs ea =>
    cases (show u = Value.ref a from rx)
    obtain ⟨_, _, vs, _, p⟩ := (show ObjOk X.prog X.w H s.heap a (.dK kvs) from I.hok a _ ea)
    obtain ⟨o, es, ep, h1, h2, _⟩ := p
    exact PySem.W.kia_one PySem.W.kitx_dict I.kIn ⟨o, h1, h2.1⟩ e (fun z => nomatch z) h
  | @dT a kvs ea =>
    cases (show u = Value.ref a from rx)
    obtain ⟨_, _, xs, _, o, es, ep, h1, h2, _⟩ := (show ObjOk X.prog X.w H s.heap a (.dT kvs) from I.hok a _ ea)
    exact PySem.W.kia_one PySem.W.kitx_dict I.kIn ⟨o, h1, h2.1⟩ e (fun z => nomatch z) h
  | @ins a C dx fs ea cl ha hn htk hm =>
    cases (show u = Value.ref a from rx)
    obtain ⟨mA, O, _⟩ := ins_get I.hok ea
    obtain ⟨od, J, _⟩ := O.look
    exact PySem.W.kia_one (PySem.W.kitx_own (cl.get _) cl.hd ha hn htk hm) I.kIn J e (fun z => nomatch z) h
end
end L2

namespace L2
open PySem PySem.Spec PyProof.Rows

/-! ### room -/
structure Room (k : Nat) (A : Around) : Prop where
  hd : A.handled = none
  dp : A.depth + 3 * k + 5 < recursionLimit
  un : A.units + 16 * k + 200 < cLine
theorem Room.mono {j k : Nat} {A : Around} (r : Room k A) (h : j ≤ k) : Room j A := ⟨r.hd, by have := r.dp; omega, by have := r.un; omega⟩
theorem Room.deeper {k : Nat} {A : Around} (r : Room (k + 1) A) (env : Env) : Room k (A.deeper env) :=
  ⟨r.hd, by have := r.dp; show A.depth + 1 + 3 * k + 5 < _; omega, by have := r.un; show A.units + 3 + 16 * k + 200 < _; omega⟩
theorem Room.in1 {k : Nat} {A : Around} (r : Room (k + 1) A) : Room k A.in1 :=
  ⟨r.hd, by have := r.dp; show A.depth + 3 * k + 5 < _; omega, by have := r.un; show A.units + 1 + 16 * k + 200 < _; omega⟩
theorem make_depth {A : Around} {C : Addr} {us : List Value} {kw : List (Str × Value)} : (A.under (.builtin "type.__call__" ⟨.ref C :: us, kw⟩)).depth = A.depth + 1 := by
  first | rfl | simp [Around.under, Code.weight, Code.isCreation, Code.isGuard, Code.isCaller, Code.frames, Code.isFrame, guardIds]
theorem make_units {A : Around} {C : Addr} {us : List Value} {kw : List (Str × Value)} : (A.under (.builtin "type.__call__" ⟨.ref C :: us, kw⟩)).units = A.units + 1 := by
  first | rfl | simp [Around.under, Code.cUnits, Code.frames, Code.isFrame]
theorem Room.make {k : Nat} {A : Around} (r : Room (k + 1) A) (C : Addr) (us : List Value) (kw : List (Str × Value)) : Room k (A.under (.builtin "type.__call__" ⟨.ref C :: us, kw⟩)) :=
  ⟨r.hd, by have := r.dp; rw [make_depth]; omega, by have := r.un; rw [make_units]; omega⟩
theorem Room.depth {k : Nat} {A : Around} (r : Room k A) : A.depth < recursionLimit := by have := r.dp; omega
theorem Room.units {k : Nat} {A : Around} (r : Room k A) : A.units + 64 < cLine := by have := r.un; omega
theorem Room.units0 {k : Nat} {A : Around} (r : Room k A) : A.units < cLine := by have := r.un; omega

/-! ### argument lists and displays -/
def tNil : TA := fun _ H Q => Q [] H
def tCons (ta : TE) (tr : TA) : TA := fun σ H Q => ta σ H fun x H1 => tr σ H1 fun xs H2 => Q (x :: xs) H2
section
variable {X : Cx} {e : Expr} {es : List Expr} {te : TE} {t : TA} {pos : Pos}
theorem pa_nil : PA X [] tNil := fun _ _ _ _ H Q I h => Calls.spliced_nil ⟨[], H, I, .nil, h⟩
theorem pa_cons (ha : PE X e te) (hr : PA X es t) (hs : starEach (e :: es) X.env = (false, eval e X.env) :: starEach es X.env := by rfl) : PA X (e :: es) (tCons te t) := by
  intro pos pins s σ H Q I h
  rw [hs]
  show wpAny _ _ (spliced ((false, eval e X.env) :: backTo pos (starEach es X.env))) _ _ s
  refine Calls.spliced_cons (thn (ha pins s σ H _ I h) fun u s1 ⟨x, H1, I1, r1, q1⟩ => ?_)
  exact thn (hr pos pins s1 σ H1 _ I1 q1) fun us s2 ⟨xs, H2, I2, r2, q2⟩ => ⟨x :: xs, H2, I2, .cons r1 r2, q2⟩

/-- a tuple, a list of written items -/
def tTup (t : TA) : TE := fun σ H Q => t σ H fun xs H1 => xs.length ≤ sizeLine ∧ ∀ p, H1 p = none → Q (.ref p) (upd H1 p (.tup xs))
def tLst (t : TA) : TE := fun σ H Q => t σ H fun xs H1 => xs.length ≤ sizeLine ∧ ∀ p, H1 p = none → Q (.ref p) (upd H1 p (.lst xs))
theorem pe_tup {x1} (h : PA X es t) : PE X (.Tuple es x1 pos) (tTup t) := by
  intro pins s σ H Q I hq
  refine wpAny_Tuple_spliced (thn (h pos pins s σ H _ I hq) fun us s1 ⟨xs, H1, I1, r, z, q⟩ => ⟨by rw [← r.length]; exact z, ?_⟩)
  have hf : H1 s1.heap.objs.size = none := I1.hok.fresh (Nat.le_refl _)
  refine ⟨.ref s1.heap.objs.size, upd H1 s1.heap.objs.size (.tup xs), I1.laid (t' := s1.toks) (fun b u e => Heap.get?_push_of_some _ e) (Nat.le_refl _) ?_, rfl, q _ hf⟩
  exact ⟨z, us, r, ⟨_, Heap.get?_push_size _ rfl, rfl, _, rfl⟩⟩
theorem pe_lst (h : PA X es t) : PE X (.List es pos) (tLst t) := by
  intro pins s σ H Q I hq
  refine wpAny_List_spliced (thn (h pos pins s σ H _ I hq) fun us s1 ⟨xs, H1, I1, r, z, q⟩ => ⟨by rw [← r.length]; exact z, ?_⟩)
  have hf : H1 s1.heap.objs.size = none := I1.hok.fresh (Nat.le_refl _)
  refine ⟨.ref s1.heap.objs.size, upd H1 s1.heap.objs.size (.lst xs), I1.laid (t' := s1.toks) (fun b u e => Heap.get?_push_of_some _ e) (Nat.le_refl _) ?_, rfl, q _ hf⟩
  exact ⟨z, us, 0, r, Heap.get?_push_size _ rfl⟩
end

/-! ### what a def promises -/
/-- a def's promise: the bound arguments in the parameters' order, the heap, the wanted end, the wanted exception -/
abbrev Sp := List V → Hp → VK → XK → Prop
/-- how an exception lies behind a call (file 08 gives it): the callers' frames, abstract heap and state ahead of the call, the wish, the exception, the state -/
abbrev CXT := List Env → Hp → Shared → XK → Value → Shared → Prop

/-- the state at a call -/
structure Env0 (P : Program) (w : World) (K : PySem.W.Frag) (mg : Str → Option Value) (base : Heap) (A : Around) (outer : List Env) (s : Shared) (H : Hp) : Prop where
  frames : A.frames = some outer
  mod : Mod K mg base
  bs : ∀ b o, base.get? b = some o → s.heap.get? b = some o ∧ H b = none
  bsz : base.objs.size ≤ s.heap.objs.size
  funs : s.heap.FunFrames base outer
  frf : ∀ b ∈ frs outer, H b = none
  hok : HOk P w H s.heap
  bare : AllBare s.gens
/-- a call's end -/
def CE (outer : List Env) (P : Program) (w : World) (H : Hp) (s : Shared) (Q : VK) (u : Value) (s' : Shared) : Prop :=
  ∃ v H', s'.os = s.os ∧ AllBare s'.gens ∧ Un (frs outer) [] H H' s.heap s'.heap ∧ HOk P w H' s'.heap ∧ RelV v u ∧ Q v H'
def CR (CX : CXT) (outer : List Env) (P : Program) (w : World) (H : Hp) (s : Shared) (Q : VK) (E : XK) (r : Result) (s' : Shared) : Prop :=
  match r with
  | .ok (.ret u) => CE outer P w H s Q u s'
  | .ok _ => False
  | .error e => CX outer H s E e s'
structure FnOk (P : Program) (w : World) (K : PySem.W.Frag) (mg : Str → Option Value) (base : Heap) (CX : CXT) (k : Nat) (f : Addr) (fd : FuncData) (ps : List Str) (sp : Sp) : Prop where
  len : ∀ vs H Q E, sp vs H Q E → vs.length = ps.length
  run : ∀ (A : Around) (outer : List Env) (s : Shared) (H : Hp) (args : Args) (us : List Value) (vs : List V) (Q : VK) (E : XK), Room k A → Env0 P w K mg base A outer s H → BindsTo s fd args (ps.zip us) → Vals vs us → sp vs H Q E →
    codeAny (model P w) A (.call (.ref f) args) (CR CX outer P w H s Q E) s
theorem FnOk.mono {P : Program} {w : World} {K : PySem.W.Frag} {mg : Str → Option Value} {base : Heap} {CX : CXT} {j k : Nat} {f : Addr} {fd : FuncData} {ps : List Str} {sp : Sp} (F : FnOk P w K mg base CX j f fd ps sp) (h : j ≤ k) :
    FnOk P w K mg base CX k f fd ps sp := ⟨F.len, fun A outer s H args us vs Q E hr => F.run A outer s H args us vs Q E (hr.mono h)⟩
/-- a weaker promise -/
theorem FnOk.imp {P : Program} {w : World} {K : PySem.W.Frag} {mg : Str → Option Value} {base : Heap} {CX : CXT} {k : Nat} {f : Addr} {fd : FuncData} {ps : List Str} {sp sp' : Sp} (F : FnOk P w K mg base CX k f fd ps sp)
    (h : ∀ vs H Q E, sp' vs H Q E → sp vs H Q E) : FnOk P w K mg base CX k f fd ps sp' :=
  ⟨fun vs H Q E q => F.len vs H Q E (h _ _ _ _ q), fun A outer s H args us vs Q E hr he hb hv hs => F.run A outer s H args us vs Q E hr he hb hv (h _ _ _ _ hs)⟩

theorem Env0.make {P : Program} {w : World} {K : PySem.W.Frag} {mg : Str → Option Value} {base : Heap} {A : Around} {outer : List Env} {s : Shared} {H : Hp} (e : Env0 P w K mg base A outer s H) (C : Addr) (us : List Value) (kw : List (Str × Value)) :
    Env0 P w K mg base (A.under (.builtin "type.__call__" ⟨.ref C :: us, kw⟩)) outer s H := ⟨by first | exact e.frames | (simpa [Around.under, Code.envs, Code.isFrame, pushEnvs] using e.frames), e.mod, e.bs, e.bsz, e.funs, e.frf, e.hok, e.bare⟩
theorem Env0.in1 {P : Program} {w : World} {K : PySem.W.Frag} {mg : Str → Option Value} {base : Heap} {A : Around} {outer : List Env} {s : Shared} {H : Hp} (e : Env0 P w K mg base A outer s H) :
    Env0 P w K mg base A.in1 outer s H := ⟨e.frames, e.mod, e.bs, e.bsz, e.funs, e.frf, e.hok, e.bare⟩

section
variable {X : Cx} {pins : List (Addr × Obj)} {σ : St} {H : Hp} {s s' : Shared}
/-- from a body: what a callee wants -/
theorem Inv.env0 (I : Inv X pins σ H s) : Env0 X.prog X.w X.K X.mg X.base X.A X.stack s H :=
  ⟨I.ok.frames, I.ok.mod, I.bs, Nat.le_trans I.ok.bsz I.sz, I.stack, I.stkFree, I.hok, I.bare⟩
/-- behind a call -/
theorem Inv.after {Q : VK} {u : Value} (I : Inv X pins σ H s) (h : CE X.stack X.prog X.w H s Q u s') : EP X pins σ Q u s' := by
  obtain ⟨v, H', os, bare, un, hok, r, q⟩ := h
  obtain ⟨hh, g, d, t, os'⟩ := s'
  obtain rfl : os' = s.os := os
  exact ⟨v, H', I.call (h' := hh) (g' := g) (d' := d) (t' := t) (ch := []) un hok bare (fun b z => absurd z (by simp)), r, q⟩
end

/-! ### calls -/
/-- f(..): the written arguments, then the defaults dvs; E: what is wanted of an exception -/
def tCall (sp : Sp) (dvs : List V) (E : XK) (t : TA) : TE := fun σ H Q => t σ H fun vs H1 => sp (vs ++ dvs) H1 Q E
/-- o.m(..) of an instance of the class at C -/
def tMeth (C : Addr) (m : Str) (sp : Sp) (dvs : List V) (E : XK) (ta : TE) (t : TA) : TE := fun σ H Q => ta σ H fun x H1 => ∃ a dx fs, x = .ref a ∧ H1 a = some (.ins C dx fs) ∧ fs.lookup m = none ∧
  t σ H1 fun vs H2 => sp (x :: (vs ++ dvs)) H2 Q E
/-- C(..): a new instance and its dict, then __init__ -/
def tMake (C : Addr) (sp : Sp) (dvs : List V) (E : XK) (t : TA) : TE := fun σ H Q => t σ H fun vs H1 => ∀ x dx, H1 x = none → H1 dx = none → dx ≠ x →
  sp (.ref x :: (vs ++ dvs)) (upd (upd H1 dx (.own x)) x (.ins C dx [])) (fun v H2 => v = .non ∧ Q (.ref x) H2) E

/-- how the parameters are bound: us the positional arguments, kw the keywords' values by name, ds the defaults that fill up -/
def Binds (K : PySem.W.Frag) (fd : FuncData) (ps : List Str) (ds : List Value) : Prop :=
  ∀ (s : Shared) (us : List Value), K.In s.heap → (us ++ ds).length = ps.length → BindsTo s fd ⟨us, []⟩ (ps.zip (us ++ ds))
/-- every parameter is given -/
theorem Binds.all {K : PySem.W.Frag} {fd : FuncData} {ps : List Str} (h : ∀ us : List Value, us.length = ps.length → bindArgs fd ⟨us, []⟩ = pure (ps.zip us)) : Binds K fd ps [] := fun s us _ hl => by
  rw [List.append_nil] at hl ⊢
  exact .of_eq (h us hl)

/-- an exception of a callee reaches what this body wants of exceptions -/
def Passes (CX : CXT) (X : Cx) (E : XK) : Prop := ∀ (pins : List (Addr × Obj)) (σ : St) (H : Hp) (s : Shared) (e : Value) (s' : Shared), Inv X pins σ H s → CX X.stack H s E e s' → X.xe e s'

section
variable {X : Cx} {CX : CXT} {k : Nat} {f C : Addr} {fd : FuncData} {ps : List Str} {sp : Sp} {dvs : List V} {ds : List Value} {E : XK} {x m : Str} {p pos apos : Pos} {e o : Expr} {es : List Expr} {ta : TE} {t : TA}

/-- the callee runs -/
theorem run_fn {pins : List (Addr × Obj)} {σ : St} {H : Hp} {s : Shared} {Q : VK} {us : List Value} {vs : List V} (F : FnOk X.prog X.w X.K X.mg X.base CX k f fd ps sp) (hr : Room k X.A) (hb : Binds X.K fd ps ds) (hd : Vals dvs ds) (hx : Passes CX X E)
    (I : Inv X pins σ H s) (r : Vals vs us) (h : sp (vs ++ dvs) H Q E) : wpAny (model X.prog X.w) X.A (call (.ref f) us) (EP X pins σ Q) X.xe s := by
  have r2 : Vals (vs ++ dvs) (us ++ ds) := r.append hd
  have hl : (us ++ ds).length = ps.length := by rw [← r2.length]; exact F.len _ _ _ _ h
  refine wpAny_call (codeAny_mono (F.run X.A X.stack s H ⟨us, []⟩ (us ++ ds) (vs ++ dvs) Q E hr I.env0 (hb s us I.kIn hl) r2 h) fun r s' hq => ?_)
  cases r with
  | error e => exact hx pins σ H s e s' I hq
  | ok fl =>
    cases fl with
    | ret u => exact I.after hq
    | next => exact False.elim hq
    | brk => exact False.elim hq
    | cont => exact False.elim hq

theorem pe_call (F : FnOk X.prog X.w X.K X.mg X.base CX k f fd ps sp) (hr : Room k X.A) (hg : Gl X x) (hm : X.mg x = some (.ref f)) (hk : PySem.W.keepIn X.K (.ref f) = true) (hb : Binds X.K fd ps ds) (hd : Vals dvs ds) (hx : Passes CX X E)
    (ha : PA X (e :: es) t) (hdb : (x == ("__debug__" : Str)) = false := by decide) (he : starEach (e :: es) X.env = (false, eval e X.env) :: starEach es X.env := by rfl) (hpl : (backTo pos (starEach es X.env)).any (·.1) = false := by rfl) :
    PE X (.Call (.Name x p) (e :: es) [] pos) (tCall sp dvs E t) := by
  intro pins s σ H Q I h
  refine wpAny_Call_Name_kw (ld_glob I hg hm ?_ hdb)
  refine PySem.W.callWith_K (h₀ := X.base) I.ok.mod.kin hk (thn (ha pos pins s σ H _ I h) fun us s1 ⟨vs, H1, I1, r, q⟩ => ⟨I1.kIn, ?_⟩) he hpl
  exact run_fn F hr hb hd hx I1 r q
theorem pe_call0 (F : FnOk X.prog X.w X.K X.mg X.base CX k f fd ps sp) (hr : Room k X.A) (hg : Gl X x) (hm : X.mg x = some (.ref f)) (hk : PySem.W.keepIn X.K (.ref f) = true) (hb : Binds X.K fd ps ds) (hd : Vals dvs ds) (hx : Passes CX X E)
    (hdb : (x == ("__debug__" : Str)) = false := by decide) : PE X (.Call (.Name x p) [] [] pos) (tCall sp dvs E tNil) := by
  intro pins s σ H Q I h
  refine wpAny_Call_Name_kw (ld_glob I hg hm ?_ hdb)
  exact PySem.W.callWith_K0 I.kIn hk (run_fn (us := []) F hr hb hd hx I .nil h)

/-- o.m(e, ..) -/
theorem pe_meth {pl : Sem Bool} (he : PE X o ta) (c : Cls X.K C) (hm : Meth X.K C m f) (F : FnOk X.prog X.w X.K X.mg X.base CX k f fd ps sp) (hr : Room k X.A) (hb : Binds X.K fd ps ds) (hd : Vals dvs ds) (hx : Passes CX X E) (ha : PA X (e :: es) t)
    (hst : starEach (e :: es) X.env = (false, eval e X.env) :: starEach es X.env := by rfl) (hpl : (backTo pos (starEach es X.env)).any (·.1) = false := by rfl)
    (ht : eval (.Call (.Attribute o m apos) (e :: es) [] pos) X.env = (do
      let ov ← eval o X.env
      standAt apos.atName
      let (f, first) ← holding [ov] (getMethod ov m pl)
      callWith pos f first (backTo pos (starEach (e :: es) X.env)) (backToKw pos (keywordEach [] X.env))) := by rfl) :
    PE X (.Call (.Attribute o m apos) (e :: es) [] pos) (tMeth C m sp dvs E ta t) := by
  intro pins s σ H Q I h
  refine PySem.W.methodCall_KW (pl := pl) (thn (he pins s σ H _ I h) fun u s1 ⟨x, H1, I1, rx, a, dx, fs, ex, ea, l, q⟩ => ?_) ht
  subst ex
  obtain rfl : u = Value.ref a := rx
  refine getmeth_ok I1 ea c hm l ?_
  refine PySem.W.callWith_K (first := [.ref a]) (h₀ := X.base) I.ok.mod.kin hm.kp (thn (ha pos pins s1 σ H1 _ I1 q) fun us s2 ⟨vs, H2, I2, r, q2⟩ => ⟨I2.kIn, ?_⟩) hst hpl
  exact run_fn (us := .ref a :: us) (vs := .ref a :: vs) F hr hb hd hx I2 (.cons rfl r) q2
/-- o.m() -/
theorem pe_meth0 {pl : Sem Bool} (he : PE X o ta) (c : Cls X.K C) (hm : Meth X.K C m f) (F : FnOk X.prog X.w X.K X.mg X.base CX k f fd ps sp) (hr : Room k X.A) (hb : Binds X.K fd ps ds) (hd : Vals dvs ds) (hx : Passes CX X E)
    (ht : eval (.Call (.Attribute o m apos) [] [] pos) X.env = (do
      let ov ← eval o X.env
      standAt apos.atName
      let (f, first) ← holding [ov] (getMethod ov m pl)
      callWith pos f first (backTo pos (starEach [] X.env)) (backToKw pos (keywordEach [] X.env))) := by rfl) :
    PE X (.Call (.Attribute o m apos) [] [] pos) (tMeth C m sp dvs E ta tNil) := by
  intro pins s σ H Q I h
  refine PySem.W.methodCall_KW (pl := pl) (thn (he pins s σ H _ I h) fun u s1 ⟨x, H1, I1, rx, a, dx, fs, ex, ea, l, q⟩ => ?_) ht
  subst ex
  obtain rfl : u = Value.ref a := rx
  refine getmeth_ok I1 ea c hm l ?_
  exact PySem.W.callWith_K0 (first := [.ref a]) I1.kIn hm.kp (run_fn (us := [.ref a]) (vs := [.ref a]) F hr hb hd hx I1 (.cons rfl .nil) q)

/-- what a class must have to be made -/
structure Mk (K : PySem.W.Frag) (C f : Addr) : Prop where
  makes : PySem.W.makesIn K C = true
  init : PySem.W.findIn K (.ref C) "__init__" = some (some (.ref f))
  fn : PySem.W.isFn K (.ref f) = true
  kp : PySem.W.keepIn K (.ref C) = true

theorem run_make {pins : List (Addr × Obj)} {σ : St} {H : Hp} {s : Shared} {Q : VK} {us : List Value} {vs : List V} (M : Mk X.K C f) (F : FnOk X.prog X.w X.K X.mg X.base CX k f fd ps sp) (hr : Room (k + 1) X.A) (hb : Binds X.K fd ps ds) (hd : Vals dvs ds)
    (hx : Passes CX X E) (I : Inv X pins σ H s) (r : Vals vs us)
    (h : ∀ x dx, H x = none → H dx = none → dx ≠ x → sp (.ref x :: (vs ++ dvs)) (upd (upd H dx (.own x)) x (.ins C dx [])) (fun v H2 => v = .non ∧ Q (.ref x) H2) E) :
    wpAny (model X.prog X.w) X.A (call (.ref C) us) (EP X pins σ Q) X.xe s := by
  have hq := h (s.heap.objs.size + 1) s.heap.objs.size (I.hok.fresh (Nat.le_succ _)) (I.hok.fresh (Nat.le_refl _)) (Nat.ne_of_lt (Nat.lt_succ_self _))
  have I2 := Inv.made (C := C) I
  have r2 : Vals (V.ref (s.heap.objs.size + 1) :: (vs ++ dvs)) (Value.ref (s.heap.objs.size + 1) :: (us ++ ds)) := .cons rfl (r.append hd)
  have hl : (Value.ref (s.heap.objs.size + 1) :: us ++ ds).length = ps.length := by
    have e := r2.length
    rw [F.len _ _ _ _ hq] at e
    exact e.symm
  refine wpAny_call (make_map (f := f) I.kIn M.makes M.init (beq_iff_eq.mp M.fn) (codeAny_mono (F.run _ X.stack _ _ ⟨Value.ref (s.heap.objs.size + 1) :: us, []⟩ (Value.ref (s.heap.objs.size + 1) :: (us ++ ds)) _ _ E (hr.make C us [])
    (I2.env0.make C us []) (hb _ (Value.ref (s.heap.objs.size + 1) :: us) I2.kIn hl) r2 hq) fun r s' hq' => ?_))
  cases r with
  | error e => exact hx pins σ _ _ e s' I2 hq'
  | ok fl =>
    cases fl with
    | ret u =>
      obtain ⟨v, H', I3, rv, ev, q3⟩ := I2.after hq'
      subst ev
      exact ⟨rv, ⟨V.ref (s.heap.objs.size + 1), H', I3, rfl, q3⟩⟩
    | next => exact False.elim hq'
    | brk => exact False.elim hq'
    | cont => exact False.elim hq'
theorem pe_make (M : Mk X.K C f) (F : FnOk X.prog X.w X.K X.mg X.base CX k f fd ps sp) (hr : Room (k + 1) X.A) (hg : Gl X x) (hm : X.mg x = some (.ref C)) (hb : Binds X.K fd ps ds) (hd : Vals dvs ds) (hx : Passes CX X E)
    (ha : PA X (e :: es) t) (hdb : (x == ("__debug__" : Str)) = false := by decide) (he : starEach (e :: es) X.env = (false, eval e X.env) :: starEach es X.env := by rfl) (hpl : (backTo pos (starEach es X.env)).any (·.1) = false := by rfl) :
    PE X (.Call (.Name x p) (e :: es) [] pos) (tMake C sp dvs E t) := by
  intro pins s σ H Q I h
  refine wpAny_Call_Name_kw (ld_glob I hg hm ?_ hdb)
  refine PySem.W.callWith_K (h₀ := X.base) I.ok.mod.kin M.kp (thn (ha pos pins s σ H _ I h) fun us s1 ⟨vs, H1, I1, r, q⟩ => ⟨I1.kIn, ?_⟩) he hpl
  exact run_make M F hr hb hd hx I1 r q
theorem pe_make0 (M : Mk X.K C f) (F : FnOk X.prog X.w X.K X.mg X.base CX k f fd ps sp) (hr : Room (k + 1) X.A) (hg : Gl X x) (hm : X.mg x = some (.ref C)) (hb : Binds X.K fd ps ds) (hd : Vals dvs ds) (hx : Passes CX X E)
    (hdb : (x == ("__debug__" : Str)) = false := by decide) : PE X (.Call (.Name x p) [] [] pos) (tMake C sp dvs E tNil) := by
  intro pins s σ H Q I h
  refine wpAny_Call_Name_kw (ld_glob I hg hm ?_ hdb)
  exact PySem.W.callWith_K0 I.kIn M.kp (run_make (us := []) M F hr hb hd hx I .nil h)
end

/-! ### keywords -/
/-- the values of the keywords, from the left -/
def PK (X : Cx) (kws : List Keyword) (t : TA) : Prop :=
  ∀ (pos : Pos) (pins : List (Addr × Obj)) (s : Shared) (σ : St) (H : Hp) (Q : List V → Hp → Prop), Inv X pins σ H s → t σ H Q → wpAny (model X.prog X.w) X.A (evalAll ((backToKw pos (keywordEach kws X.env)).map (·.2))) (AP X pins σ Q) X.xe s
section
variable {X : Cx} {CX : CXT} {k : Nat} {f C : Addr} {fd : FuncData} {ps ks : List Str} {sp : Sp} {E : XK} {x m : Str} {p pos apos kpos : Pos} {e o : Expr} {es : List Expr} {kws : List Keyword} {te ta : TE} {t tk : TA} {nm : Option Str}
theorem pk_nil : PK X [] tNil := fun _ _ _ _ H Q I h => wpAny_evalAll_nil ⟨[], H, I, .nil, h⟩
theorem pk_cons (ha : PE X e te) (hr : PK X kws t) : PK X (⟨nm, e, kpos⟩ :: kws) (tCons te t) := by
  intro pos pins s σ H Q I h
  show wpAny _ _ (evalAll ((do let v ← eval e X.env; standAt pos; pure v) :: (backToKw pos (keywordEach kws X.env)).map (·.2))) _ _ s
  refine wpAny_evalAll_cons (wpAny_bind (thn (ha pins s σ H _ I h) fun u s1 ⟨x, H1, I1, r1, q1⟩ => wpAny_bind (wpAny_standAt (wpAny_pure ?_))))
  exact thn (hr pos pins s1 σ H1 _ I1 q1) fun us s2 ⟨xs, H2, I2, r2, q2⟩ => ⟨x :: xs, H2, I2, .cons r1 r2, q2⟩

/-- how a call with keywords binds: g puts the positional values us and the keywords' values ws (names ks) in the parameters' order, defaults among them -/
structure KBinds (K : PySem.W.Frag) (fd : FuncData) (ps ks : List Str) (g : List Value → List Value → List Value) (gV : List V → List V → List V) : Prop where
  to : ∀ (s : Shared) (us ws : List Value), K.In s.heap → (g us ws).length = ps.length → BindsTo s fd ⟨us, ks.zip ws⟩ (ps.zip (g us ws))
  rel : ∀ {vs : List V} {us : List Value} {zs : List V} {ws : List Value}, Vals vs us → Vals zs ws → Vals (gV vs zs) (g us ws)
def tCallK (sp : Sp) (gV : List V → List V → List V) (E : XK) (t tk : TA) : TE := fun σ H Q => t σ H fun vs H1 => tk σ H1 fun zs H2 => sp (gV vs zs) H2 Q E
variable {g : List Value → List Value → List Value} {gV : List V → List V → List V}
theorem run_fnk {pins : List (Addr × Obj)} {σ : St} {H : Hp} {s : Shared} {Q : VK} {us ws : List Value} {vs zs : List V} (F : FnOk X.prog X.w X.K X.mg X.base CX k f fd ps sp) (hr : Room k X.A) (hb : KBinds X.K fd ps ks g gV) (hx : Passes CX X E)
    (I : Inv X pins σ H s) (r : Vals vs us) (rz : Vals zs ws) (h : sp (gV vs zs) H Q E) : wpAny (model X.prog X.w) X.A (call (.ref f) us (ks.zip ws)) (EP X pins σ Q) X.xe s := by
  have r2 := hb.rel r rz
  have hl : (g us ws).length = ps.length := by rw [← r2.length]; exact F.len _ _ _ _ h
  refine wpAny_call (codeAny_mono (F.run X.A X.stack s H ⟨us, ks.zip ws⟩ (g us ws) (gV vs zs) Q E hr I.env0 (hb.to s us ws I.kIn hl) r2 h) fun r s' hq => ?_)
  cases r with
  | error e => exact hx pins σ H s e s' I hq
  | ok fl =>
    cases fl with
    | ret u => exact I.after hq
    | next => exact False.elim hq
    | brk => exact False.elim hq
    | cont => exact False.elim hq
/-- f(e, .., k = v, ..) -/
theorem pe_callK (F : FnOk X.prog X.w X.K X.mg X.base CX k f fd ps sp) (hr : Room k X.A) (hg : Gl X x) (hm : X.mg x = some (.ref f)) (hk : PySem.W.keepIn X.K (.ref f) = true) (hb : KBinds X.K fd ps ks g gV) (hx : Passes CX X E)
    (ha : PA X (e :: es) t) (hkw : PK X kws tk) (hall : (backToKw pos (keywordEach kws X.env)).all (·.1.isSome) = true := by rfl) (hks : (backToKw pos (keywordEach kws X.env)).filterMap (·.1) = ks := by rfl)
    (hdb : (x == ("__debug__" : Str)) = false := by decide) (he : starEach (e :: es) X.env = (false, eval e X.env) :: starEach es X.env := by rfl)
    (hpl : ((backTo pos (starEach (e :: es) X.env)).any (·.1) || (backToKw pos (keywordEach kws X.env)).any (·.1.isNone)) = false := by rfl) :
    PE X (.Call (.Name x p) (e :: es) kws pos) (tCallK sp gV E t tk) := by
  intro pins s σ H Q I h
  refine wpAny_Call_Name_kw (ld_glob I hg hm ?_ hdb)
  refine PySem.W.callWith_KW (h₀ := X.base) I.ok.mod.kin hk hall (thn (ha pos pins s σ H _ I h) fun us s1 ⟨vs, H1, I1, r, q⟩ => ?_) hpl he
  refine thn (hkw pos pins s1 σ H1 _ I1 q) fun ws s2 ⟨zs, H2, I2, rz, q2⟩ => ⟨I2.kIn, ?_⟩
  rw [hks]
  exact run_fnk F hr hb hx I2 r rz q2
end

/-! ### a def's body keeps its promise -/
/-- names: the parameters first -/
structure FnScope (N P : List Str) (sc : Scope) : Prop where
  kind : sc.kind = .function
  co : sc.isCoroutine = false
  gen : sc.isGenerator = false
  nd : N.Nodup
  pre : N.take P.length = P
  par : ∀ x ∈ P, sc.names.lookup x = some .local ∨ sc.names.lookup x = some .cell
  nofree : ∀ y ∈ sc.names, y.2 ≠ .free

theorem bindL_out {kindOf : Str → Option NameKind} {x : Str} : ∀ {binds : List (Str × Value)} {m : Str → Option Value}, (∀ v, (x, v) ∉ binds) → bindL kindOf binds m x = m x
  | [], _, _ => rfl
  | (n, v) :: r, m, h => by
    unfold bindL
    rw [bindL_out fun w hw => h w (List.mem_cons_of_mem _ hw)]
    split
    · have : x ≠ n := by rintro rfl; exact h v List.mem_cons_self
      simp [this]
    · rfl
theorem bindC_out {kindOf : Str → Option NameKind} {x : Str} : ∀ {binds : List (Str × Value)} {m : Str → Option Value}, (∀ v, (x, v) ∉ binds) → bindC kindOf binds m x = m x
  | [], _, _ => rfl
  | (n, v) :: r, m, h => by
    unfold bindC
    rw [bindC_out fun w hw => h w (List.mem_cons_of_mem _ hw)]
    split
    · rfl
    · have : x ≠ n := by rintro rfl; exact h v List.mem_cons_self
      simp [this]
theorem bindL_get {kindOf : Str → Option NameKind} {x : Str} {v : Value} : ∀ {P : List Str} {vs : List Value} {i : Nat} {m : Str → Option Value}, P.Nodup → P[i]? = some x → vs[i]? = some v → kindOf x = some .local →
    bindL kindOf (P.zip vs) m x = some v
  | [], _, _, _, _, h, _, _ => by simp at h
  | _ :: _, [], _, _, _, _, h, _ => by simp at h
  | p :: P, w :: vs, 0, m, nd, h1, h2, hk => by
    simp at h1 h2; subst h1; subst h2
    show bindL kindOf ((p, w) :: P.zip vs) m p = _
    unfold bindL
    rw [bindL_out fun v hv => (List.nodup_cons.mp nd).1 (List.of_mem_zip hv).1, if_pos hk]
    simp
  | p :: P, w :: vs, i + 1, m, nd, h1, h2, hk => by
    show bindL kindOf ((p, w) :: P.zip vs) m x = _
    unfold bindL
    exact bindL_get (i := i) (List.nodup_cons.mp nd).2 (by simpa using h1) (by simpa using h2) hk
theorem bindC_get {kindOf : Str → Option NameKind} {x : Str} {v : Value} : ∀ {P : List Str} {vs : List Value} {i : Nat} {m : Str → Option Value}, P.Nodup → P[i]? = some x → vs[i]? = some v → kindOf x ≠ some .local →
    bindC kindOf (P.zip vs) m x = some v
  | [], _, _, _, _, h, _, _ => by simp at h
  | _ :: _, [], _, _, _, _, h, _ => by simp at h
  | p :: P, w :: vs, 0, m, nd, h1, h2, hk => by
    simp at h1 h2; subst h1; subst h2
    show bindC kindOf ((p, w) :: P.zip vs) m p = _
    unfold bindC
    rw [bindC_out fun v hv => (List.nodup_cons.mp nd).1 (List.of_mem_zip hv).1, if_neg hk]
    simp
  | p :: P, w :: vs, i + 1, m, nd, h1, h2, hk => by
    show bindC kindOf ((p, w) :: P.zip vs) m x = _
    unfold bindC
    exact bindC_get (i := i) (List.nodup_cons.mp nd).2 (by simpa using h1) (by simpa using h2) hk

/-- the names' values at the entry -/
def start (N : List Str) (vs : List V) : St := vs.map some ++ List.replicate (N.length - vs.length) none

/-- the context of a def's body, at its entry; an exception leaves the frame, then lies as CX says -/
def cxOf (CX : CXT) (P : Program) (w : World) (K : PySem.W.Frag) (mg : Str → Option Value) (base : Heap) (N : List Str) (qual : Str) (scope : Scope) (f : Addr) (cd : Value) (A : Around) (outer : List Env) (s : Shared) (H : Hp) (E : XK) : Cx where
  prog := P
  w := w
  K := K
  mg := mg
  base := base
  A := A.deeper (envOfC qual scope s.heap.objs.size f cd)
  N := N
  s₀ := s
  H₀ := H
  env := envOfC qual scope s.heap.objs.size f cd
  outer := outer
  stack := envOfC qual scope s.heap.objs.size f cd :: outer
  ex := []
  calm := true
  fn := fun _ => true
  pn := []
  xe := fun e s' => wpAny (model P w) (A.deeper (envOfC qual scope s.heap.objs.size f cd)) (leaving (envOfC qual scope s.heap.objs.size f cd) e) (fun _ s'' => CX outer H s E e s'') (fun e' s'' => CX outer H s E e' s'') s'

theorem cell_has {sc : Scope} {n : Nat} {x : Str} (h : sc.names.lookup x = some .cell) : ∃ c, (cellsFrom n sc.names []).lookup x = some c := by
  have q := PySem.W.cellsFrom_some sc.names n [] (.inl h)
  exact Option.isSome_iff_exists.mp q

theorem inv_start {CX : CXT} {P : Program} {w : World} {K : PySem.W.Frag} {mg : Str → Option Value} {base : Heap} {N ps : List Str} {qual : Str} {scope : Scope} {f : Addr} {cd : Value} {A : Around} {outer : List Env} {s s1 : Shared} {H : Hp} {E : XK} {us : List Value} {vs : List V}
    (S : FnScope N ps scope) (hd : A.handled = none) (e0 : Env0 P w K mg base A outer s H) (hl : vs.length = ps.length) (r : Vals vs us)
    (x : InCallC s s.heap.objs.size (bindL (envOfC qual scope s.heap.objs.size f cd).kindOf (ps.zip us) fun _ => none) (cellsFrom (s.heap.objs.size + 1) scope.names []) (bindC (envOfC qual scope s.heap.objs.size f cd).kindOf (ps.zip us) fun _ => none) s1) :
    Inv (cxOf CX P w K mg base N qual scope f cd A outer s H E) [] (start N vs) H s1 := by
  have hpl : ps.length ≤ N.length := by have := congrArg List.length S.pre; rw [List.length_take] at this; omega
  obtain ⟨h1, tk, rfl, hk⟩ := x.done
  have noA : ∀ b : Addr, b ∉ (cxOf CX P w K mg base N qual scope f cd A outer s H E).ex := fun b z => absurd (show b ∈ ([] : List Addr) from z) (by simp)
  refine ⟨⟨e0.mod, S.kind, rfl, rfl, Nat.le_refl _, fun y z c h1 h2 => ?_, fun y hy => ?_, fun y c _ h => ?_, fun _ => hd, Around.frames_deeper e0.frames, .inr ⟨rfl, rfl⟩, fun b z => absurd z (noA b), e0.bs, e0.bsz, fun b _ _ => noA b, fun b z => absurd z (noA b), e0.funs, e0.frf⟩,
    rfl, e0.bare, Un.kept hk, ⟨_, x.toInCall.ns, fun i y v h1 h2 h3 => ?_⟩, fun y c h => ⟨_, x.cell y c h⟩, e0.hok.fresh (Nat.le_refl _), fun y c h => ?_, fun p hp => absurd (show p ∈ ([] : List (Addr × Obj)) from hp) (by simp), e0.hok.kept hk, ?_⟩
  · exact name_of_addr x.apart (PySem.mem_of_lookup h1) (PySem.mem_of_lookup h2)
  · have hy : scope.names.lookup y = some .cell ∨ scope.names.lookup y = some .free := hy
    rcases hy with hy | hy
    · exact cell_has hy
    · exact absurd rfl (S.nofree _ (PySem.mem_of_lookup hy))
  · exact Nat.le_of_lt (x.above y c (PySem.mem_of_lookup h))
  · have hi : i < vs.length := by
      unfold start at h2
      by_cases hi : i < vs.length
      · exact hi
      · rw [List.getElem?_append_right (by simpa using hi)] at h2
        rw [List.getElem?_replicate] at h2
        split at h2 <;> cases h2
    have ha : vs[i]? = some v := by
      unfold start at h2
      rw [List.getElem?_append_left (by simpa using hi), List.getElem?_map] at h2
      cases e : vs[i]? with
      | none => rw [e] at h2; cases h2
      | some a => rw [e] at h2; cases h2; rfl
    obtain ⟨u, hu, rv⟩ := r.get ha
    have hp : ps[i]? = some y := by
      rw [← S.pre, List.getElem?_take_of_lt (by omega)]; exact h1
    have ndP : ps.Nodup := by rw [← S.pre]; exact S.nd.sublist (List.take_sublist _ _)
    refine ⟨u, rv, ?_⟩
    rcases S.par y (List.mem_of_getElem? hp) with k | k
    · exact .inl ⟨k, bindL_get ndP hp hu k⟩
    · obtain ⟨c, e⟩ := cell_has (n := s.heap.objs.size + 1) k
      refine .inr ⟨.inl k, c, e, ?_⟩
      have q := x.cell y c e
      rw [bindC_get ndP hp hu (by show scope.names.lookup y ≠ _; rw [k]; decide)] at q
      exact q
  · exact e0.hok.fresh (Nat.le_of_lt (x.above y c (PySem.mem_of_lookup h)))
  · unfold start
    show _ = N.length
    rw [List.length_append, List.length_map, List.length_replicate]
    omega

/-- THE RULE: a def (or a method) of the text, by its body. The body's reading t is chosen for each entry; it is run at the parameters' values -/
theorem fn_of {CX : CXT} {P : Program} {w : World} {K : PySem.W.Frag} {mg : Str → Option Value} {base : Heap} {k : Nat} {f : Addr} {name qual : Str} {params : Arguments} {body : List Stmt} {scope : Scope} {dV kV doc pm cdv ct oc : Value} {an od : Option Addr}
    {osl : Array (Option Value)} {N ps : List Str} {sp : Sp} (lk : K.lookup f = some ⟨oc, od, .func (PySem.W.fnOf name qual params body scope dV kV doc pm an cdv ct), osl⟩) (hcd : PySem.W.codeIn K cdv qual = true) (S : FnScope N ps scope)
    (len : ∀ vs H Q E, sp vs H Q E → vs.length = ps.length)
    (hbody : ∀ (A : Around) (outer : List Env) (s : Shared) (H : Hp) (vs : List V) (Q : VK) (E : XK), Room k (A.deeper (envOfC qual scope s.heap.objs.size f cdv)) → sp vs H Q E →
      ∃ t, PSs (cxOf CX P w K mg base N qual scope f cdv A outer s H E) body t ∧ t { nx := fun _ H' => Q .non H', rt := Q } (start N vs) H) :
    FnOk P w K mg base CX (k + 1) f (PySem.W.fnOf name qual params body scope dV kV doc pm an cdv ct) ps sp := by
  refine ⟨len, fun A outer s H args us vs Q E hr e0 hb r hsp => ?_⟩
  have hl := len _ _ _ _ hsp
  have KX : K.In s.heap := e0.mod.kin.keeps fun b o e => (e0.bs b o e).1
  have lim : s.heap.NoLimit := e0.mod.nolimit.keeps fun b o e => (e0.bs b o e).1
  have hkind : ∀ y ∈ ps.zip us, scope.names.lookup y.1 = some .local ∨ (scope.names.lookup y.1 = some .cell ∧ ((cellsFrom (s.heap.objs.size + 1) scope.names []).lookup y.1).isSome = true) := fun ⟨n, v⟩ hy => by
    rcases S.par n (List.of_mem_zip hy).1 with q | q
    · exact .inl q
    · exact .inr ⟨q, PySem.W.cellsFrom_some _ _ _ (.inl q)⟩
  refine codeAny_call_function hr.depth (KX _ _ lk) rfl S.co S.gen rfl (PySem.W.codeRec_of KX hcd) (hb _ _ _ _ ?_)
  refine wpAny_newFunctionEnv_cells S.kind hkind fun env he s1 x => ?_
  subst he
  refine ⟨lim.keeps x.toInCall.keep, codeAny_func ?_⟩
  obtain ⟨t, ht, hq⟩ := hbody A outer s H vs Q E (hr.deeper _) hsp
  have I : Inv (cxOf CX P w K mg base N qual scope f cdv A outer s H E) [] (start N vs) H s1 := inv_start S hr.hd e0 hl r x
  refine wpAny_mono (ht [] s1 (start N vs) H _ I hq) (fun fl s' hs => ?_) fun e s' hs => hs
  have fin : ∀ {σ' : St} {H' : Hp} {v : V} {u : Value}, Inv (cxOf CX P w K mg base N qual scope f cdv A outer s H E) [] σ' H' s' → RelV v u → Q v H' → CE outer P w H s Q u s' :=
    fun {σ' H' v u} J rv q => ⟨v, H', J.os, J.bare, J.base, J.hok, rv, q⟩
  cases fl with
  | ret u =>
    obtain ⟨v, σ', H', J, rv, q⟩ := hs
    exact fin J rv q
  | next =>
    obtain ⟨σ', H', J, q⟩ := hs
    exact fin (v := V.non) (u := Value.none) J rfl q
  | brk =>
    obtain ⟨_, _, _, q⟩ := hs
    exact False.elim q
  | cont =>
    obtain ⟨_, _, _, q⟩ := hs
    exact False.elim q
end L2

namespace L2
open PySem PySem.Spec PyProof.Rows
section
variable {X : Cx} {x : Str} {p pos : Pos} {e : Expr} {es : List Expr} {t : TA} {id T : String} {r : List V → Hp → VK → Prop}

def tCB (r : List V → Hp → VK → Prop) (t : TA) : TE := fun σ H Q => t σ H fun vs H1 => r vs H1 Q
/-- f(e, ..), f a built-in function -/
theorem pe_callB (hc : CallR X (.builtin id) r) (hg : Gl X x) (hm : X.mg x = none) (hv : bootBuiltins x = some (.builtin id)) (ha : PA X (e :: es) t) (hn : x ≠ "__name__" := by decide) (hdb : (x == ("__debug__" : Str)) = false := by decide)
    (he : starEach (e :: es) X.env = (false, eval e X.env) :: starEach es X.env := by rfl) (hpl : (backTo pos (starEach es X.env)).any (·.1) = false := by rfl) : PE X (.Call (.Name x p) (e :: es) [] pos) (tCB r t) := by
  intro pins s σ H Q I h
  refine wpAny_Call_Name_kw (ld_blt I hg hm hv ?_ hn hdb)
  exact PyProof.Rows.callWith_builtin1 (thn (ha pos pins s σ H _ I h) fun us s1 ⟨vs, H1, I1, r1, q1⟩ => hc pins s1 σ H1 vs us Q I1 r1 q1) he hpl
/-- T(e, ..), T a built-in type -/
theorem pe_callTy (hc : CallR X (.type T) r) (hg : Gl X x) (hm : X.mg x = none) (hv : bootBuiltins x = some (.type T)) (ha : PA X (e :: es) t) (hn : x ≠ "__name__" := by decide) (hdb : (x == ("__debug__" : Str)) = false := by decide)
    (he : starEach (e :: es) X.env = (false, eval e X.env) :: starEach es X.env := by rfl) (hpl : (backTo pos (starEach es X.env)).any (·.1) = false := by rfl) : PE X (.Call (.Name x p) (e :: es) [] pos) (tCB r t) := by
  intro pins s σ H Q I h
  refine wpAny_Call_Name_kw (ld_blt I hg hm hv ?_ hn hdb)
  exact PyProof.Rows.callWith_type1 (thn (ha pos pins s σ H _ I h) fun us s1 ⟨vs, H1, I1, r1, q1⟩ => hc pins s1 σ H1 vs us Q I1 r1 q1) he hpl
/-- T() -/
theorem pe_callTy0 (hc : CallR X (.type T) r) (hg : Gl X x) (hm : X.mg x = none) (hv : bootBuiltins x = some (.type T)) (hn : x ≠ "__name__" := by decide) (hdb : (x == ("__debug__" : Str)) = false := by decide) :
    PE X (.Call (.Name x p) [] [] pos) (tCB r tNil) := by
  intro pins s σ H Q I h
  refine wpAny_Call_Name_kw (ld_blt I hg hm hv ?_ hn hdb)
  exact PyProof.Rows.callWith_type0 (hc pins s σ H [] [] Q I .nil h)
end
end L2

namespace HT
open PySem PyProof.Rows

/-- t < u of tuples of ints -/
def lexLt : List Int → List Int → Bool
  | [], [] => false
  | [], _ :: _ => true
  | _ :: _, [] => false
  | x :: xs, y :: ys => if x = y then lexLt xs ys else decide (x < y)
theorem lexLt_cons (x y : Int) (xs ys : List Int) : lexLt (x :: xs) (y :: ys) = if x = y then lexLt xs ys else decide (x < y) := rfl
theorem lexLt_nil_nil : lexLt [] [] = false := rfl
theorem lexLt_nil_cons (y : Int) (ys : List Int) : lexLt [] (y :: ys) = true := rfl
theorem lexLt_cons_nil (x : Int) (xs : List Int) : lexLt (x :: xs) [] = false := rfl

theorem eqAt_int (A : Around) (s : Shared) (a : Int) (t : Tok) (c : Int) (u : Tok) : ∃ e, SeqAt.EqAt A s (.int a t) (.int c u) e ∧ (e = true ↔ a = c) :=
  ⟨(a == c), SeqAt.EqAt.int_int a t c u, by simp⟩
theorem rcLt_int (A : Around) (s : Shared) (a : Int) (t : Tok) (c : Int) (u : Tok) (prog : Program) (w : World) (E : Value → Shared → Prop) (Q : Value → Shared → Prop) (h : Q (.bool (decide (a < c))) s) :
    wpAny (model prog w) A (richCompare .Lt (.int a t) (.int c u)) Q E s :=
  (PyProof.Rows.lt_int h : wpAny (model prog w) A (compareOp .Lt (.int a t) (.int c u)) Q E s)

section
open PySem.SeqAt
open PySem.AutoSeq1 (wpAny_loadPart')
open PySem.MeetsSeq PySem.MeetsSeq2 PySem.MeetsSeq3

theorem tuple_lt_ints (l b : Addr) (items items2 : Array Value) (n n2 : Nat) (dd dd2 : Option Addr) (sl sl2 : Array (Option Value)) (ns ms : List Int) (hi : IntsAre items.toList ns) (hj : IntsAre items2.toList ms) :
    Meets (Builtin.«tuple.__lt__» ⟨[.ref l, .ref b], []⟩)
      (fun _ R s => s.heap.get? l = some { cls := .type "tuple", dict := dd, data := .seq items n, slots := sl } ∧ s.heap.get? b = some { cls := .type "tuple", dict := dd2, data := .seq items2 n2, slots := sl2 } ∧
        R (.ok (.ret (.bool (lexLt ns ms)))) s) :=
  .of_wp fun prog w A R s h => by
    obtain ⟨hp, g, d, tk, os⟩ := s; obtain ⟨hl, hb, h⟩ := h
    have f2 := AutoSeq1.sub_tuple_tuple
    have z1 : items.size = ns.length := by rw [← hi.length]; simp
    have z2 : items2.size = ms.length := by rw [← hj.length]; simp
    wp_walk using wpAny_loadPart' hl, wpAny_loadPart' hb, wpAny_forIn_list _ (fun rest b s' => b.1 = none ∧ s' = ⟨hp, g, d, tk, os⟩ ∧ ∃ (vs ws : List Value) (ns' ms' : List Int), rest = vs.zip ws ∧
      IntsAre vs ns' ∧ IntsAre ws ms' ∧ ns'.length + items2.size = ms'.length + items.size ∧ R (.ok (.ret (.bool (lexLt ns' ms')))) ⟨hp, g, d, tk, os⟩) _
    case turn =>
      rintro ⟨y, x⟩ rest b s' ⟨hb', rfl, vs, ws, ns', ms', hz, hvi, hwi, hlen, hR⟩
      cases hvi with
      | nil => rw [List.zip_nil_left] at hz; cases hz
      | cons a t hvi' =>
        cases hwi with
        | nil => rw [List.zip_nil_right] at hz; cases hz
        | cons c u hwi' =>
          rw [List.zip_cons_cons] at hz
          injection hz with hyx hrest
          injection hyx with hy hx
          subst hy hx
          rw [lexLt_cons] at hR
          simp only [List.length_cons] at hlen
          obtain ⟨e, he, hiff⟩ := eqAt_int A.in1 ⟨hp, g, d, tk, os⟩ a t c u
          refine wpAny_bind (he prog w _ _ ?_)
          cases e with
          | true =>
            rw [if_pos (hiff.mp rfl)] at hR
            wp_walk
            exact ⟨rfl, rfl, _, _, _, _, hrest, hvi', hwi', by omega, hR⟩
          | false =>
            rw [if_neg (fun q => absurd (hiff.mpr q) Bool.false_ne_true)] at hR
            have hri := rcLt_int A.in1 ⟨hp, g, d, tk, os⟩ a t c u prog w
            wp_walk using hri
            exact ⟨_, rfl, by simpa using hR⟩
    case fin =>
      rintro ⟨b1, b2⟩ s' ⟨hb', rfl, vs, ws, ns', ms', hz, hvi, hwi, hlen, hR⟩
      simp only at hb'
      subst hb'
      have hv : lexLt ns' ms' = decide (items.size < items2.size) := by
        cases hvi with
        | nil =>
          cases hwi with
          | nil =>
            simp only [List.length_nil] at hlen
            rw [lexLt_nil_nil]
            exact (decide_eq_false (by omega)).symm
          | cons c u hw =>
            simp only [List.length_nil, List.length_cons] at hlen
            rw [lexLt_nil_cons]
            exact (decide_eq_true (by omega)).symm
        | cons a t hv =>
          cases hwi with
          | nil =>
            simp only [List.length_nil, List.length_cons] at hlen
            rw [lexLt_cons_nil]
            exact (decide_eq_false (by omega)).symm
          | cons c u hw =>
            rw [List.zip_cons_cons] at hz
            cases hz
      rw [hv] at hR
      wp_walk
      exact ⟨_, rfl, by simpa [Builtin.Tuple.tupleCompareSizes] using hR⟩
    case h =>
      exact ⟨rfl, rfl, items.toList, items2.toList, ns, ms, rfl, hi, hj, by omega, h⟩
end

section
variable {prog : Program} {w : World} {A : Around} {E : Value → Shared → Prop} {s : Shared}

theorem lt_tupInts {l b : Addr} {items items2 : Array Value} {ns ms : List Int} {Q : Value → Shared → Prop} (hl : IsTup s.heap l items) (hb : IsTup s.heap b items2) (hi : IntsAre items.toList ns) (hj : IntsAre items2.toList ms)
    (hu : A.units < cLine) (h : Q (.bool (lexLt ns ms)) s) : wpAny (model prog w) A (compareOp .Lt (.ref l) (.ref b)) Q E s := by
  obtain ⟨⟨cls, dd, data, sl⟩, ho, hc, n, hd⟩ := id hl
  obtain ⟨⟨cls2, dd2, data2, sl2⟩, ho2, hc2, n2, hd2⟩ := id hb
  simp only at hc hd hc2 hd2
  subst hc hd hc2 hd2
  exact richCompare_meets_room (op := .Lt) ⟨_, ho, rfl⟩ ⟨_, ho2, rfl⟩ PySem.F.slot_tuple_lt PySem.F.entry_tuple_lt (PySem.F.args_tuple_lt_2 _ _) (tuple_lt_ints l b items items2 n n2 dd dd2 sl sl2 ns ms hi hj)
    ⟨ho, ho2, show Value.bool (lexLt ns ms) ≠ Value.notImplemented ∧ Q (.bool (lexLt ns ms)) s from ⟨(fun x => nomatch x), h⟩⟩ hu

/-- t + u, t not empty -/
theorem cat_tup {t b : Addr} {vs ws : List Value} {Q : Value → Shared → Prop} (ht : IsTup s.heap t vs.toArray) (hb : IsTup s.heap b ws.toArray) (hv : vs ≠ [])
    (h1 : ws = [] → Q (.ref t) s) (h2 : ws ≠ [] → Q (.ref s.heap.objs.size) { s with heap := s.heap.push { cls := .type "tuple", data := .seq (vs ++ ws).toArray } })
    (hsz : vs.length + ws.length ≤ sizeLine) : wpAny (model prog w) A (binaryOp .Add (.ref t) (.ref b)) Q E s := by
  obtain ⟨⟨cls, dd, data, sl⟩, ho, hc, n, hd⟩ := id ht
  obtain ⟨⟨cls2, dd2, data2, sl2⟩, ho2, hc2, n2, hd2⟩ := id hb
  simp only at hc hd hc2 hd2
  subst hc hd hc2 hd2
  have e : vs.toArray ++ ws.toArray = (vs ++ ws).toArray := by simp
  by_cases hw : ws = []
  · exact concat_meets ⟨_, ho, rfl⟩ ⟨_, ho2, rfl⟩ noFill_tuple_add seq_tuple_add PySem.F.slot_tuple_add PySem.F.entry_tuple_add (PySem.F.args_tuple_add_2 _ _)
      (tuple_addW1 t b vs.toArray ws.toArray n n2 dd dd2 sl sl2 (by simpa using hv) (by simp [hw])) ⟨ho, ho2, h1 hw⟩
  · refine concat_meets ⟨_, ho, rfl⟩ ⟨_, ho2, rfl⟩ noFill_tuple_add seq_tuple_add PySem.F.slot_tuple_add PySem.F.entry_tuple_add (PySem.F.args_tuple_add_2 _ _)
      (tuple_addW2 t b vs.toArray ws.toArray n n2 dd dd2 sl sl2 (by simpa using hv) (by simpa using hw) (by rw [List.size_toArray, List.size_toArray]; exact hsz)) ⟨ho, ho2, ?_⟩
    rw [e]
    exact h2 hw

/-! ### t[a:b], not the whole -/
/-- a slice's bound as a place among n (d where it is left out) -/
def sIx (n d : Nat) : Option Int → Nat
  | none => d
  | some v => if v < 0 then (v + (n : Int)).toNat else min v.toNat n
theorem sIx_none (n d : Nat) : sIx n d none = d := rfl
theorem sIx_nat (n d k : Nat) : sIx n d (some (k : Int)) = min k n := by
  show (if (k : Int) < 0 then ((k : Int) + (n : Int)).toNat else min (k : Int).toNat n) = min k n
  rw [if_neg (by omega), Int.toNat_natCast]
theorem sIx_le (n d : Nat) (hd : d ≤ n) (o : Option Int) : sIx n d o ≤ n := by
  cases o with
  | none => exact hd
  | some v =>
    show (if v < 0 then (v + (n : Int)).toNat else min v.toNat n) ≤ n
    by_cases hv : v < 0
    · rw [if_pos hv]; omega
    · rw [if_neg hv]; exact Nat.min_le_right _ _
theorem clip_eq (v : Int) (n d : Nat) : (if v < 0 then max (v + (n : Int)) 0 else min v (n : Int)) = ((sIx n d (some v) : Nat) : Int) := by
  show (if v < 0 then max (v + (n : Int)) 0 else min v (n : Int)) = (((if v < 0 then (v + (n : Int)).toNat else min v.toNat n) : Nat) : Int)
  by_cases hv : v < 0
  · simp only [if_pos hv]; omega
  · simp only [if_neg hv]; omega
theorem adjust_gen (lo hi : Option Int) (n : Nat) : Builtin.Slice.sliceAdjust lo hi 1 (n : Int) = (((sIx n 0 lo : Nat) : Int), ((sIx n n hi : Nat) : Int)) := by
  have h1 : ¬ ((1 : Int) < 0) := by omega
  unfold Builtin.Slice.sliceAdjust
  simp only [h1, if_false]
  refine Prod.ext ?_ ?_
  · cases lo with
    | none => rfl
    | some v => exact clip_eq v n 0
  · cases hi with
    | none => rfl
    | some v => exact clip_eq v n n
theorem places_gen (i j : Nat) : Builtin.Slice.slicePlaces (i : Int) (j : Int) 1 = j - i := by
  unfold Builtin.Slice.slicePlaces
  have h1 : (1 : Int) > 0 := by omega
  simp only [h1, if_true, Int.ediv_one]
  split <;> omega
theorem slicePart_ {v : Value} {o : Option Int} {Q : Option Int → Shared → Prop} (p : IsPart v o) (h : Q o s) : wpAny (model prog w) A (Builtin.Slice.slicePartIndex v) Q E s := by
  cases p with
  | none => exact slicePart_none h
  | int i t => exact slicePart_int h
theorem sliceApplied_gen {sl : Addr} {vl vu : Value} {lo hi : Option Int} {n : Nat} {Q : Int × Int × Nat → Shared → Prop} (hs : s.heap.IsSliceOf sl vl vu .none) (pl : IsPart vl lo) (pu : IsPart vu hi)
    (h : Q (((sIx n 0 lo : Nat) : Int), 1, sIx n n hi - sIx n 0 lo) s) : wpAny (model prog w) A (Builtin.Slice.sliceApplied (.ref sl) (pure (n : Int))) Q E s := by
  obtain ⟨os, hos, hcs, hds⟩ := id hs
  unfold Builtin.Slice.sliceApplied Builtin.Slice.sliceFields
  refine wpAny_bind (wpAny_bind (wpAny_field hos hds (x := vl) rfl (wpAny_bind (wpAny_field hos hds (x := vu) rfl (wpAny_bind (wpAny_field hos hds (x := .none) rfl (wpAny_pure ?_)))))))
  refine wpAny_bind (slicePart_none ?_)
  show wpAny _ _ (if ((1 : Int) == 0) = true then _ else _) _ _ s
  rw [if_neg (by decide)]
  refine wpAny_bind (slicePart_ pl (wpAny_bind (slicePart_ pu (wpAny_bind (wpAny_pure ?_)))))
  show wpAny _ _ (match Builtin.Slice.sliceAdjust lo hi 1 (n : Int) with | (lo, hi) => pure (lo, (1 : Int), Builtin.Slice.slicePlaces lo hi 1)) _ _ s
  rw [adjust_gen lo hi n]
  show wpAny _ _ (pure (((sIx n 0 lo : Nat) : Int), (1 : Int), Builtin.Slice.slicePlaces ((sIx n 0 lo : Nat) : Int) ((sIx n n hi : Nat) : Int) 1)) _ _ s
  rw [places_gen]
  exact wpAny_pure h
theorem pick_gen (xs : Array Value) (i k : Nat) : ((List.range k).filterMap fun (m : Nat) => xs[((i : Int) + (m : Int) * 1).toNat]?).toArray = ((xs.toList.drop i).take k).toArray := by
  have e : (fun (m : Nat) => xs[((i : Int) + (m : Int) * 1).toNat]?) = fun m => xs[i + m]? := by
    funext m
    have : ((i : Int) + (m : Int) * 1).toNat = i + m := by omega
    rw [this]
  rw [e]
  have := pick_run xs i k
  rw [List.filterMap_map] at this
  have e2 : ((fun x => xs[x]?) ∘ fun x => i + x) = fun m => xs[i + m]? := rfl
  rw [e2] at this
  rw [this]

theorem getItem_tuple_cut {t sl : Addr} {items : Array Value} {vl vu : Value} {lo hi : Option Int} {Q : Value → Shared → Prop} (ht : IsTup s.heap t items) (hs : s.heap.IsSliceOf sl vl vu .none) (pl : IsPart vl lo) (pu : IsPart vu hi)
    (hw : ¬ (sIx items.size 0 lo = 0 ∧ sIx items.size items.size hi = items.size))
    (h : Q (.ref s.heap.objs.size) { s with heap := s.heap.push { cls := .type "tuple", data := .seq ((items.toList.drop (sIx items.size 0 lo)).take (sIx items.size items.size hi - sIx items.size 0 lo)).toArray } })
    (hsz : items.size ≤ sizeLine) : wpAny (model prog w) A (getItem (.ref t) (.ref sl)) Q E s := by
  have htake : sizeOk (.seq ((items.toList.drop (sIx items.size 0 lo)).take (sIx items.size items.size hi - sIx items.size 0 lo)).toArray) := by
    show ((items.toList.drop (sIx items.size 0 lo)).take (sIx items.size items.size hi - sIx items.size 0 lo)).toArray.size ≤ sizeLine
    rw [List.size_toArray, List.length_take, List.length_drop, Array.length_toList]
    omega
  have hj : sIx items.size items.size hi ≤ items.size := sIx_le _ _ (Nat.le_refl _) hi
  obtain ⟨os, hos, hcs, hds⟩ := id hs
  have hTs : s.TypeIs (.ref sl) "slice" := ⟨os, hos, hcs⟩
  unfold getItem
  try with_reducible refine wpAny_holding ?_
  first | refine wpAny_bind (wpAny_pure ?_) | skip
  refine wpAny_bind (wpAny_sequenceKey ht.typeIs (by decide) ?_)
  refine wpAny_bind (wpAny_callSpecial?_slot (name := Str.ofString "__getitem__") ht.typeIs PyProof.Rows.slot_tuple_getitem
    (wpAny_call_entry PyProof.Rows.slot_tuple_getitem ht.typeIs entry_tuple_getitem ?_ (args_tuple_getitem _ _)))
  show wpAny _ _ (Builtin.Tuple.tupleItemsOf (.ref t) >>= _) _ _ s
  refine wpAny_bind (tupleItemsOf_ ht ?_)
  refine wpAny_bind (wpAny_typeOf hTs ?_)
  rw [if_pos (by decide)]
  refine wpAny_bind (sliceApplied_gen hs pl pu ?_)
  have hno : ¬ ((((sIx items.size 0 lo : Nat) : Int) == 0 && (1 : Int) == 1 && (sIx items.size items.size hi - sIx items.size 0 lo) == items.size) = true) := by
    intro q
    rw [Bool.and_eq_true, Bool.and_eq_true] at q
    have q1 : ((sIx items.size 0 lo : Nat) : Int) = 0 := eq_of_beq q.1.1
    have q2 : sIx items.size items.size hi - sIx items.size 0 lo = items.size := eq_of_beq q.2
    exact hw ⟨by omega, by omega⟩
  show wpAny _ _ (if (((sIx items.size 0 lo : Nat) : Int) == 0 && (1 : Int) == 1 && (sIx items.size items.size hi - sIx items.size 0 lo) == items.size) = true then _ else _) _ _ s
  rw [if_neg hno, pick_gen]
  first
    | exact wpAny_bind (m := Builtin.Tuple.tupleExact _) (wpAny_newObj_type (wpAny_pure ⟨_, rfl, wpAny_pure h⟩) htake)
    | exact wpAny_bind (m := Builtin.Tuple.tupleExact _) (wpAny_newObj_type (wpAny_bind (wpAny_pure (wpAny_pure ⟨_, rfl, wpAny_pure h⟩))) htake)
    | exact wpAny_bind (wpAny_bind (m := Builtin.Tuple.tupleExact _) (wpAny_newObj_type (wpAny_pure (wpAny_pure ⟨_, rfl, wpAny_pure h⟩)) htake))
    | exact wpAny_bind (wpAny_bind (m := Builtin.Tuple.tupleExact _) (wpAny_newObj_type (wpAny_pure ⟨_, rfl, wpAny_pure h⟩) htake))
end
end HT

namespace L2
open PySem PySem.Spec PyProof.Rows

/-! ### the parts of a slice -/
abbrev TO := St → Hp → (Option Int → Hp → Prop) → Prop
/-- a slice's part (left out, or an int) -/
def PO (X : Cx) (e : Option Expr) (t : TO) : Prop :=
  ∀ (pins : List (Addr × Obj)) (s : Shared) (σ : St) (H : Hp) (Q : Option Int → Hp → Prop), Inv X pins σ H s → t σ H Q →
    wpAny (model X.prog X.w) X.A (evalPart e X.env) (fun u s' => ∃ o H', Inv X pins σ H' s' ∧ IsPart u o ∧ Q o H') X.xe s
def tNoPart : TO := fun _ H Q => Q none H
def tPart (t : TE) : TO := fun σ H Q => t σ H fun x H1 => ∃ i, x = .int i ∧ Q (some i) H1

theorem intsAre_of {ns : List Int} : ∀ {us : List Value}, Vals (ns.map V.int) us → IntsAre us ns := by
  induction ns with
  | nil => intro us r; rw [List.map_nil] at r; cases r; exact .nil
  | cons n ns ih =>
    intro us r
    rw [List.map_cons] at r
    cases r with
    | cons r1 r2 =>
      obtain ⟨t, e⟩ := r1
      subst e
      exact .cons n t (ih r2)

section
variable {X : Cx} {e : Expr} {te : TE} {lo hi : Option Expr} {tl th : TO} {pos p2 : Pos}

theorem po_none : PO X none tNoPart := by
  intro pins s σ H Q I h
  rw [evalPart_none]
  exact wpAny_pure ⟨none, H, I, .none, h⟩
theorem po_some (h : PE X e te) : PO X (some e) (tPart te) := by
  intro pins s σ H Q I hw
  rw [evalPart_some]
  refine thn (h pins s σ H _ I hw) fun u s1 ⟨x, H1, I1, r1, q1⟩ => ?_
  obtain ⟨i, rfl, q⟩ := q1
  obtain ⟨t, rfl⟩ := r1
  exact ⟨some i, H1, I1, .int i t, q⟩

/-- what a slice of a value is, by values: the slice object stands at sl -/
def SlR (X : Cx) (r : V → Option Int → Option Int → Hp → VK → Prop) : Prop :=
  ∀ (pins : List (Addr × Obj)) (s : Shared) (σ : St) (H : Hp) (x : V) (v vl vu : Value) (lo hi : Option Int) (sl : Addr) (Q : VK), Inv X pins σ H s → RelV x v → s.heap.IsSliceOf sl vl vu .none → IsPart vl lo → IsPart vu hi → r x lo hi H Q →
    ∃ T id, typeLookup (.type T) "__getitem__" = pure (some (.builtin id)) ∧ s.TypeIs v T ∧ wpAny (model X.prog X.w) X.A (getItem v (.ref sl)) (EP X pins σ Q) X.xe s
theorem SlR.or {r r' : V → Option Int → Option Int → Hp → VK → Prop} (h : SlR X r) (h' : SlR X r') : SlR X (fun x lo hi H Q => r x lo hi H Q ∨ r' x lo hi H Q) := by
  intro pins s σ H x v vl vu lo hi sl Q I rx hs pl pu q
  rcases q with q | q
  · exact h pins s σ H x v vl vu lo hi sl Q I rx hs pl pu q
  · exact h' pins s σ H x v vl vu lo hi sl Q I rx hs pl pu q
def tSl (r : V → Option Int → Option Int → Hp → VK → Prop) (te : TE) (tl th : TO) : TE := fun σ H Q => te σ H fun x H1 => tl σ H1 fun l H2 => th σ H2 fun u H3 => r x l u H3 Q
/-- a[lo:hi], any a -/
theorem pe_slice {r : V → Option Int → Option Int → Hp → VK → Prop} (hr : SlR X r) (he : PE X e te) (hl : PO X lo tl) (hu : PO X hi th) : PE X (.Subscript e (.Slice lo hi none p2) pos) (tSl r te tl th) := by
  intro pins s σ H Q I h
  refine Subscript_ (thn (he pins s σ H _ I h) fun v s1 ⟨x, H1, I1, r1, q1⟩ => ?_)
  refine wpAny_Slice (thn (hl pins s1 σ H1 _ I1 q1) fun vl s2 ⟨l, H2, I2, pl, q2⟩ => thn (hu pins s2 σ H2 _ I2 q2) fun vu s3 ⟨u, H3, I3, pu, q3⟩ => ?_)
  rw [evalPart_none]
  refine wpAny_pure ?_
  have I4 : Inv X pins σ H3 { s3 with heap := s3.heap.push { cls := .type "slice", data := .fields #[vl, vu, .none] } } := I3.kept (t' := s3.toks) fun b ob q => Heap.get?_push_of_some _ q
  obtain ⟨T, id, hT, ht, hg⟩ := hr pins { s3 with heap := s3.heap.push { cls := .type "slice", data := .fields #[vl, vu, .none] } } σ H3 x v vl vu l u s3.heap.objs.size Q I4 r1 (Heap.IsSliceOf.new ..) pl pu q3
  show wpAny (model X.prog X.w) X.A (subscriptTail e (.Slice lo hi none p2) v (.ref s3.heap.objs.size)) (EP X pins σ Q) X.xe { s3 with heap := s3.heap.push { cls := .type "slice", data := .fields #[vl, vu, .none] } }
  exact tail_any (ops := [.ref s3.heap.objs.size, v]) ht hT hg (by with_unfolding_all rfl)

/-- the items of xs[lo:hi] -/
def cutV (xs : List V) (lo hi : Option Int) : List V := (xs.drop (HT.sIx xs.length 0 lo)).take (HT.sIx xs.length xs.length hi - HT.sIx xs.length 0 lo)
theorem cutV_length (xs : List V) (lo hi : Option Int) : (cutV xs lo hi).length ≤ xs.length := by
  unfold cutV
  rw [List.length_take, List.length_drop]
  omega
/-- t[lo:hi], not the whole of it (the whole would be t itself) -/
def rSlT (K : PySem.W.Frag) : V → Option Int → Option Int → Hp → VK → Prop := fun x lo hi H Q => ∃ a xs, x = .ref a ∧ SqT K H a xs ∧
  ¬ (HT.sIx xs.length 0 lo = 0 ∧ HT.sIx xs.length xs.length hi = xs.length) ∧ ∀ p, H p = none → Q (.ref p) (upd H p (.tup (cutV xs lo hi)))
theorem sl_tup : SlR X (rSlT X.K) := by
  intro pins s σ H x v vl vu lo hi sl Q I rx hs pl pu h
  obtain ⟨a, xs, rfl, hx, hw, q⟩ := h
  cases rx
  obtain ⟨its, r, ht, hz⟩ := I.tuple hx
  have hlen : its.toArray.size = xs.length := by rw [List.size_toArray]; exact r.length.symm
  refine ⟨"tuple", _, PyProof.Rows.slot_tuple_getitem.lookup, ht.typeIs, ?_⟩
  refine HT.getItem_tuple_cut ht hs pl pu (by rw [hlen]; exact hw) ?_ (by rw [hlen]; exact hz)
  rw [hlen]
  refine ⟨.ref s.heap.objs.size, _, I.laid (t' := s.toks) (o := .tup (cutV xs lo hi)) (fun b ob q => Heap.get?_push_of_some _ q) (Nat.le_refl _) ?_, rfl, q _ (I.hok.fresh (Nat.le_refl _))⟩
  exact ⟨Nat.le_trans (cutV_length xs lo hi) hz, _, (r.drop (HT.sIx xs.length 0 lo)).take (HT.sIx xs.length xs.length hi - HT.sIx xs.length 0 lo), IsTup.new _ _⟩

/-! ### t < u, t + u -/
def rLtT (K : PySem.W.Frag) : R2 := fun x y H Q => ∃ a b ns ms, x = .ref a ∧ y = .ref b ∧ SqT K H a (ns.map V.int) ∧ SqT K H b (ms.map V.int) ∧ Q (.bl (HT.lexLt ns ms)) H
theorem op_ltT (hu : X.A.units < cLine) : OpR X (compareOp .Lt) (rLtT X.K) := by
  intro pins s σ H x y v u Q I rx ry h
  obtain ⟨a, b, ns, ms, rfl, rfl, ha, hb, q⟩ := h
  cases rx
  cases ry
  obtain ⟨its, r1, p1, _⟩ := I.tuple ha
  obtain ⟨its2, r2, p2, _⟩ := I.tuple hb
  have i1 : IntsAre its.toArray.toList ns := intsAre_of r1
  have i2 : IntsAre its2.toArray.toList ms := intsAre_of r2
  exact HT.lt_tupInts p1 p2 i1 i2 hu ⟨.bl (HT.lexLt ns ms), H, I, rfl, q⟩
/-- t + u, t not empty: u empty gives t itself -/
def rCatT (K : PySem.W.Frag) : R2 := fun x y H Q => ∃ a b xs ys, x = .ref a ∧ y = .ref b ∧ SqT K H a xs ∧ SqT K H b ys ∧ xs ≠ [] ∧ xs.length + ys.length ≤ sizeLine ∧
  (ys = [] → Q (.ref a) H) ∧ (ys ≠ [] → ∀ p, H p = none → Q (.ref p) (upd H p (.tup (xs ++ ys))))
theorem Vals.nil_iff {xs : List V} {us : List Value} (r : Vals xs us) : us = [] ↔ xs = [] := by
  cases r with
  | nil => simp
  | cons _ _ => simp
theorem op_catT : OpR X (binaryOp .Add) (rCatT X.K) := by
  intro pins s σ H x y v u Q I rx ry h
  obtain ⟨a, b, xs, ys, rfl, rfl, ha, hb, hx, hz, q1, q2⟩ := h
  cases rx
  cases ry
  obtain ⟨its, r1, p1, _⟩ := I.tuple ha
  obtain ⟨its2, r2, p2, _⟩ := I.tuple hb
  refine HT.cat_tup p1 p2 (fun z => hx (r1.nil_iff.mp z)) (fun z => ⟨.ref a, H, I, rfl, q1 (r2.nil_iff.mp z)⟩) (fun z => ?_) (by rw [← r1.length, ← r2.length]; exact hz)
  refine ⟨.ref s.heap.objs.size, _, I.laid (t' := s.toks) (o := .tup (xs ++ ys)) (fun b ob q => Heap.get?_push_of_some _ q) (Nat.le_refl _) ?_, rfl, q2 (fun w => z (r2.nil_iff.mpr w)) _ (I.hok.fresh (Nat.le_refl _))⟩
  exact ⟨by rw [List.length_append]; exact hz, _, r1.append r2, IsTup.new _ _⟩
/-- tuple(t) -/
theorem call_tupleT : CallR X (.type "tuple") (fun xs H Q => ∃ a ys, xs = [.ref a] ∧ SqT X.K H a ys ∧ Q (.ref a) H) := by
  intro pins s σ H xs us Q I r h
  obtain ⟨a, ys, rfl, ha, q⟩ := h
  obtain ⟨u, rfl, ru⟩ := vals1 r
  cases ru
  obtain ⟨its, _, p1, _⟩ := I.tuple ha
  exact call_tuple_same (items := its.toArray) p1 ⟨.ref a, H, I, rfl, q⟩
end
end L2

namespace L2
open PySem PySem.Spec PyProof.Rows

/-! ### places -/
/-- the place that an index of any sign means -/
def ixN (n : Nat) (i : Int) : Option Nat := if 0 ≤ i then (if i < n then some i.toNat else none) else if -(n : Int) ≤ i then some (i + n).toNat else none
def atI {α : Type} (xs : List α) (i : Int) : Option α := (ixN xs.length i).bind fun j => xs[j]?
theorem ixN_seq {n : Nat} {i : Int} {j : Nat} (h : ixN n i = some j) : seqIndex? i n = some j ∧ j < n ∧ -(n : Int) ≤ i ∧ i < n := by
  unfold ixN at h
  by_cases h0 : 0 ≤ i
  · rw [if_pos h0] at h
    by_cases h1 : i < n
    · rw [if_pos h1] at h
      have e : i.toNat = j := Option.some.inj h
      exact ⟨by rw [seqIndex_of h0 h1, e], by omega, by omega, h1⟩
    · rw [if_neg h1] at h; cases h
  · rw [if_neg h0] at h
    by_cases h1 : -(n : Int) ≤ i
    · rw [if_pos h1] at h
      have e : (i + n).toNat = j := Option.some.inj h
      exact ⟨by rw [seqIndex_neg (by omega) h1, e], by omega, h1, by omega⟩
    · rw [if_neg h1] at h; cases h
theorem atI_get {α : Type} {xs : List α} {i : Int} {v : α} (h : atI xs i = some v) : ∃ j, seqIndex? i xs.length = some j ∧ xs[j]? = some v ∧ j < xs.length ∧ -(xs.length : Int) ≤ i ∧ i < xs.length := by
  unfold atI at h
  cases e : ixN xs.length i with
  | none => rw [e] at h; cases h
  | some j =>
    rw [e] at h
    obtain ⟨h1, h2, h3, h4⟩ := ixN_seq e
    exact ⟨j, h1, h, h2, h3, h4⟩
theorem atI_nat {α : Type} {xs : List α} {j : Nat} {v : α} (h : xs[j]? = some v) : atI xs (j : Int) = some v := by
  have hj : j < xs.length := (List.getElem?_eq_some_iff.mp h).1
  have e : ixN xs.length (j : Int) = some j := by
    unfold ixN
    rw [if_pos (by omega), if_pos (by omega)]; simp
  unfold atI; rw [e]; exact h
theorem atI_last {α : Type} (xs : List α) (v : α) : atI (xs ++ [v]) (-1) = some v := by
  have hl : (xs ++ [v]).length = xs.length + 1 := by simp
  have e : ixN (xs ++ [v]).length (-1) = some xs.length := by
    unfold ixN
    rw [hl, if_neg (by decide), if_pos (by omega)]
    congr 1
    omega
  unfold atI
  rw [e]
  show (xs ++ [v])[xs.length]? = some v
  simp

/-! ### what may be subscripted -/
/-- what stands as an index of a plain subscript -/
def PlainIx (b : Expr) : Prop := ∀ o i, subscripted b false o i = operate [o, i] (getItem o i)
/-- a subscript by values -/
def IxR (X : Cx) (r : R2) : Prop :=
  ∀ (value slice : Expr) (pins : List (Addr × Obj)) (s : Shared) (σ : St) (H : Hp) (x y : V) (v u : Value) (Q : VK), Inv X pins σ H s → RelV x v → RelV y u → r x y H Q →
    subscripted slice false v u = operate [v, u] (getItem v u) → wpAny (model X.prog X.w) X.A (subscriptTail value slice v u) (EP X pins σ Q) X.xe s
/-- a call of a builtin's method by values: the receiver, the arguments -/
def MtR (X : Cx) (id : String) (r : V → List V → Hp → VK → Prop) : Prop :=
  ∀ (pins : List (Addr × Obj)) (s : Shared) (σ : St) (H : Hp) (x : V) (xs : List V) (v : Value) (us : List Value) (Q : VK), Inv X pins σ H s → RelV x v → Vals xs us → r x xs H Q →
    wpAny (model X.prog X.w) X.A (call (.builtin id) (v :: us)) (EP X pins σ Q) X.xe s
section
variable {X : Cx} {a b : Expr} {ta tb : TE} {pos : Pos}
theorem IxR.or {r r' : R2} (h : IxR X r) (h' : IxR X r') : IxR X (fun x y H Q => r x y H Q ∨ r' x y H Q) := by
  intro value slice pins s σ H x y v u Q I rx ry q hs
  rcases q with q | q
  · exact h value slice pins s σ H x y v u Q I rx ry q hs
  · exact h' value slice pins s σ H x y v u Q I rx ry q hs
theorem MtR.or {id : String} {r r' : V → List V → Hp → VK → Prop} (h : MtR X id r) (h' : MtR X id r') : MtR X id (fun x xs H Q => r x xs H Q ∨ r' x xs H Q) := by
  intro pins s σ H x xs v us Q I rx rs q
  rcases q with q | q
  · exact h pins s σ H x xs v us Q I rx rs q
  · exact h' pins s σ H x xs v us Q I rx rs q
/-- a[b] -/
theorem pe_ix {r : R2} (hr : IxR X r) (ha : PE X a ta) (hb : PE X b tb) (hs : PlainIx b) : PE X (.Subscript a b pos) (tOp r ta tb) := by
  intro pins s σ H Q I h
  exact Subscript_ (binT ha hb I h fun v u s2 x y H2 I2 rx ry q => hr a b pins s2 σ H2 x y v u Q I2 rx ry q (hs _ _))

def rIxL (K : PySem.W.Frag) : R2 := fun x y H Q => ∃ p xs i v, x = .ref p ∧ y = .int i ∧ SqL K H p xs ∧ atI xs i = some v ∧ Q v H
def rIxT (K : PySem.W.Frag) : R2 := fun x y H Q => ∃ p xs i v, x = .ref p ∧ y = .int i ∧ SqT K H p xs ∧ atI xs i = some v ∧ Q v H
def rIxS : R2 := fun x y H Q => ∃ z i c, x = .str z ∧ y = .int i ∧ z.length ≤ sizeLine ∧ atI z.cps.toList i = some c ∧ Q (.str ⟨#[c]⟩) H
theorem ix_list : IxR X (rIxL X.K) := by
  intro value slice pins s σ H x y v u Q I rx ry h hs
  obtain ⟨p, xs, i, z, rfl, rfl, hq, he, q⟩ := h
  cases rx
  obtain ⟨t, rfl⟩ := ry
  obtain ⟨its, r, pl, hz⟩ := I.list hq
  obtain ⟨j, h1, h2, h3, h4, h5⟩ := atI_get he
  obtain ⟨w, ew, rw'⟩ := r.get h2
  have hl := r.length
  have hn := line63
  have fin : EP X pins σ Q w s := ⟨z, H, I, rw', q⟩
  by_cases h0 : 0 ≤ i
  · have hj : i.toNat = j := by
      rw [seqIndex_of h0 h5] at h1
      exact Option.some.inj h1
    exact item_listR pl.isList h0 (by omega) (by rw [hj]; simpa using ew) fin hs
  · have hj : (i + (its.toArray.size : Int)).toNat = j := by
      rw [seqIndex_neg (by omega) h4] at h1
      rw [List.size_toArray, ← hl]
      exact Option.some.inj h1
    exact subscriptTail_builtinR (x := w) pl.isList.typeIs slot_list_getitem.lookup
      (wpAny_getItem_list_neg (Q := fun r s' => r = w ∧ EP X pins σ Q r s') pl.isList (by omega) (by rw [List.size_toArray] <;> omega) (by omega) (by rw [hj]; simpa using ew) ⟨rfl, fin⟩) hs
theorem ix_tup : IxR X (rIxT X.K) := by
  intro value slice pins s σ H x y v u Q I rx ry h hs
  obtain ⟨p, xs, i, z, rfl, rfl, hq, he, q⟩ := h
  cases rx
  obtain ⟨t, rfl⟩ := ry
  obtain ⟨its, r, pl, hz⟩ := I.tuple hq
  obtain ⟨j, h1, h2, h3, h4, h5⟩ := atI_get he
  obtain ⟨w, ew, rw'⟩ := r.get h2
  have hl := r.length
  have hn := line63
  have fin : EP X pins σ Q w s := ⟨z, H, I, rw', q⟩
  exact subscriptTail_builtinR (x := w) pl.typeIs slot_tuple_getitem.lookup
    (getItem_tuple (j := j) (Q := fun r s' => r = w ∧ EP X pins σ Q r s') pl (by omega) (by omega) (by rw [List.size_toArray, ← hl]; exact h1) (by simpa using ew) ⟨rfl, fin⟩) hs
theorem ix_str : IxR X rIxS := by
  intro value slice pins s σ H x y v u Q I rx ry h hs
  obtain ⟨z, i, c, rfl, rfl, hz, he, q⟩ := h
  obtain ⟨t, rfl⟩ := rx
  obtain ⟨t', rfl⟩ := ry
  obtain ⟨j, h1, h2, h3, h4, h5⟩ := atI_get he
  have hl : z.cps.toList.length = z.length := by simp [Str.length]
  rw [hl] at h1 h4 h5
  have hn := line63
  exact tail_any (typeIs_str s z t) slot_str_getitem.lookup (getItem_str (c := c) (by
    have e1 : decide (i < -(2 ^ 63 : Int)) = false := decide_eq_false (by omega)
    have e2 : decide (i ≥ 2 ^ 63) = false := decide_eq_false (by omega)
    rw [e1, e2, Bool.or_false]) (by rw [h1]; simpa using h2) ⟨.str ⟨#[c]⟩, H, I.tok _, ⟨_, rfl⟩, q⟩) hs
/-- list, tuple or str -/
def rIx (K : PySem.W.Frag) : R2 := fun x y H Q => rIxL K x y H Q ∨ rIxT K x y H Q ∨ rIxS x y H Q
theorem ix_seq : IxR X (rIx X.K) := ix_list.or (ix_tup.or ix_str)

/-! ### xs[i] = v, any sign -/
/-- the list's object behind a store -/
theorem mapSeq_set (its : List Value) (n j : Nat) (u : Value) : Obj.mapSeq (·.setIfInBounds j u) { cls := .type "list", data := .seq its.toArray n } = { cls := .type "list", data := .seq (its.set j u).toArray n } := by
  simp [Obj.mapSeq]
theorem Inv.lst {pins : List (Addr × Obj)} {σ : St} {H : Hp} {s : Shared} {p : Addr} {xs : List V} (I : Inv X pins σ H s) (h : H p = some (.lst xs)) :
    ∃ (its : List Value) (n : Nat), Vals xs its ∧ s.heap.get? p = some { cls := .type "list", data := .seq its.toArray n } ∧ xs.length ≤ sizeLine := by
  obtain ⟨z, its, n, r, e⟩ := I.hok p _ h
  exact ⟨its, n, r, e, z⟩
/-- the list at p is written by an update of its object -/
theorem Inv.lstUpd {pins : List (Addr × Obj)} {σ : St} {H : Hp} {s : Shared} {p : Addr} {xs ys : List V} {its its' : List Value} {n n' : Nat} {f : Obj → Obj} (I : Inv X pins σ H s) (h : H p = some (.lst xs))
    (ho : s.heap.get? p = some { cls := .type "list", data := .seq its.toArray n }) (hf : f { cls := .type "list", data := .seq its.toArray n } = { cls := .type "list", data := .seq its'.toArray n' }) (r : Vals ys its') (hz : ys.length ≤ sizeLine) (t : Nat) :
    Inv X pins σ (upd H p (.lst ys)) { s with heap := s.heap.update p f, toks := t } := by
  have e : (s.heap.update p f).get? p = some { cls := .type "list", data := .seq its'.toArray n' } := by
    rw [Heap.get?_update_self f ho (by rw [hf] <;> rfl), hf]
  refine I.write (x := p) (e := p) (by rw [h]; trivial) (.inl rfl) (fun b u hb q => (Heap.get?_update_other _ _ (Ne.symm hb)).trans q) ⟨_, e⟩ ?_
  exact ⟨hz, its', n', r, e⟩
def rSetL : V → V → V → Hp → (Hp → Prop) → Prop := fun o i v H Q => ∃ p xs k j, o = .ref p ∧ i = .int k ∧ H p = some (.lst xs) ∧ ixN xs.length k = some j ∧ Q (upd H p (.lst (xs.set j v)))
theorem set_list : PSet X rSetL := by
  intro pins s σ H o i v ov iv u Q I ro ri rv h
  obtain ⟨p, xs, k, j, rfl, rfl, hp, hj, q⟩ := h
  cases ro
  obtain ⟨t, rfl⟩ := ri
  obtain ⟨its, n, r, ho, hz⟩ := I.lst hp
  obtain ⟨h1, h2, h3, h4⟩ := ixN_seq hj
  have hl := r.length
  have hn := line63
  have I' : Inv X pins σ (upd H p (.lst (xs.set j v))) { s with heap := s.heap.update p (Obj.mapSeq (·.setIfInBounds j u)) } :=
    I.lstUpd hp ho (mapSeq_set its n j u) (r.set rv j) (by rw [List.length_set]; exact hz) s.toks
  by_cases h0 : 0 ≤ k
  · have hk : k.toNat = j := by
      rw [seqIndex_of h0 h4] at h1
      exact Option.some.inj h1
    exact PySem.W.ki_setAt ho h0 (by omega) (by rw [List.size_toArray, ← hl]; exact h4) (by rw [hk]; exact ⟨_, I', q⟩)
  · have hk : (k + (its.toArray.size : Int)).toNat = j := by
      rw [seqIndex_neg (by omega) h3] at h1
      rw [List.size_toArray, ← hl]
      exact Option.some.inj h1
    exact PySem.W.ki_setBack ho (by omega) (by rw [List.size_toArray, ← hl]; exact h3) (by omega) (by rw [hk]; exact ⟨_, I', q⟩)

/-! ### slices -/
theorem slice_bounds (lo hi : Option Int) (n : Nat) : (sliceBounds lo hi none n).1 = ((HT.sIx n 0 lo : Nat) : Int) ∧ (sliceBounds lo hi none n).2.1 = ((HT.sIx n n hi : Nat) : Int) ∧ (sliceBounds lo hi none n).2.2 = 1 := by
  refine ⟨?_, ?_, rfl⟩
  · cases lo with
    | none => simp [sliceBounds, HT.sIx]
    | some i =>
      simp only [sliceBounds, HT.sIx, Option.getD_none, show (1 : Int) > 0 by decide, if_true]
      by_cases h : i < 0
      · simp only [h, if_true] <;> omega
      · simp only [h, if_false] <;> omega
  · cases hi with
    | none => simp [sliceBounds, HT.sIx]
    | some i =>
      simp only [sliceBounds, HT.sIx, Option.getD_none, show (1 : Int) > 0 by decide, if_true]
      by_cases h : i < 0
      · simp only [h, if_true] <;> omega
      · simp only [h, if_false] <;> omega
theorem slicePick_cut (its : List Value) (lo hi : Option Int) : slicePick its.toArray lo hi none = ((its.drop (HT.sIx its.length 0 lo)).take (HT.sIx its.length its.length hi - HT.sIx its.length 0 lo)).toArray := by
  obtain ⟨h1, h2, h3⟩ := slice_bounds lo hi its.toArray.size
  unfold slicePick
  rw [h1, h2, h3]
  simp only [sliceRange_one, pick_run, List.size_toArray] <;> rfl
/-- xs[lo:hi] of a list: a new list -/
def rSlL (K : PySem.W.Frag) : V → Option Int → Option Int → Hp → VK → Prop := fun x lo hi H Q => ∃ a xs, x = .ref a ∧ SqL K H a xs ∧ ∀ p, H p = none → Q (.ref p) (upd H p (.lst (cutV xs lo hi)))
theorem sl_list : SlR X (rSlL X.K) := by
  intro pins s σ H x v vl vu lo hi sl Q I rx hs pl pu h
  obtain ⟨a, xs, rfl, hx, q⟩ := h
  cases rx
  obtain ⟨its, r, ht, hz⟩ := I.list hx
  have hlen := r.length
  refine ⟨"list", _, slot_list_getitem.lookup, ht.isList.typeIs, ?_⟩
  refine wpAny_getItem_list_slice ht.isList hs pl pu .none (by simp) ?_ (by rw [List.size_toArray] <;> omega)
  rw [slicePick_cut, ← hlen]
  refine ⟨.ref s.heap.objs.size, _, I.laid (t' := s.toks) (o := .lst (cutV xs lo hi)) (fun b ob q => Heap.get?_push_of_some _ q) (Nat.le_refl _) ?_, rfl, q _ (I.hok.fresh (Nat.le_refl _))⟩
  exact ⟨Nat.le_trans (cutV_length xs lo hi) hz, _, 0, (r.drop (HT.sIx xs.length 0 lo)).take (HT.sIx xs.length xs.length hi - HT.sIx xs.length 0 lo), Heap.get?_push_size _ rfl⟩

/-! ### in, not in: flat items -/
def flatV : V → Bool
  | .non => true
  | .bl _ => true
  | .int _ => true
  | .str _ => true
  | _ => false
/-- == of flat values -/
def eqV : V → V → Bool
  | .non, .non => true
  | .bl a, .bl b => a == b
  | .bl a, .int b => (if a then 1 else 0) == b
  | .int a, .bl b => a == (if b then 1 else 0)
  | .int a, .int b => a == b
  | .str a, .str b => a == b
  | _, _ => false
theorem eqAt_V {A : Around} {s : Shared} {y x : V} {u v : Value} (ry : RelV y u) (rx : RelV x v) (fy : flatV y = true) (fx : flatV x = true) : SeqAt.EqAt A s u v (eqV y x) := by
  cases y with
  | non =>
    cases ry
    cases x with
    | non => cases rx; exact SeqAt.EqAt.same _
    | bl b => cases rx; exact SeqAt.EqAt.none_bool b
    | int b => obtain ⟨t, rfl⟩ := rx; exact SeqAt.EqAt.none_int b t
    | str b => obtain ⟨t, rfl⟩ := rx; exact SeqAt.EqAt.none_str b t
    | _ => exact absurd (show false = true from fx) Bool.false_ne_true
  | bl a =>
    cases ry
    cases x with
    | non => cases rx; exact SeqAt.EqAt.bool_none a
    | bl b => cases rx; exact SeqAt.EqAt.bool_bool a b
    | int b => obtain ⟨t, rfl⟩ := rx; exact SeqAt.EqAt.bool_int a b t
    | str b => obtain ⟨t, rfl⟩ := rx; exact SeqAt.EqAt.bool_str a b t
    | _ => exact absurd (show false = true from fx) Bool.false_ne_true
  | int a =>
    obtain ⟨t', rfl⟩ := ry
    cases x with
    | non => cases rx; exact SeqAt.EqAt.int_none a t'
    | bl b => cases rx; exact SeqAt.EqAt.int_bool a t' b
    | int b => obtain ⟨t, rfl⟩ := rx; exact SeqAt.EqAt.int_int a t' b t
    | str b => obtain ⟨t, rfl⟩ := rx; exact SeqAt.EqAt.int_str a t' b t
    | _ => exact absurd (show false = true from fx) Bool.false_ne_true
  | str a =>
    obtain ⟨t', rfl⟩ := ry
    cases x with
    | non => cases rx; exact SeqAt.EqAt.str_none a t'
    | bl b => cases rx; exact SeqAt.EqAt.str_bool a t' b
    | int b => obtain ⟨t, rfl⟩ := rx; exact SeqAt.EqAt.str_int a t' b t
    | str b => obtain ⟨t, rfl⟩ := rx; exact SeqAt.EqAt.str_str a t' b t
    | _ => exact absurd (show false = true from fx) Bool.false_ne_true
  | _ => exact absurd (show false = true from fy) Bool.false_ne_true
/-- the items' answers, read off the values (a value's own answer does not lean on its token) -/
def eqU (x : V) (u : Value) : Bool := match u with
  | .none => eqV .non x
  | .bool b => eqV (.bl b) x
  | .int i _ => eqV (.int i) x
  | .str z _ => eqV (.str z) x
  | _ => false
theorem eqU_of {x y : V} {u : Value} (r : RelV y u) (f : flatV y = true) : eqU x u = eqV y x := by
  cases y with
  | non => cases r; rfl
  | bl b => cases r; rfl
  | int i => obtain ⟨t, rfl⟩ := r; rfl
  | str z => obtain ⟨t, rfl⟩ := r; rfl
  | _ => exact absurd (show false = true from f) Bool.false_ne_true
theorem any_eqU {x : V} : ∀ {xs : List V} {us : List Value}, Vals xs us → xs.all flatV = true → us.any (eqU x) = xs.any fun y => eqV y x
  | _, _, .nil, _ => rfl
  | y :: xs, u :: us, .cons r t, f => by
    rw [List.all_cons, Bool.and_eq_true] at f
    rw [List.any_cons, List.any_cons, eqU_of r f.1, any_eqU t f.2]
theorem mem_eqAt {A : Around} {s : Shared} {x : V} {v : Value} (rx : RelV x v) (fx : flatV x = true) : ∀ {xs : List V} {us : List Value}, Vals xs us → xs.all flatV = true → ∀ u ∈ us, SeqAt.EqAt A s u v (eqU x u)
  | _, _, .nil, _ => fun u hu => by cases hu
  | y :: xs, u :: us, .cons r t, f => fun u' hu => by
    rw [List.all_cons, Bool.and_eq_true] at f
    rcases List.mem_cons.mp hu with rfl | hu
    · rw [eqU_of r f.1]; exact eqAt_V r rx f.1 fx
    · exact mem_eqAt rx fx t f.2 u' hu
def inV (x : V) (xs : List V) : Bool := xs.any fun y => eqV y x
/-- x in a list or tuple of flat items -/
def rIn (K : PySem.W.Frag) (neg : Bool) : R2 := fun x y H Q => ∃ p xs, y = .ref p ∧ (SqL K H p xs ∨ SqT K H p xs) ∧ flatV x = true ∧ xs.all flatV = true ∧ Q (.bl (if neg then !inV x xs else inV x xs)) H
theorem op_in_seq : OpR X (compareOp .In) (rIn X.K false) := by
  intro pins s σ H x y v u Q I rx ry h
  obtain ⟨p, xs, rfl, hq, fx, fs, q⟩ := h
  cases ry
  rcases hq with hq | hq
  · obtain ⟨its, r, pl, hz⟩ := I.list hq
    refine SeqAt.in_listAt (eqU x) pl.isList (fun w hw => mem_eqAt rx fx r fs w (by simpa using hw)) ⟨.bl _, H, I, rfl, ?_⟩
    rw [show its.toArray.any (eqU x) = its.any (eqU x) by simp, any_eqU r fs]
    exact q
  · obtain ⟨its, r, pl, hz⟩ := I.tuple hq
    refine SeqAt.in_tupleAt (eqU x) pl (fun w hw => mem_eqAt rx fx r fs w (by simpa using hw)) ⟨.bl _, H, I, rfl, ?_⟩
    rw [show its.toArray.any (eqU x) = its.any (eqU x) by simp, any_eqU r fs]
    exact q
theorem op_notIn_seq : OpR X (compareOp .NotIn) (rIn X.K true) := by
  intro pins s σ H x y v u Q I rx ry h
  obtain ⟨p, xs, rfl, hq, fx, fs, q⟩ := h
  cases ry
  rcases hq with hq | hq
  · obtain ⟨its, r, pl, hz⟩ := I.list hq
    refine SeqAt.notIn_listAt (eqU x) pl.isList (fun w hw => mem_eqAt rx fx r fs w (by simpa using hw)) ⟨.bl _, H, I, rfl, ?_⟩
    rw [show its.toArray.any (eqU x) = its.any (eqU x) by simp, any_eqU r fs]
    exact q
  · obtain ⟨its, r, pl, hz⟩ := I.tuple hq
    refine SeqAt.notIn_tupleAt (eqU x) pl (fun w hw => mem_eqAt rx fx r fs w (by simpa using hw)) ⟨.bl _, H, I, rfl, ?_⟩
    rw [show its.toArray.any (eqU x) = its.any (eqU x) by simp, any_eqU r fs]
    exact q
theorem op_notIn_str : OpR X (compareOp .NotIn) (fun x y H Q => ∃ i j, x = .str i ∧ y = .str j ∧ Q (.bl (!(!(Builtin.Str.occurrences j i 0 j.length 1).isEmpty))) H) := by
  intro pins s σ H x y v u Q I rx ry h
  obtain ⟨i, j, rfl, rfl, q⟩ := h
  obtain ⟨t, rfl⟩ := rx
  obtain ⟨t', rfl⟩ := ry
  exact notIn_str ⟨.bl _, H, I, rfl, q⟩

/-! ### len, list(x), tuple(x) of any list or tuple that is read -/
theorem call_len_seq : CallR X (.builtin "len") (fun xs H Q => ∃ p ys, xs = [.ref p] ∧ (SqL X.K H p ys ∨ SqT X.K H p ys) ∧ Q (.int ys.length) H) := by
  intro pins s σ H xs us Q I r h
  obtain ⟨p, ys, rfl, hq, q⟩ := h
  obtain ⟨u, rfl, rx⟩ := vals1 r
  cases rx
  have hn := line63
  rcases hq with hq | hq
  · obtain ⟨its, r', pl, hz⟩ := I.list hq
    have hlen := r'.length
    exact Calls.call_len_list pl.isList (by simp only [List.size_toArray] <;> omega) ⟨.int ys.length, H, I.tok _, ⟨s.toks + 1, by rw [List.size_toArray, hlen]⟩, q⟩
  · obtain ⟨its, r', pl, hz⟩ := I.tuple hq
    have hlen := r'.length
    exact len_tuple pl (by simp only [List.size_toArray] <;> omega) ⟨.int ys.length, H, I.tok _, ⟨s.toks + 1, by rw [List.size_toArray, hlen]⟩, q⟩
theorem call_len_str : CallR X (.builtin "len") (fun xs H Q => ∃ z, xs = [.str z] ∧ z.length ≤ sizeLine ∧ Q (.int z.length) H) := by
  intro pins s σ H xs us Q I r h
  obtain ⟨z, rfl, hz, q⟩ := h
  obtain ⟨u, rfl, t, rfl⟩ := vals1 r
  have hn := line63
  exact len_str (by omega) ⟨.int z.length, H, I.tok _, ⟨_, rfl⟩, q⟩
theorem CallR.or {f : Value} {r r' : List V → Hp → VK → Prop} (h : CallR X f r) (h' : CallR X f r') : CallR X f (fun xs H Q => r xs H Q ∨ r' xs H Q) := by
  intro pins s σ H xs us Q I rs q
  rcases q with q | q
  · exact h pins s σ H xs us Q I rs q
  · exact h' pins s σ H xs us Q I rs q
theorem call_list_of : CallR X (.type "list") (fun xs H Q => ∃ p ys, xs = [.ref p] ∧ (SqL X.K H p ys ∨ SqT X.K H p ys) ∧ ∀ l, H l = none → Q (.ref l) (upd H l (.lst ys))) := by
  intro pins s σ H xs us Q I r h
  obtain ⟨p, ys, rfl, hq, q⟩ := h
  obtain ⟨u, rfl, rx⟩ := vals1 r
  cases rx
  have fin : ∀ (its : List Value), Vals ys its → ys.length ≤ sizeLine → ∀ (h' : Heap) (c' : Nat), (∀ b o', s.heap.get? b = some o' → h'.get? b = some o') →
      h'.get? s.heap.objs.size = some { cls := .type "list", dict := none, data := .seq its.toArray c', slots := #[] } → EP X pins σ Q (.ref s.heap.objs.size) { s with heap := h' } := fun its r' hz h' c' kp e =>
    ⟨.ref s.heap.objs.size, _, I.laid (t' := s.toks) kp (Nat.le_refl _) (show ObjOk X.prog X.w _ h' _ (.lst ys) from ⟨hz, its, c', r', e⟩), rfl, q _ (I.hok.fresh (Nat.le_refl _))⟩
  rcases hq with hq | hq
  · obtain ⟨its, r', pl, hz⟩ := I.list hq
    have hlen := r'.length
    obtain ⟨o, ho, hc, n, hd⟩ := pl.isList
    exact call_list_seq p (.inl rfl) ho hc hd (fun h' c' kp e => fin its r' hz h' c' kp e) (by simp only [List.size_toArray] <;> omega)
  · obtain ⟨its, r', pl, hz⟩ := I.tuple hq
    have hlen := r'.length
    obtain ⟨o, ho, hc, n, hd⟩ := pl
    exact call_list_seq p (.inr rfl) ho hc hd (fun h' c' kp e => fin its r' hz h' c' kp e) (by simp only [List.size_toArray] <;> omega)
theorem call_tuple_of : CallR X (.type "tuple") (fun xs H Q => ∃ p ys, xs = [.ref p] ∧ ((SqL X.K H p ys ∧ ∀ l, H l = none → Q (.ref l) (upd H l (.tup ys))) ∨ (SqT X.K H p ys ∧ Q (.ref p) H))) := by
  intro pins s σ H xs us Q I r h
  obtain ⟨p, ys, rfl, h⟩ := h
  obtain ⟨u, rfl, rx⟩ := vals1 r
  cases rx
  rcases h with ⟨hq, q⟩ | ⟨hq, q⟩
  · obtain ⟨its, r', pl, hz⟩ := I.list hq
    have hlen := r'.length
    refine call_tuple_list pl.isList (fun h' kp => ?_) (by simp only [List.size_toArray] <;> omega)
    have I1 : Inv X pins σ H { s with heap := h' } := I.kept (t' := s.toks) kp
    have I2 : Inv X pins σ (upd H h'.objs.size (.tup ys)) { s with heap := h'.push { cls := .type "tuple", data := .seq its.toArray } } :=
      I1.laid (t' := s.toks) (fun b o e => Heap.get?_push_of_some _ e) (Nat.le_refl _) (show ObjOk X.prog X.w _ _ _ (.tup ys) from ⟨hz, its, r', IsTup.new _ _⟩)
    exact ⟨.ref h'.objs.size, _, I2, rfl, q _ (I1.hok.fresh (Nat.le_refl _))⟩
  · obtain ⟨its, r', pl, hz⟩ := I.tuple hq
    exact call_tuple_same pl ⟨.ref p, H, I, rfl, q⟩

/-! ### the call of a builtin's method: o.m(..) -/
/-- the value is of that builtin type -/
def tyV (K : PySem.W.Frag) (T : String) (x : V) (H : Hp) : Prop := match x with
  | .str _ => T = "str"
  | .int _ => T = "int"
  | .ref p => (T = "list" ∧ ∃ xs, SqL K H p xs) ∨ (T = "tuple" ∧ ∃ o, K.lookup p = some o ∧ o.cls = .type "tuple" ∧ o.dict = none) ∨
      (T = "dict" ∧ ((∃ kvs, H p = some (.dK kvs)) ∨ ∃ kvs, H p = some (.dT kvs))) ∨ (T = "set" ∧ ∃ S n, H p = some (.set S n))
  | _ => False
theorem tyV_is {pins : List (Addr × Obj)} {σ : St} {H : Hp} {s : Shared} {T : String} {x : V} {v : Value} (I : Inv X pins σ H s) (r : RelV x v) (ty : tyV X.K T x H) :
    s.TypeIs v T ∧ ∀ a, v = .ref a → ∃ ob, s.heap.get? a = some ob ∧ ob.dict = none := by
  cases x with
  | str z =>
    obtain ⟨t, rfl⟩ := r
    cases (show T = "str" from ty)
    exact ⟨typeIs_str s z t, fun _ e => nomatch e⟩
  | int i =>
    obtain ⟨t, rfl⟩ := r
    cases (show T = "int" from ty)
    exact ⟨typeIs_int s i t, fun _ e => nomatch e⟩
  | ref p =>
    cases r
    rcases ty with ⟨rfl, xs, hq⟩ | ⟨rfl, o, hk, hc, hd⟩ | ⟨rfl, hk⟩ | ⟨rfl, S, n, hk⟩
    · obtain ⟨its, _, pl, _⟩ := I.list hq
      refine ⟨pl.isList.typeIs, fun a e => ?_⟩
      cases e
      obtain ⟨o, n, e, c, hd, _⟩ := pl
      exact ⟨o, e, hd⟩
    · refine ⟨⟨o, I.kIn p o hk, hc⟩, fun a e => ?_⟩
      cases e
      exact ⟨o, I.kIn _ o hk, hd⟩
    · have z : ∃ o, s.heap.get? p = some o ∧ o.ExactDict := by
        rcases hk with ⟨kvs, hk⟩ | ⟨kvs, hk⟩
        · obtain ⟨_, _, _, _, o, _, _, e, ex, _⟩ := I.hok p _ hk
          exact ⟨o, e, ex⟩
        · obtain ⟨_, _, _, _, o, _, _, e, ex, _⟩ := I.hok p _ hk
          exact ⟨o, e, ex⟩
      obtain ⟨o, e, ex⟩ := z
      refine ⟨⟨o, e, ex.1⟩, fun a e2 => ?_⟩
      cases e2
      exact ⟨o, e, ex.2.1⟩
    · obtain ⟨o, _, _, _, e, ex, _⟩ := I.hok p _ hk
      refine ⟨⟨o, e, ex.1⟩, fun a e2 => ?_⟩
      cases e2
      exact ⟨o, e, ex.2.1⟩
  | _ => exact False.elim ty
def tBM0 (K : PySem.W.Frag) (T : String) (r : V → List V → Hp → VK → Prop) (to : TE) : TE := fun σ H Q => to σ H fun x H1 => tyV K T x H1 ∧ r x [] H1 Q
def tBM (K : PySem.W.Frag) (T : String) (r : V → List V → Hp → VK → Prop) (to : TE) (t : TA) : TE := fun σ H Q => to σ H fun x H1 => tyV K T x H1 ∧ t σ H1 fun xs H2 => r x xs H2 Q
variable {o e : Expr} {es : List Expr} {to : TE} {t : TA} {name : Str} {apos cpos : Pos} {T id : String} {r : V → List V → Hp → VK → Prop}
theorem pe_bm0 (pa : PlainAttrs T) (slot : Slot T name id) (hty : typeOf (.builtin id) = pure (.type "method_descriptor")) (hm : MtR X id r) (ho : PE X o to)
    (hbase : attributeBase o name X.env (eval o X.env) = eval o X.env := by rfl) (hline : (apos.endLine == cpos.line) = true := by rfl) : PE X (.Call (.Attribute o name apos) [] [] cpos) (tBM0 X.K T r to) := by
  intro pins s σ H Q I h
  refine wpAny_Call_method0_late hbase hline (thn (ho pins s σ H _ I h) fun v s1 ⟨x, H1, I1, r1, ty, q1⟩ => ?_)
  obtain ⟨h1, h2⟩ := tyV_is I1 r1 ty
  exact ⟨T, id, pa, slot, hty, h1, h2, Calls.callWith_builtin rfl (PySem.evalArgs_none (hm pins s1 σ H1 x [] v [] Q I1 r1 .nil q1))⟩
theorem pe_bm (pa : PlainAttrs T) (slot : Slot T name id) (hty : typeOf (.builtin id) = pure (.type "method_descriptor")) (hm : MtR X id r) (ho : PE X o to) (ha : PA X (e :: es) t)
    (hbase : attributeBase o name X.env (eval o X.env) = eval o X.env := by rfl)
    (hfew : ((backTo cpos (starEach (e :: es) X.env)).all (fun x => !x.1) && (backToKw cpos (keywordEach [] X.env)).all (fun x => x.1.isSome)
      && decide ((e :: es).length + ([] : List Keyword).length + (if ([] : List Keyword).isEmpty then 0 else 1) < 30)) = true := by rfl)
    (hline : (apos.endLine == cpos.line) = true := by rfl) (hs : starEach (e :: es) X.env = (false, eval e X.env) :: starEach es X.env := by rfl) (hplain : (backTo cpos (starEach es X.env)).any (·.1) = false := by rfl) :
    PE X (.Call (.Attribute o name apos) (e :: es) [] cpos) (tBM X.K T r to t) := by
  intro pins s σ H Q I h
  refine wpAny_Call_method_late hbase hfew hline rfl (thn (ho pins s σ H _ I h) fun v s1 ⟨x, H1, I1, r1, ty, q1⟩ => ?_)
  obtain ⟨h1, h2⟩ := tyV_is I1 r1 ty
  refine ⟨T, id, pa, slot, hty, h1, h2, ?_⟩
  have hA := ha cpos pins s1 σ H1 _ I1 q1
  rw [hs] at hA ⊢
  refine Calls.callWith_builtin (by show (false || (backTo cpos (starEach es X.env)).any (·.1)) = false; rw [hplain] <;> rfl) (Calls.evalArgs_plain ?_)
  exact thn hA fun us s2 ⟨vs, H2, I2, r2, q2⟩ => hm pins s2 σ H2 x vs v us Q I2 r1 r2 q2
/- xs.append(e), list.index on a module's tuple .. are MtR facts of 06m -/
end
end L2

namespace L2
open PySem PySem.Spec PyProof.Rows

def MtM (X : Cx) (id : String) (r : V → List V → Hp → VK → Prop) : Prop :=
  ∀ (pins : List (Addr × Obj)) (s : Shared) (σ : St) (H : Hp) (x : V) (xs : List V) (v : Value) (us : List Value) (Q : VK), Inv X pins σ H s → RelV x v → Vals xs us → r x xs H Q →
    wpAny (model X.prog X.w) X.A (call (.builtin id) (v :: us)) (EP X pins σ Q) X.xe s

/-! ### lists of values -/
theorem Vals.one : ∀ {x : V} {us : List Value}, Vals [x] us → ∃ u, us = [u] ∧ RelV x u
  | _, _, .cons r .nil => ⟨_, rfl, r⟩
theorem Vals.two : ∀ {x y : V} {us : List Value}, Vals [x, y] us → ∃ u v, us = [u, v] ∧ RelV x u ∧ RelV y v
  | _, _, _, .cons r (.cons q .nil) => ⟨_, _, rfl, r, q⟩
theorem Vals.zero : ∀ {us : List Value}, Vals [] us → us = []
  | _, .nil => rfl
theorem Vals.dropLast {xs : List V} {us : List Value} (h : Vals xs us) : Vals xs.dropLast us.dropLast := by
  induction h with
  | nil => exact .nil
  | cons r t ih =>
    cases t with
    | nil => exact .nil
    | cons q t' => exact .cons r ih
theorem Vals.eraseIdx : ∀ {xs : List V} {us : List Value} (i : Nat), Vals xs us → Vals (xs.eraseIdx i) (us.eraseIdx i)
  | _, _, _, .nil => .nil
  | _, _, 0, .cons _ t => t
  | _, _, i + 1, .cons r t => .cons r (Vals.eraseIdx i t)
theorem Vals.reverse {xs : List V} {us : List Value} (h : Vals xs us) : Vals xs.reverse us.reverse := by
  induction h with
  | nil => exact .nil
  | cons r t ih => rw [List.reverse_cons, List.reverse_cons]; exact Vals.append ih (.cons r .nil)
theorem Vals.rep {xs : List V} {us : List Value} (h : Vals xs us) : ∀ k : Nat, Vals (List.replicate k xs).flatten (List.replicate k us).flatten
  | 0 => .nil
  | k + 1 => by
    rw [List.replicate_succ, List.replicate_succ, List.flatten_cons, List.flatten_cons]
    exact Vals.append h (Vals.rep h k)
theorem erase_last {α : Type} (l : List α) : l.eraseIdx (l.length - 1) = l.dropLast := by
  induction l with
  | nil => rfl
  | cons a r ih =>
    cases r with
    | nil => rfl
    | cons b r =>
      have e : (a :: b :: r).length - 1 = ((b :: r).length - 1) + 1 := by
        have h1 : (a :: b :: r).length = r.length + 2 := rfl
        have h2 : (b :: r).length = r.length + 1 := rfl
        omega
      rw [e, List.eraseIdx_cons_succ, ih]
      all_goals rfl
theorem len_erase {α : Type} : ∀ (l : List α) (i : Nat), (l.eraseIdx i).length ≤ l.length
  | [], _ => Nat.le_refl _
  | _ :: _, 0 => Nat.le_succ _
  | _ :: r, i + 1 => Nat.succ_le_succ (len_erase r i)
theorem foldl_rep (its : List Value) : ∀ (k : Nat) (acc : List Value),
    List.foldl (fun x1 x2 => x1 ++ x2) acc.toArray (List.replicate k its.toArray) = (acc ++ (List.replicate k its).flatten).toArray
  | 0, acc => by simp
  | k + 1, acc => by
    have e : acc.toArray ++ its.toArray = (acc ++ its).toArray := by simp
    have e2 : (acc ++ its) ++ (List.replicate k its).flatten = acc ++ (List.replicate (k + 1) its).flatten := by
      rw [List.replicate_succ, List.flatten_cons, List.append_assoc]
    rw [← e2, ← foldl_rep its k (acc ++ its), ← e, List.replicate_succ, List.foldl_cons]

section
variable {X : Cx} {pins : List (Addr × Obj)} {σ : St} {H : Hp} {s : Shared} {l b : Addr} {xs ys zs : List V}

/-! ### the two steps: a tracked list is rewritten, a new list is laid -/
theorem Inv.lset {its its' : List Value} {n : Nat} {f : Array Value → Array Value} {t' : Nat} (I : Inv X pins σ H s) (hH : H l = some (.lst xs))
    (e : s.heap.get? l = some { cls := .type "list", data := .seq its.toArray n }) (hf : f its.toArray = its'.toArray) (hv : Vals ys its') (hz : ys.length ≤ sizeLine) :
    Inv X pins σ (upd H l (.lst ys)) { s with heap := s.heap.update l (Obj.mapSeq f), toks := t' } := by
  have q := PySem.IsL.update e f
  rw [hf] at q
  refine I.write (x := l) (e := l) (by rw [hH]; exact trivial) (.inl rfl) (fun b' u hb hu => (Heap.get?_update_other s.heap (Obj.mapSeq f) (Ne.symm hb)).trans hu) ⟨_, q⟩ ?_
  exact ⟨hz, its', _, hv, q⟩
theorem Inv.lnew {its : List Value} {t' : Nat} (I : Inv X pins σ H s) (hv : Vals ys its) (hz : ys.length ≤ sizeLine) :
    Inv X pins σ (upd H s.heap.objs.size (.lst ys)) { s with heap := s.heap.push { cls := .type "list", data := .seq its.toArray }, toks := t' } :=
  I.laid (fun _ _ q => Heap.get?_push_of_some _ q) (Nat.le_refl _) ⟨hz, its, 0, hv, Heap.get?_push_size _ rfl⟩
theorem Inv.fresh (I : Inv X pins σ H s) : H s.heap.objs.size = none := I.hok.fresh (Nat.le_refl _)
theorem Inv.lstM (I : Inv X pins σ H s) (hH : H l = some (.lst xs)) : xs.length ≤ sizeLine ∧ ∃ (its : List Value) (n : Nat), Vals xs its ∧ xs.length = its.length ∧ s.heap.get? l = some { cls := .type "list", data := .seq its.toArray n } := by
  obtain ⟨z, its, n, r, e⟩ := I.hok l _ hH
  exact ⟨z, its, n, r, r.length, e⟩

theorem notLongL {n : Nat} (h : n ≤ sizeLine) : Builtin.List.listTooLong n = false := by
  unfold Builtin.List.listTooLong
  exact decide_eq_false (by omega)
end

section
variable {X : Cx}

/-! ### methods -/
def rAppend : V → List V → Hp → VK → Prop := fun x vs H Q => ∃ l xs y, x = .ref l ∧ vs = [y] ∧ H l = some (.lst xs) ∧ xs.length < sizeLine ∧ Q .non (upd H l (.lst (xs ++ [y])))
theorem mt_append : MtM X "list.append" rAppend := by
  intro pins s σ H x vs v us Q I rx rv h
  obtain ⟨l, xs, y, rfl, rfl, hH, hz, q⟩ := h
  cases rx
  obtain ⟨u, rfl, ru⟩ := rv.one
  obtain ⟨z, its, n, r, hl, e⟩ := I.lstM hH
  refine call_meets F.slot_list_append ⟨_, e, rfl⟩ F.entry_list_append (F.args_list_append_2 _ _) (PySem.list_append l its.toArray n u (by rw [List.size_toArray]; omega)) ⟨e, ?_⟩
  refine ⟨.non, _, I.lset (its' := its ++ [u]) hH e (by simp) (r.append (.cons ru .nil)) ?_, rfl, q⟩
  rw [List.length_append, List.length_singleton]
  omega

def rExtend : V → List V → Hp → VK → Prop := fun x vs H Q => ∃ l b xs zs, x = .ref l ∧ vs = [.ref b] ∧ H l = some (.lst xs) ∧ H b = some (.lst zs) ∧ xs.length + zs.length ≤ sizeLine ∧ Q .non (upd H l (.lst (xs ++ zs)))
theorem mt_extend : MtM X "list.extend" rExtend := by
  intro pins s σ H x vs v us Q I rx rv h
  obtain ⟨l, b, xs, zs, rfl, rfl, hH, hB, hz, q⟩ := h
  cases rx
  obtain ⟨u, rfl, ru⟩ := rv.one
  cases ru
  obtain ⟨z, its, n, r, hl, e⟩ := I.lstM hH
  obtain ⟨z2, its2, n2, r2, hl2, e2⟩ := I.lstM hB
  have hsz : its.toArray.size + its2.toArray.size ≤ sizeLine := by rw [List.size_toArray, List.size_toArray]; omega
  have hlong : ¬ (!its.toArray.isEmpty && Builtin.List.listTooLong (its.toArray.size + its2.toArray.size)) = true := by
    rw [notLongL hsz, Bool.and_false]
    exact Bool.false_ne_true
  refine call_meets F.slot_list_extend ⟨_, e, rfl⟩ F.entry_list_extend (F.args_list_extend_2 _ _)
    (AutoSeq1.list_extend_list_list_0 l its.toArray n b its2.toArray n2 hlong (by rw [List.size_toArray]; omega) (by omega)) ⟨e, e2, ?_⟩
  refine ⟨.non, _, I.lset (its' := its ++ its2) hH e (by simp) (r.append r2) ?_, rfl, q⟩
  rw [List.length_append]
  omega

def rPop : V → List V → Hp → VK → Prop := fun x vs H Q => ∃ l xs y, x = .ref l ∧ vs = [] ∧ H l = some (.lst xs) ∧ xs[xs.length - 1]? = some y ∧ Q y (upd H l (.lst xs.dropLast))
theorem mt_pop : MtM X "list.pop" rPop := by
  intro pins s σ H x vs v us Q I rx rv h
  obtain ⟨l, xs, y, rfl, rfl, hH, hy, q⟩ := h
  cases rx
  have hus := rv.zero
  subst hus
  obtain ⟨z, its, n, r, hl, e⟩ := I.lstM hH
  obtain ⟨u, hu, ru⟩ := r.get hy
  have hy' : its.toArray[its.toArray.size - 1]? = some u := by
    show its.toArray[its.length - 1]? = some u
    rw [← Array.getElem?_toList, ← hl]
    exact hu
  refine call_meets F.slot_list_pop ⟨_, e, rfl⟩ F.entry_list_pop (F.args_list_pop_1 _) (MeetsSeq.list_pop_last l its.toArray n u hy' (by rw [List.size_toArray]; omega)) ⟨e, ?_⟩
  refine ⟨y, _, I.lset (its' := its.dropLast) hH e ?_ r.dropLast ?_, ru, q⟩
  · show its.toArray.eraseIdxIfInBounds (its.toArray.size - 1) = its.dropLast.toArray
    rw [List.size_toArray, List.eraseIdxIfInBounds_toArray, erase_last]
  · rw [List.length_dropLast]
    omega

def rPopAt : V → List V → Hp → VK → Prop := fun x vs H Q => ∃ l xs i k y, x = .ref l ∧ vs = [.int i] ∧ H l = some (.lst xs) ∧ -(2 ^ 63) ≤ i ∧ i < 2 ^ 63 ∧ seqIndex? i xs.length = some k ∧ xs[k]? = some y ∧ Q y (upd H l (.lst (xs.eraseIdx k)))
theorem mt_popAt : MtM X "list.pop" rPopAt := by
  intro pins s σ H x vs v us Q I rx rv h
  obtain ⟨l, xs, i, k, y, rfl, rfl, hH, h1, h2, hk, hy, q⟩ := h
  cases rx
  obtain ⟨u, rfl, ru⟩ := rv.one
  obtain ⟨t, rfl⟩ := ru
  obtain ⟨z, its, n, r, hl, e⟩ := I.lstM hH
  obtain ⟨w, hw, rw'⟩ := r.get hy
  refine call_meets F.slot_list_pop ⟨_, e, rfl⟩ F.entry_list_pop (F.args_list_pop_2 _ _)
    (MeetsSeq.list_pop_at l its.toArray n i t k w (fitsIndex_both h1 h2) (by rw [List.size_toArray, ← hl]; exact hk) (by rw [← Array.getElem?_toList]; exact hw) (by rw [List.size_toArray]; omega)) ⟨e, ?_⟩
  refine ⟨y, _, I.lset (its' := its.eraseIdx k) hH e ?_ (r.eraseIdx k) ?_, rw', q⟩
  · show its.toArray.eraseIdxIfInBounds k = (its.eraseIdx k).toArray
    rw [List.eraseIdxIfInBounds_toArray]
  · have := len_erase xs k
    omega

def rReverse : V → List V → Hp → VK → Prop := fun x vs H Q => ∃ l xs, x = .ref l ∧ vs = [] ∧ H l = some (.lst xs) ∧ Q .non (upd H l (.lst xs.reverse))
theorem mt_reverse : MtM X "list.reverse" rReverse := by
  intro pins s σ H x vs v us Q I rx rv h
  obtain ⟨l, xs, rfl, rfl, hH, q⟩ := h
  cases rx
  have hus := rv.zero
  subst hus
  obtain ⟨z, its, n, r, hl, e⟩ := I.lstM hH
  refine call_meets F.slot_list_reverse ⟨_, e, rfl⟩ F.entry_list_reverse (F.args_list_reverse_1 _) (AutoSeq1.list_reverse_list_0 l its.toArray n (by rw [List.size_toArray]; omega)) ⟨e, ?_⟩
  refine ⟨.non, _, I.lset (its' := its.reverse) hH e (by simp) r.reverse ?_, rfl, q⟩
  rw [List.length_reverse]
  omega

def rClear : V → List V → Hp → VK → Prop := fun x vs H Q => ∃ l xs, x = .ref l ∧ vs = [] ∧ H l = some (.lst xs) ∧ Q .non (upd H l (.lst []))
theorem mt_clear : MtM X "list.clear" rClear := by
  intro pins s σ H x vs v us Q I rx rv h
  obtain ⟨l, xs, rfl, rfl, hH, q⟩ := h
  cases rx
  have hus := rv.zero
  subst hus
  obtain ⟨z, its, n, r, hl, e⟩ := I.lstM hH
  refine call_meets F.slot_list_clear ⟨_, e, rfl⟩ F.entry_list_clear (F.args_list_clear_1 _) (AutoSeq1.list_clear_list_0 l its.toArray n (by rw [List.size_toArray]; omega)) ⟨e, ?_⟩
  exact ⟨.non, _, I.lset (its' := []) (ys := []) hH e rfl .nil (Nat.zero_le _), rfl, q⟩

/-! ### list + list, list += list, list * int -/
def rCat : R2 := fun x y H Q => ∃ l b xs zs, x = .ref l ∧ y = .ref b ∧ H l = some (.lst xs) ∧ H b = some (.lst zs) ∧ xs.length + zs.length ≤ sizeLine ∧ ∀ p, H p = none → Q (.ref p) (upd H p (.lst (xs ++ zs)))
theorem op_cat : OpR X (binaryOp .Add) rCat := by
  intro pins s σ H x y v u Q I rx ry h
  obtain ⟨l, b, xs, zs, rfl, rfl, hH, hB, hz, q⟩ := h
  cases rx
  cases ry
  obtain ⟨z, its, n, r, hl, e⟩ := I.lstM hH
  obtain ⟨z2, its2, n2, r2, hl2, e2⟩ := I.lstM hB
  refine PySem.P.add_list e e2 ?_ (by rw [List.size_toArray, List.size_toArray]; omega)
  have ea : its.toArray ++ its2.toArray = (its ++ its2).toArray := by simp
  rw [ea]
  exact ⟨.ref _, _, I.lnew (t' := s.toks) (r.append r2) (by rw [List.length_append]; omega), rfl, q _ I.fresh⟩
/-- a list times an int (a negative one is nothing) -/
def rRep : R2 := fun x y H Q => ∃ l k xs, x = .ref l ∧ y = .int k ∧ H l = some (.lst xs) ∧ -(2 ^ 63) ≤ k ∧ k < 2 ^ 63 ∧ xs.length * k.toNat ≤ sizeLine ∧
  ∀ p, H p = none → Q (.ref p) (upd H p (.lst (List.replicate k.toNat xs).flatten))
theorem len_rep {α : Type} (xs : List α) (k : Nat) : (List.replicate k xs).flatten.length = k * xs.length := by
  induction k with
  | zero => simp
  | succ k ih => rw [List.replicate_succ, List.flatten_cons, List.length_append, ih, Nat.succ_mul, Nat.add_comm]
theorem op_rep : OpR X (binaryOp .Mult) rRep := by
  intro pins s σ H x y v u Q I rx ry h
  obtain ⟨l, k, xs, rfl, rfl, hH, h1, h2, hz, q⟩ := h
  cases rx
  obtain ⟨t, rfl⟩ := ry
  obtain ⟨z, its, n, r, hl, e⟩ := I.lstM hH
  have hlen : its.toArray.size * k.toNat ≤ sizeLine := by rw [List.size_toArray, ← hl]; exact hz
  have hcap : ¬ its.toArray.size * k.toNat > (2 ^ 63 - 1) / 8 := by
    have : (sizeLine : Nat) ≤ (2 ^ 63 - 1) / 8 := by decide
    omega
  have hfit : ¬ (!Builtin.List.listFitsIndex k) = true := by
    rw [fitsIndex_both h1 h2]
    exact Bool.false_ne_true
  have hlong : ¬ Builtin.List.listTooLong (its.toArray.size * k.toNat) = true := by
    rw [notLongL hlen]
    exact Bool.false_ne_true
  have hnew : List.foldl (fun x1 x2 => x1 ++ x2) #[] (List.replicate (if its.toArray.isEmpty = true then 0 else k.toNat) its.toArray) = (List.replicate k.toNat its).flatten.toArray := by
    have f0 : ∀ m : Nat, List.foldl (fun x1 x2 => x1 ++ x2) #[] (List.replicate m its.toArray) = (List.replicate m its).flatten.toArray := fun m => by
      have := foldl_rep its m []
      rw [List.nil_append] at this
      exact this
    rw [f0]
    cases its with
    | nil => simp
    | cons a r' => rw [if_neg (by simp)]
  refine wpAny_binaryOp_repeat_ref (T := "list") (U := "int") (by decide) ⟨_, e, rfl⟩ (fun s' => typeIs_int s' k t) noFill_list_mul F.fills_int_mul F.slot_int_rmul repeat_list F.slot_int_index.lookup
    (call_meets F.slot_int_rmul (typeIs_int s k t) F.entry_int_rmul (F.args_int_rmul_2 _ _) (int___rmul___int_list k t l its.toArray n)
      ⟨e, rfl, ⟨_, e, rfl⟩, call_meets F.slot_list_mul ⟨_, e, rfl⟩ F.entry_list_mul (F.args_list_mul_2 _ _) (AutoListH.list___mul___list_int_3 l its.toArray n k t hfit hcap hlong) ⟨e, ?_⟩⟩)
  rw [hnew]
  exact ⟨.ref _, _, I.lnew (t' := s.toks) (r.rep k.toNat) (by rw [len_rep, Nat.mul_comm]; exact hz), rfl, q _ I.fresh⟩

/-! ### del xs[i] -/
theorem del_list {pins : List (Addr × Obj)} {s : Shared} {σ : St} {H : Hp} {l : Addr} {xs : List V} {i : Int} {t : Tok} {k : Nat} {Q : Unit → Shared → Prop} (I : Inv X pins σ H s) (hH : H l = some (.lst xs))
    (h1 : -(2 ^ 63) ≤ i) (h2 : i < 2 ^ 63) (hk : seqIndex? i xs.length = some k) (h : ∀ s', Inv X pins σ (upd H l (.lst (xs.eraseIdx k))) s' → Q () s') :
    wpAny (model X.prog X.w) X.A (delItem (.ref l) (.int i t)) Q X.xe s := by
  obtain ⟨z, its, n, r, hl, e⟩ := I.lstM hH
  refine PySem.P.delItem_list (k := k) e (fitsIndex_both h1 h2) (by rw [List.size_toArray, ← hl]; exact hk) (h _ ?_) (by rw [List.size_toArray]; omega)
  refine I.lset (its' := its.eraseIdx k) (t' := s.toks) hH e ?_ (r.eraseIdx k) ?_
  · show its.toArray.eraseIdxIfInBounds k = (its.eraseIdx k).toArray
    rw [List.eraseIdxIfInBounds_toArray]
  · have := len_erase xs k
    omega
end

/-! ### xs[a:b] = ys -/
section
variable {prog : Program} {w : World} {A : Around} {E : Value → Shared → Prop} {s : Shared}
theorem splice_eq (its its2 : List Value) (a c : Nat) : its.toArray.extract 0 a ++ its2.toArray ++ its.toArray.extract c its.toArray.size = (its.take a ++ its2 ++ its.drop c).toArray := by
  apply Array.toList_inj.mp
  first
    | (simp
       exact List.take_of_length_le (by simp))
    | simp [List.take_of_length_le]
    | simp
theorem bounds_run {a c n : Nat} (hac : a ≤ c) (hc : c ≤ n) : sliceBounds (some (a : Int)) (some (c : Int)) none n = ((a : Int), (c : Int), 1) := by
  simp only [sliceBounds, Option.getD_none]
  have h1 : ¬ ((a : Int) < 0) := by omega
  have h2 : ¬ ((c : Int) < 0) := by omega
  simp only [h1, h2, if_false, show (1 : Int) > 0 by decide, if_true]
  congr 1
  · omega
  · congr 1; omega
set_option maxRecDepth 100000 in
/-- list.__setitem__ with a slice of step one and another list -/
theorem setItem_slice {l b sl : Addr} {items new : Array Value} {n n2 : Nat} {vl vu : Value} {a c : Nat} {Q : Unit → Shared → Prop}
    (e : s.heap.get? l = some { cls := .type "list", data := .seq items n }) (e2 : s.heap.get? b = some { cls := .type "list", data := .seq new n2 }) (hne : l ≠ b)
    (hs : s.heap.IsSliceOf sl vl vu .none) (pl : IsPart vl (some (a : Int))) (pu : IsPart vu (some (c : Int))) (hac : a ≤ c) (hc : c ≤ items.size)
    (hsz : items.size + new.size ≤ sizeLine) (h : Q () { s with heap := s.heap.update l (Obj.mapSeq fun xs => xs.extract 0 a ++ new ++ xs.extract c xs.size) }) :
    wpAny (model prog w) A (setItem (.ref l) (.ref sl) (.ref b)) Q E s := by
  have hl : s.heap.IsList l items := PySem.IsL.isList e
  have hb : s.heap.IsList b new := PySem.IsL.isList e2
  obtain ⟨os, hos, hcs, hds⟩ := id hs
  have hTs : s.TypeIs (.ref sl) "slice" := ⟨os, hos, hcs⟩
  have hstep : ¬ ((rawPart none == rawInt 0) = true) := Bool.false_ne_true
  have hsame : Builtin.List.listSameRef (.ref l) (.ref b) = false := by
    unfold Builtin.List.listSameRef
    exact beq_eq_false_iff_ne.mpr hne
  have hmax : (max (a : Int) (c : Int)).toNat = c := by omega
  have hz' : ((fun xs : Array Value => xs.extract 0 a ++ new ++ xs.extract c xs.size) items).size ≤ sizeLine + 1 := by
    simp only [Array.size_append, Array.size_extract]
    omega
  unfold setItem
  try with_reducible refine wpAny_holding ?_
  first | refine wpAny_bind (wpAny_pure ?_) | skip
  refine wpAny_bind (wpAny_sequenceKey hl.typeIs (by decide) ?_)
  refine wpAny_bind (wpAny_callSpecial?_slot (name := Str.ofString "__setitem__") hl.typeIs slot_list_setitem
    (wpAny_call_entry slot_list_setitem hl.typeIs entry_list_setitem ?_ (args_list_setitem _ _ _)))
  show wpAny _ _ (Builtin.List.listSubscript? (.ref sl) >>= _) _ _ s
  refine wpAny_bind ?_
  unfold Builtin.List.listSubscript?
  refine wpAny_bind (wpAny_specialOf hTs slice_no_index ?_)
  simp only [Option.isNone_none, if_true]
  refine wpAny_pure ?_
  show wpAny _ _ (typeOf (.ref sl) >>= _) _ _ s
  refine wpAny_bind (wpAny_typeOf hTs ?_)
  first
    | rw [if_neg (by decide)]
    | refine PySem.W.KFB.if_not (by decide) ?_
  rw [listSliceParts_eq]
  refine wpAny_bind (wpAny_bind (wpAny_field hos hds (x := .none) rfl (wpAny_bind (wpAny_listPart .none ?_))))
  rw [if_neg hstep]
  refine wpAny_bind (wpAny_field hos hds (x := vl) rfl (wpAny_bind (wpAny_listPart pl ?_)))
  refine wpAny_bind (wpAny_field hos hds (x := vu) rfl (wpAny_bind (wpAny_listPart pu (wpAny_pure ?_))))
  first
    | simp only [hsame, Bool.false_eq_true, if_false]
    | refine PySem.W.KFB.if_not hsame ?_
    | (dsimp only
       rw [if_neg (by rw [hsame]; exact Bool.false_ne_true)])
  refine wpAny_bind (m := Builtin.List.listAllItems (.ref b) "must assign iterable to extended slice") ?_
  unfold Builtin.List.listAllItems
  refine wpAny_bind (wpAny_typeOf hb.typeIs ?_)
  first
    | refine PySem.W.KFB.if_so (by decide) ?_
    | rw [if_pos (by decide)]
    | simp only [beq_self_eq_true, Bool.true_or, if_true]
  unfold Builtin.List.listItems
  refine wpAny_bind (wpAny_seqItems e2 rfl (wpAny_pure ?_))
  refine wpAny_bind (wpAny_bind (wpAny_seqItems e rfl (wpAny_pure ?_)))
  refine wpAny_bind (wpAny_of_eq ((sliceIndices_raw (some (a : Int)) (some (c : Int)) none items.size (by simp)).trans (congrArg (pure : Int × Int × Int → Sem (Int × Int × Int)) (bounds_run hac hc))) ?_)
  show wpAny _ _ (if ((1 : Int) == 1) = true then _ else _) _ _ s
  rw [if_pos (by decide)]
  refine wpAny_bind (wpAny_rule ?_)
  first
    | simp only [notLongL hsz, Bool.false_eq_true, if_false]
    | refine PySem.W.KFB.if_not (notLongL hsz) ?_
  first | refine wpAny_bind (wpAny_pure ?_) | skip
  show wpAny _ _ (updateSeq l (fun xs => xs.extract 0 ((a : Int)).toNat ++ new ++ xs.extract (max (a : Int) (c : Int)).toNat xs.size) >>= _) _ _ s
  rw [hmax, Int.toNat_natCast]
  refine wpAny_bind (wpAny_updateSeq (hz := Nat.le_trans (Nat.le_add_right _ _) hsz) (_hz' := hz') e rfl ?_)
  refine wpAny_bind (wpAny_letGo ?_)
  first
    | exact wpAny_bind (wpAny_pure (wpAny_pure ⟨.none, rfl, wpAny_pure h⟩))
    | exact wpAny_pure ⟨.none, rfl, wpAny_pure h⟩
end

section
variable {X : Cx}
/-- xs[a:c] = ys of another list, at the value level: sl is the slice object that was just made -/
theorem set_slice {pins : List (Addr × Obj)} {s : Shared} {σ : St} {H : Hp} {l b sl : Addr} {xs ys : List V} {a c : Int} {vl vu : Value} {Q : Unit → Shared → Prop} (I : Inv X pins σ H s)
    (hH : H l = some (.lst xs)) (hB : H b = some (.lst ys)) (hne : l ≠ b) (hs : s.heap.IsSliceOf sl vl vu .none) (ra : RelV (.int a) vl) (rc : RelV (.int c) vu) (h0 : 0 ≤ a) (hac : a ≤ c) (hc : c ≤ xs.length)
    (hz : xs.length + ys.length ≤ sizeLine) (h : ∀ s', Inv X pins σ (upd H l (.lst (xs.take a.toNat ++ ys ++ xs.drop c.toNat))) s' → Q () s') :
    wpAny (model X.prog X.w) X.A (setItem (.ref l) (.ref sl) (.ref b)) Q X.xe s := by
  obtain ⟨ta, rfl⟩ := ra
  obtain ⟨tc, rfl⟩ := rc
  obtain ⟨z, its, n, r, hl, e⟩ := I.lstM hH
  obtain ⟨z2, its2, n2, r2, hl2, e2⟩ := I.lstM hB
  obtain ⟨a', rfl⟩ := Int.eq_ofNat_of_zero_le h0
  obtain ⟨c', rfl⟩ := Int.eq_ofNat_of_zero_le (Int.le_trans h0 hac)
  simp only [Int.toNat_natCast] at h
  refine setItem_slice (a := a') (c := c') e e2 hne hs (.int _ _) (.int _ _) (by omega) (by rw [List.size_toArray]; omega) (by rw [List.size_toArray, List.size_toArray]; omega) (h _ ?_)
  refine I.lset (its' := its.take a' ++ its2 ++ its.drop c') (t' := s.toks) hH e ?_ (Vals.append (Vals.append (r.take _) r2) (r.drop _)) ?_
  · exact splice_eq its its2 a' c'
  · rw [List.length_append, List.length_append, List.length_take, List.length_drop]
    omega
end
end L2

namespace Att
open PySem PySem.W PySem.Calls PyProof.Rows

/-! ### the script -/
theorem ints_of_wellAll {P : Params} {h : Heap} : ∀ (ns : List Int) (vs : List Value), WellAll P h vs (ns.map WData.int) → IntsAre vs ns := by
  intro ns
  induction ns with
  | nil =>
    intro vs w
    rw [List.map_nil] at w
    cases w
    exact .nil
  | cons n ns ih =>
    intro vs w
    rw [List.map_cons] at w
    cases w with
    | cons a b =>
      cases a
      exact .cons _ _ (ih _ b)

theorem script_of {l : OpenLaw} {n : Nat} (hn : l.most = some n) {P : Params} {h : Heap} {args : List WData} {vals : List Value}
    (hpre : l.row.toRowW.claim.pre args = true) (hwl : WellAll P h vals args) :
    ∃ a vs ns, vals = [Value.ref a] ∧ args = [WData.list (ns.map WData.int)] ∧ h.get? a = some { cls := .type "list", data := .seq vs.toArray } ∧ IntsAre vs ns ∧ ns.length ≤ n := by
  have hsh : WShape.hasAll [] args [.list .int] = true := (pre_splitW hpre).1
  have hc : l.pre.holds [] { args := args } = true := (pre_splitW hpre).2
  obtain ⟨d, r, rfl, h1, h2⟩ := hasAllW_cons hsh
  obtain rfl := hasAllW_nil h2
  obtain ⟨xs, rfl, h3⟩ := hasW_list h1
  obtain ⟨ns, rfl⟩ := items_int h3
  have hlen : ns.length ≤ n := by
    unfold OpenLaw.pre at hc
    have h4 : (WTm.not (.lt (.lit (.int (n : Int))) (.len (.arg 0)))).holds [] { args := [.list (ns.map .int)] } = true := by
      have h4 := (holds_andW hc).1
      rw [hn] at h4
      exact h4
    have h5 := condW_of h4 (w_not (w_lt w_lit (w_len_list (w_arg rfl))))
    rw [List.length_map] at h5
    refine Nat.le_of_not_lt fun q => ?_
    have q' : (n : Int) < ((ns.length : Nat) : Int) := by omega
    first
      | (rw [decide_eq_true q'] at h5; exact absurd h5 (by decide))
      | (simp at h5; omega)
  cases hwl with
  | cons w1 w2 =>
    cases w2
    cases w1 with
    | list ho hall => exact ⟨_, _, ns, rfl, rfl, ho, ints_of_wellAll ns _ hall, hlen⟩

theorem post_true (l : OpenLaw) (args : List WData) : l.row.toRowW.claim.post args (.bool true) args = true :=
  postW_of (r := l.row.toRowW) (X := (true == true))
    (show WShape.has [] (.bool true) .bool = true by first | rfl | decide | simp [WShape.has, WShape.arms, WShape.armsAll])
    (show (WTm.eq .res (.lit (.bool true))).value [] { args := args, res := some (.bool true), after := args } = some (.bool (true == true)) from w_eq_bool (w_res rfl) w_lit) rfl

/-! ### the attachment: holds_open's last premise (the goal 'hc' behind k_head) from a wpAny of the law's body -/
theorem attach {l : OpenLaw} {n : Nat} {q : Program} {loose : List Str} {XP : (Str → Option Value) → Heap → Prop} {YP : World → Heap → Prop} {d : DefRec} {x : Str}
    (hn : l.most = some n) (hdf : d.params.defaults = [])
    (hbind : ∀ pm cd doc v : Value, bindArgs (docDef d.name d.params d.body d.scope pm cd doc) ⟨[v], []⟩ = pure [(x, v)])
    (hx : d.scope.names.lookup x = some .local ∨ d.scope.names.lookup x = some .cell)
    (hk : d.scope.kind = .function) (hco : d.scope.isCoroutine = false) (hgen : d.scope.isGenerator = false)
    (body : ∀ (w : World) (s₀ s₁ s : Shared) (mg mb : Str → Option Value) (fa : Addr) (o : Obj) (pm cd doc : Value) (a : Addr) (vs : List Value) (ns : List Int),
      Ground q loose [] XP w s₀ mg mb s₁.heap → YP w s₁.heap →
      s₁.heap.get? fa = some o → o.data = .func (docDef d.name d.params d.body d.scope pm cd doc) → s₁.heap.CodeRec cd d.name → mg d.name = some (.ref fa) →
      s₁.heap.get? a = some { cls := .type "list", data := .seq vs.toArray } → IntsAre vs ns → ns.length ≤ n →
      s.gens = #[] → s.os = s₁.os →
      Fr s₁.heap s₁.heap.objs.size s.heap (bindL (envOfC d.name d.scope s₁.heap.objs.size fa cd).kindOf [(x, .ref a)] fun _ => none) →
      Cl s₁.heap.objs.size (cellsFrom (s₁.heap.objs.size + 1) d.scope.names []) s.heap (bindC (envOfC d.name d.scope s₁.heap.objs.size fa cd).kindOf [(x, .ref a)] fun _ => none) →
      wpAny (model l.prog w) (callerA.deeper (envOfC d.name d.scope s₁.heap.objs.size fa cd)) (execs d.body (envOfC d.name d.scope s₁.heap.objs.size fa cd))
        (fun f s' => f = .ret (.bool true) ∧ OldK s₁.heap s'.heap ∧ s'.os = s₁.os ∧ AllBare s'.gens) (fun _ _ => False) s) :
    WalkO q loose XP YP l.row.toRowW d [] (fun f vs => PySem.call f vs) := by
  intro w s₀ s₁ mg mb G Y fa o pm cd doc dV kV ho hd hcd hD hmg hg args vals as hpre hlay hrd hwl hlo
  obtain rfl : dV = .none := Dflts.none hD hdf
  obtain rfl : kV = .none := Dflts.noKw hD
  obtain ⟨a, vs, ns, rfl, rfl, hobj, hints, hlen⟩ := script_of hn hpre hwl
  refine enter_call ?_
  refine call_cells_ret (o := o) (by rw [depth_caller]; decide) ho (fd_plain hd) G.T.nolimit hcd (hbind pm cd doc (.ref a)) (fun y hy => ?_) (fun h₁ tk F X => ?_) hco hgen hk
  · obtain rfl : y = (x, Value.ref a) := List.mem_singleton.mp hy
    rcases hx with e | e
    · exact .inl e
    · exact .inr ⟨e, cellsFrom_some _ _ _ (.inl e)⟩
  · refine wpAny_mono (body w s₀ s₁ { s₁ with heap := h₁, toks := tk } mg mb fa o pm cd doc a vs ns G Y ho (fd_plain hd) hcd hmg hobj hints hlen hg rfl F X) (fun f s' hq => ?_) (fun _ _ hq => hq)
    obtain ⟨rfl, h2, h3, h4⟩ := hq
    exact ⟨.inl ⟨.bool true, .bool true, [], rfl, fun _ => rfl, .bool true, post_true l _, fun _ => ⟨List.Pairwise.nil, fun _ hm => (nomatch hm)⟩⟩, h2, h3, h4⟩

/-- the same from a codeAny of the CALL (for a layer whose function contracts speak of calls) -/
theorem attach_call {l : OpenLaw} {n : Nat} {q : Program} {loose : List Str} {XP : (Str → Option Value) → Heap → Prop} {YP : World → Heap → Prop} {d : DefRec}
    (hn : l.most = some n) (hdf : d.params.defaults = [])
    (call : ∀ (w : World) (s₀ s₁ : Shared) (mg mb : Str → Option Value) (fa : Addr) (o : Obj) (pm cd doc : Value) (a : Addr) (vs : List Value) (ns : List Int),
      Ground q loose [] XP w s₀ mg mb s₁.heap → YP w s₁.heap →
      s₁.heap.get? fa = some o → o.data = .func (docDef d.name d.params d.body d.scope pm cd doc) → s₁.heap.CodeRec cd d.name → mg d.name = some (.ref fa) →
      s₁.heap.get? a = some { cls := .type "list", data := .seq vs.toArray } → IntsAre vs ns → ns.length ≤ n → s₁.gens = #[] →
      codeAny (model l.prog w) callerA (.call (.ref fa) ⟨[.ref a], []⟩) (fun r s' => r = .ok (.ret (.bool true)) ∧ OldK s₁.heap s'.heap ∧ s'.os = s₁.os ∧ AllBare s'.gens) s₁) :
    WalkO q loose XP YP l.row.toRowW d [] (fun f vs => PySem.call f vs) := by
  intro w s₀ s₁ mg mb G Y fa o pm cd doc dV kV ho hd hcd hD hmg hg args vals as hpre hlay hrd hwl hlo
  obtain rfl : dV = .none := Dflts.none hD hdf
  obtain rfl : kV = .none := Dflts.noKw hD
  obtain ⟨a, vs, ns, rfl, rfl, hobj, hints, hlen⟩ := script_of hn hpre hwl
  refine enter_call (codeAny_mono (call w s₀ s₁ mg mb fa o pm cd doc a vs ns G Y ho (fd_plain hd) hcd hmg hobj hints hlen hg) fun r s' hq => ?_)
  obtain ⟨rfl, h2, h3, h4⟩ := hq
  exact ⟨.inl ⟨.bool true, .bool true, [], rfl, fun _ => rfl, .bool true, post_true l _, fun _ => ⟨List.Pairwise.nil, fun _ hm => (nomatch hm)⟩⟩, h2, h3, h4⟩

/-- the same where the top left finished generators (o_head chose holds_openN): nothing may have changed at all and no generator may be left -/
theorem attachN {l : OpenLaw} {n : Nat} {q : Program} {loose : List Str} {XP : (Str → Option Value) → Heap → Prop} {YP : World → Heap → Prop} {d : DefRec} {x : Str}
    (hn : l.most = some n) (hdf : d.params.defaults = [])
    (hbind : ∀ pm cd doc v : Value, bindArgs (docDef d.name d.params d.body d.scope pm cd doc) ⟨[v], []⟩ = pure [(x, v)])
    (hx : d.scope.names.lookup x = some .local ∨ d.scope.names.lookup x = some .cell)
    (hk : d.scope.kind = .function) (hco : d.scope.isCoroutine = false) (hgen : d.scope.isGenerator = false)
    (body : ∀ (w : World) (s₀ s₁ s : Shared) (mg mb : Str → Option Value) (fa : Addr) (o : Obj) (pm cd doc : Value) (a : Addr) (vs : List Value) (ns : List Int),
      Ground q loose [] XP w s₀ mg mb s₁.heap → YP w s₁.heap →
      s₁.heap.get? fa = some o → o.data = .func (docDef d.name d.params d.body d.scope pm cd doc) → s₁.heap.CodeRec cd d.name → mg d.name = some (.ref fa) →
      s₁.heap.get? a = some { cls := .type "list", data := .seq vs.toArray } → IntsAre vs ns → ns.length ≤ n →
      s.gens = #[] → s.os = s₁.os →
      Fr s₁.heap s₁.heap.objs.size s.heap (bindL (envOfC d.name d.scope s₁.heap.objs.size fa cd).kindOf [(x, .ref a)] fun _ => none) →
      Cl s₁.heap.objs.size (cellsFrom (s₁.heap.objs.size + 1) d.scope.names []) s.heap (bindC (envOfC d.name d.scope s₁.heap.objs.size fa cd).kindOf [(x, .ref a)] fun _ => none) →
      wpAny (model l.prog w) (callerA.deeper (envOfC d.name d.scope s₁.heap.objs.size fa cd)) (execs d.body (envOfC d.name d.scope s₁.heap.objs.size fa cd))
        (fun f s' => f = .ret (.bool true) ∧ (∀ b o, s₁.heap.get? b = some o → s'.heap.get? b = some o) ∧ s'.os = s₁.os ∧ s'.gens = #[]) (fun _ _ => False) s) :
    WalkN q loose XP YP l.row.toRowW d [] (fun f vs => PySem.call f vs) := by
  intro w s₀ s₁ mg mb G Y fa o pm cd doc dV kV ho hd hcd hD hmg hg args vals as hpre hlay hrd hwl hlo
  obtain rfl : dV = .none := Dflts.none hD hdf
  obtain rfl : kV = .none := Dflts.noKw hD
  obtain ⟨a, vs, ns, rfl, rfl, hobj, hints, hlen⟩ := script_of hn hpre hwl
  refine enter_callW ?_
  refine call_cells_ret (o := o) (by rw [depth_caller]; decide) ho (fd_plain hd) G.T.nolimit hcd (hbind pm cd doc (.ref a)) (fun y hy => ?_) (fun h₁ tk F X => ?_) hco hgen hk
  · obtain rfl : y = (x, Value.ref a) := List.mem_singleton.mp hy
    rcases hx with e | e
    · exact .inl e
    · exact .inr ⟨e, cellsFrom_some _ _ _ (.inl e)⟩
  · refine wpAny_mono (body w s₀ s₁ { s₁ with heap := h₁, toks := tk } mg mb fa o pm cd doc a vs ns G Y ho (fd_plain hd) hcd hmg hobj hints hlen hg rfl F X) (fun f s' hq => ?_) (fun _ _ hq => hq)
    obtain ⟨rfl, h2, h3, h4⟩ := hq
    exact ⟨.inl ⟨.bool true, .bool true, [], rfl, fun _ => rfl, .bool true, post_true l _, fun _ => ⟨List.Pairwise.nil, fun _ hm => (nomatch hm)⟩⟩, h2, h3, h4⟩

/-! ### rules over ANY heap (no ledger) from facts about the written part K: the library's own take a ledger (News) for what they write -/
section
variable {prog : Program} {w : World} {A : Around} {E : Value → Shared → Prop} {s : Shared} {K : Frag}

/-- a def of the module, or a method (qual 'C.m'), entered: the frame is the next address; cells behind it -/
theorem call_fn {R : Result → Shared → Prop} {name qual : Str} {params : Arguments} {body : List Stmt} {scope : Scope} {dV kV doc pm cdv ct oc : Value} {an od : Option Addr} {osl : Array (Option Value)} {f : Addr} {args : Args} {binds : List (Str × Value)}
    (X : K.In s.heap) (hlim : s.heap.NoLimit) (ho : K.lookup f = some ⟨oc, od, .func (fnOf name qual params body scope dV kV doc pm an cdv ct), osl⟩) (hcd : codeIn K cdv qual = true) (hroom : A.depth < recursionLimit)
    (hbind : BindsTo s (fnOf name qual params body scope dV kV doc pm an cdv ct) args binds)
    (hkind : (binds.all fun y => scope.names.lookup y.1 == some .local || scope.names.lookup y.1 == some .cell) = true)
    (h : ∀ s₁, InCallC s s.heap.objs.size (bindL (envOfC qual scope s.heap.objs.size f cdv).kindOf binds fun _ => none) (cellsFrom (s.heap.objs.size + 1) scope.names [])
        (bindC (envOfC qual scope s.heap.objs.size f cdv).kindOf binds fun _ => none) s₁ →
      wpAny (model prog w) (A.deeper (envOfC qual scope s.heap.objs.size f cdv)) (execs body (envOfC qual scope s.heap.objs.size f cdv))
        (fun fl s' => R (.ok (.ret (match fl with | .ret v => v | _ => .none))) s')
        (fun e s' => wpAny (model prog w) (A.deeper (envOfC qual scope s.heap.objs.size f cdv)) (leaving (envOfC qual scope s.heap.objs.size f cdv) e) (fun _ s'' => R (.error e) s'') (fun e' s'' => R (.error e') s'') s') s₁)
    (hco : scope.isCoroutine = false) (hgen : scope.isGenerator = false) (hk : scope.kind = .function) : codeAny (model prog w) A (.call (.ref f) args) R s := by
  refine codeAny_call_function hroom (X _ _ ho) rfl hco hgen rfl (codeRec_of X hcd) (hbind _ _ _ _ ?_)
  refine wpAny_newFunctionEnv_cells hk (kindsX hkind _) fun env he s₁ x => ?_
  subst he
  exact ⟨hlim.keeps x.toInCall.keep, codeAny_func (h s₁ x)⟩

/-- C(..): dict at size, instance at size + 1, then __init__ -/
theorem make_obj {R : Result → Shared → Prop} {C fI : Addr} {rest : List Value} {kw : List (Str × Value)}
    (X : K.In s.heap) (hm : makesIn K C = true) (hi : findIn K (.ref C) "__init__" = some (some (.ref fI))) (hf : isFn K (.ref fI) = true)
    (h : codeAny (model prog w) (A.under (.builtin "type.__call__" ⟨.ref C :: rest, kw⟩)) (.call (.ref fI) ⟨.ref (s.heap.objs.size + 1) :: rest, kw⟩) (InitBack (s.heap.objs.size + 1) R)
      { s with heap := (s.heap.push emptyDict).push (instObj C s.heap.objs.size) }) : codeAny (model prog w) A (.call (.ref C) ⟨rest, kw⟩) R s := by
  obtain ⟨hh, g, d, t, os⟩ := s
  exact make_core (makes_of X hm) (looks_findIn X hi) (fun self => bind_fn X self (beq_iff_eq.mp hf)) (.inl rfl) h

/-- x.name where the instance's dict holds the name and the class does not -/
theorem get_field {x C : Addr} {ox : Obj} {es : List DictEntry} {n : Nat} {name : Str} {expr : Bool} {v : Value} {Q : Value → Shared → Prop}
    (X : K.In s.heap) (I : PySem.W.InstAt s.heap x ox C (some (dictOf es n))) (hg : plainGet K C name = true) (hh : hasDictIn K C = true) (ha : findIn K (.ref C) name = some none)
    (hl : getL name es = some (some v)) (hv : handedIn v = true) (h : Q v { s with toks := s.toks + 1 }) : wpAny (model prog w) A (getAttr (.ref x) name expr) Q E s :=
  get_value X I (plainGet_of hg).1 (findObj_own hh ha rfl hl) hv h

/-- x.m(..): the method found in the class -/
theorem get_method {x C f : Addr} {ox : Obj} {es : List DictEntry} {n : Nat} {name : Str} {pl : Sem Bool} {Q : Value × List Value → Shared → Prop}
    (X : K.In s.heap) (I : PySem.W.InstAt s.heap x ox C (some (dictOf es n))) (hg : plainGet K C name = true) (hf : findIn K (.ref C) name = some (some (.ref f))) (ht : isFn K (.ref f) = true)
    (hl : getL name es = some none) (h : Q (.ref f, [.ref x]) s) : wpAny (model prog w) A (getMethod (.ref x) name pl) Q E s :=
  method_fn X I (plainGet_of hg).1 (plainGet_of hg).2 hf (beq_iff_eq.mp ht) (by show (lookIn name (dictOf es n)).map _ = _; rw [lookIn_dict, hl]; rfl) h

/-! the whole heap as the ledger: makes every rule that writes through a ledger a rule over any heap -/
def noObjs (h : Heap) : Heap := { h with objs := #[] }
theorem noObjs_get (h : Heap) (b : Addr) : (noObjs h).get? b = none := by
  cases e : (noObjs h).get? b with
  | none => rfl
  | some o => exact absurd (Heap.lt_size e) (Nat.not_lt_zero _)
def ledger (h : Heap) (L d : Addr) : List (Addr × Obj) := (List.range h.objs.size).filterMap fun a => if a = L ∨ a = d then none else (h.get? a).map fun o => (a, o)
theorem mem_ledger {h : Heap} {L d a : Addr} {o : Obj} : (a, o) ∈ ledger h L d ↔ a ≠ L ∧ a ≠ d ∧ h.get? a = some o := by
  unfold ledger
  rw [List.mem_filterMap]
  constructor
  · rintro ⟨b, _, e⟩
    split at e
    · cases e
    · rename_i hb
      obtain ⟨o', ho, e'⟩ := Option.map_eq_some_iff.mp e
      cases e'
      exact ⟨fun q => hb (.inl q), fun q => hb (.inr q), ho⟩
  · rintro ⟨n1, n2, ho⟩
    refine ⟨a, List.mem_range.mpr (Heap.lt_size ho), ?_⟩
    rw [if_neg (show ¬ (a = L ∨ a = d) from fun q => q.elim n1 n2), ho] <;> rfl
theorem news_ledger {h : Heap} {L d : Addr} {od : Obj} (hne : d ≠ L) (ho : h.get? d = some od) : News (noObjs h) L h ([] ++ (d, od) :: ledger h L d) := by
  rintro ⟨a, o⟩ hp
  rcases List.mem_cons.mp hp with e | hp
  · cases e
    exact ⟨ho, hne, noObjs_get _ _⟩
  · obtain ⟨n1, n2, e⟩ := mem_ledger.mp hp
    exact ⟨e, n1, noObjs_get _ _⟩
theorem fr_all {h : Heap} {L : Addr} {m : Str → Option Value} (n : h.Ns L m) : Fr (noObjs h) L h m :=
  ⟨n, fun b o e => (by rw [noObjs_get] at e; cases e), Nat.zero_le _⟩
/-- Upd of the head entry (for append_K, setItem_K ..) -/
theorem upd_ledger {h : Heap} {L d : Addr} {o o' : Obj} : Upd d o o' ((d, o) :: ledger h L d) ((d, o') :: ledger h L d) :=
  .head fun ⟨_, _⟩ hp => (mem_ledger.mp hp).2.1

/-- x.name = v over any heap: L is any namespace of the heap (the frame's, say): its map stays, its object is not told; all else but the dict stays -/
theorem set_field {x C dx L : Addr} {ox : Obj} {m : Str → Option Value} {es es' : List DictEntry} {n n' : Nat} {name : Str} {v : Value} {Q : Unit → Shared → Prop}
    (X : K.In s.heap) (I : PySem.W.InstAt s.heap x ox C (some (dictOf es n))) (hd : ox.dict = some dx) (hL : s.heap.Ns L m) (hne : dx ≠ L)
    (hs : findIn K (.ref C) "__setattr__" = some (some (.builtin "object.__setattr__"))) (hp : plainOver K C = true) (ht : takerIn K C name = some none) (hh : hasDictIn K C = true) (hl : (getL name es).isSome = true)
    (e : (putL name (PyData.keyHash w.params name) (.str name (s.toks + 1)) v es, putN name es n) = (es', n')) (hz : es'.length ≤ 1000)
    (h : ∀ h' : Heap, h'.Ns L m → h'.get? dx = some (dictOf es' n') → (∀ b o, b ≠ dx → b ≠ L → s.heap.get? b = some o → h'.get? b = some o) → Q () { s with heap := h', toks := s.toks + 2 }) :
    wpAny (model prog w) A (setAttr (.ref x) name v) Q E s := by
  obtain ⟨e1, e2⟩ := Prod.mk.inj e
  have hdx : s.heap.get? dx = some (dictOf es n) := by
    have := I.dict
    rw [hd] at this
    exact this
  refine set_plain X I hs (osa_dict (s := { s with toks := s.toks + 1 }) (h₀ := noObjs s.heap) (L := L) (m := m) (od := dictOf es n) (od' := dictOf es' n') (es := es') (n := n') (pre := []) (post := ledger s.heap L dx)
    (fr_all hL) (news_ledger hne hdx) X I hd hp ht hh hl (fun _ q => nomatch q) (fun ⟨_, _⟩ q => (mem_ledger.mp q).2.1) (by rw [putName_dict, e1, e2]) rfl hz fun h' F' N' => ?_)
  exact h h' F'.ns (N'.get (List.Mem.head _)) fun b o n1 n2 ho => N'.get (List.Mem.tail _ (mem_ledger.mpr ⟨n2, n1, ho⟩))
end
end Att

namespace L2
open PySem PySem.Spec PyProof.Rows

theorem vals_ints : ∀ {vs : List Value} {ns : List Int}, IntsAre vs ns → Vals (ns.map V.int) vs
  | _, _, .nil => .nil
  | _, _, .cons n t h => .cons ⟨t, rfl⟩ (vals_ints h)

/-- nothing is tracked but the script, known to the object (or it is an object of the module) -/
def Only (H : Hp) : Prop := ∀ b, H b = none ∨ ∃ o xs, H b = some (.frz o (.lst xs))

/-- THE HEAD: the law's promise, at the heap behind the top. F, the promise of the law's def, may use that base is part of the heap (so K.In base, base.Ns mainGlobals mg stand in Mod) -/
theorem law_call {P : Program} {w : World} {K : PySem.W.Frag} {mg mb : Str → Option Value} {CX : CXT} {k : Nat} {fa a : Addr} {fd : FuncData} {x : Str} {sp : Sp} {s₁ : Shared} {vs : List Value} {ns : List Int}
    (KX : K.In s₁.heap) (hns : s₁.heap.Ns mainGlobals mg) (hb : s₁.heap.Ns builtinsNs mb) (hbb : ∀ x : Str, x ≠ "__name__" → mb x = bootBuiltins x) (hlim : s₁.heap.NoLimit) (hg : s₁.gens = #[])
    (ha : s₁.heap.get? a = some { cls := .type "list", data := .seq vs.toArray }) (hi : IntsAre vs ns) (hl : ns.length ≤ sizeLine) (hr : Room k callerA)
    (F : ∀ base : Heap, K.In base → base.Ns mainGlobals mg → FnOk P w K mg base CX k fa fd [x] sp) (hbind : ∀ (s : Shared) (u : Value), BindsTo s fd ⟨[u], []⟩ [(x, u)])
    (hsp : ∀ H : Hp, Only H → SqL K H a (ns.map V.int) → sp [.ref a] H (fun v _ => v = .bl true) fun _ _ _ => False)
    (hCX : ∀ H e s', CX [] H s₁ (fun _ _ _ => False) e s' → False) :
    codeAny (model P w) callerA (.call (.ref fa) ⟨[.ref a], []⟩) (fun r s' => r = .ok (.ret (.bool true)) ∧ OldK s₁.heap s'.heap ∧ s'.os = s₁.os ∧ AllBare s'.gens) s₁ := by
  have rv := vals_ints hi
  have lenV := hi.length
  -- from an abstract heap in which nothing but the script may be tracked
  have core : ∀ H : Hp, Only H → SqL K H a (ns.map V.int) → HOk P w H s₁.heap → (∀ b, H b ≠ none → b = a) → (H a ≠ none → K.lookup a = none) →
      codeAny (model P w) callerA (.call (.ref fa) ⟨[.ref a], []⟩) (fun r s' => r = .ok (.ret (.bool true)) ∧ OldK s₁.heap s'.heap ∧ s'.os = s₁.os ∧ AllBare s'.gens) s₁ := by
    intro H hO hS hok hA hK
    have base_of : ∀ {b : Addr} {o : Obj}, s₁.heap.get? b = some o → H b = none → (hidT s₁.heap H).get? b = some o := fun e n => hidT_get e n
    have noA : ∀ {b : Addr} {o : Obj} {es : Array DictEntry} {ep : Nat}, s₁.heap.get? b = some o → o.data = .dict es ep → H b = none := fun {b o es ep} e d => by
      cases q : H b with
      | none => rfl
      | some u =>
        have e' : b = a := hA b (by rw [q]; simp)
        subst e'
        rw [ha] at e; cases e
        have d' : Data.seq vs.toArray _ = Data.dict es ep := d
        cases d'
    have nsK : ∀ {b : Addr} {m : Str → Option Value}, s₁.heap.Ns b m → (hidT s₁.heap H).Ns b m := fun {b m} ⟨o, es, ep, e, d, r⟩ => ⟨o, es, ep, base_of e (noA e d), d, r⟩
    have hKb : K.In (hidT s₁.heap H) := fun b o e => base_of (KX b o e) (by
      cases q : H b with
      | none => rfl
      | some u =>
        have e' : b = a := hA b (by rw [q]; simp)
        subst e'
        rw [hK (by rw [q]; simp)] at e; cases e)
    have hM : Mod K mg (hidT s₁.heap H) := ⟨hKb, nsK hns, ⟨mb, nsK hb, hbb⟩, let ⟨mc, h1, h2⟩ := hlim; ⟨mc, nsK h1, h2⟩⟩
    have e0 : Env0 P w K mg (hidT s₁.heap H) callerA [] s₁ H := ⟨rfl, hM, fun b o e => of_hidT e, Nat.le_of_eq (hidT_size _ _), trivial, fun b hb => absurd (show b ∈ ([] : List Addr) from hb) (by simp), hok, .of_eq hg⟩
    refine codeAny_mono ((F _ hKb (nsK hns)).run callerA [] s₁ H ⟨[.ref a], []⟩ [.ref a] [.ref a] _ _ hr e0 (hbind s₁ (.ref a)) (.cons rfl .nil) (hsp H hO hS)) fun r s' h => ?_
    cases r with
    | error e => exact (hCX H e s' h).elim
    | ok fl =>
      cases fl with
      | next => exact False.elim h
      | brk => exact False.elim h
      | cont => exact False.elim h
      | ret u =>
        obtain ⟨v, H', os, bare, un, hok', r', q⟩ := h
        have q' : v = .bl true := q
        subst q'
        obtain rfl : u = Value.bool true := r'
        refine ⟨rfl, OldK.of_keep fun b o e => ?_, os, bare⟩
        cases q : H b with
        | none => exact un.keep b o e q (by intro z; exact absurd (show b ∈ ([] : List Addr) from z) (by simp)) (by simp)
        | some u =>
          rcases hO b with z | ⟨ob, xs, z⟩
          · rw [q] at z; cases z
          · have z2 := un.frzs b ob _ z
            obtain ⟨e1, _⟩ := hok b _ z
            obtain ⟨e2, _⟩ := hok' b _ z2
            rw [e] at e1; cases e1
            exact e2
  cases hk : K.lookup a with
  | some o =>
    -- the script is one of the module's own objects
    have e := KX a o hk
    rw [ha] at e
    cases e
    refine core (fun _ => none) (fun _ => .inl rfl) (.inr ⟨_, vs.toArray, _, hk, rfl, rfl, rfl, by rw [List.size_toArray, lenV]; exact hl, by simpa using rv⟩) (fun b u z => by have z' : (none : Option HO) = some u := z; cases z') (fun b z => absurd rfl z) fun z => absurd rfl z
  | none =>
    refine core (fun b => if b = a then some (.frz { cls := .type "list", data := .seq vs.toArray } (.lst (ns.map V.int))) else none) (fun b => ?_) (.inl (.inr ⟨{ cls := .type "list", data := .seq vs.toArray }, if_pos rfl⟩)) (fun b u z => ?_) (fun b z => ?_) fun _ => hk
    · by_cases hb : b = a
      · exact .inr ⟨_, _, if_pos hb⟩
      · exact .inl (if_neg hb)
    · by_cases hb : b = a
      · have z' := (if_pos hb).symm.trans z
        cases z'
        subst hb
        exact ⟨ha, by rw [List.length_map]; exact hl, vs, _, rv, ha⟩
      · have z' := (if_neg hb).symm.trans z
        cases z'
    · by_cases hb : b = a
      · exact hb
      · exact absurd (if_neg hb) z
end L2

namespace L2
open PySem PySem.Spec PyProof.Rows

abbrev KOf {K : PySem.W.Frag} {h : Heap} (_ : K.In h) : PySem.W.Frag := K

/-- the goal that k_head leaves (case hc), from the law's promise. F gives the function object fd (K's own) once, then the promise over every base -/
theorem walk_of {l : PySem.W.OpenLaw} {n k : Nat} {q : Program} {loose : List Str} {XP : (Str → Option Value) → Heap → Prop} {YP : World → Heap → Prop} {d : DefRec} {K : Params → PySem.W.Frag} {CX : World → CXT} {sp : World → Sp} {x : Str}
    (hn : l.most = some n) (hn2 : n ≤ sizeLine) (hdf : d.params.defaults = []) (hr : Room k callerA)
    (hY : ∀ (w : World) (h : Heap), YP w h → (K w.params).In h)
    (F : ∀ (w : World) (mg : Str → Option Value) (fa : Addr) (h : Heap), (K w.params).In h → h.Ns mainGlobals mg → mg d.name = some (.ref fa) →
      ∃ fd : FuncData, (∀ (s : Shared) (u : Value), BindsTo s fd ⟨[u], []⟩ [(x, u)]) ∧
        ∀ base : Heap, (K w.params).In base → base.Ns mainGlobals mg → FnOk l.prog w (K w.params) mg base (CX w) k fa fd [x] (sp w))
    (hsp : ∀ (w : World) (H : Hp) (a : Addr) (ns : List Int), ns.length ≤ n → Only H → SqL (K w.params) H a (ns.map V.int) → sp w [.ref a] H (fun v _ => v = .bl true) fun _ _ _ => False)
    (hCX : ∀ (w : World) (H : Hp) (s : Shared) (e : Value) (s' : Shared), CX w [] H s (fun _ _ _ => False) e s' → False) :
    PySem.W.WalkO q loose XP YP l.row.toRowW d [] (fun f vs => PySem.call f vs) := by
  refine Att.attach_call hn hdf fun w s₀ s₁ mg mb fa o pm cd doc a vs ns G Y ho hd hcd hmg hobj hints hlen hg => ?_
  have KX := hY w _ Y
  obtain ⟨fd, hb, hF⟩ := F w mg fa _ KX G.T.g hmg
  exact law_call KX G.T.g G.T.b G.T.builtins G.T.nolimit hg hobj hints (Nat.le_trans hlen hn2) hr hF hb (fun H hO hS => hsp w H a ns hlen hO hS) fun H e s' => hCX w H s₁ e s'
/-- the same where the promise hangs on the written part alone: (sp := My.sp_law), no hole under a binder -/
theorem walk_ofK {l : PySem.W.OpenLaw} {n k : Nat} {q : Program} {loose : List Str} {XP : (Str → Option Value) → Heap → Prop} {YP : World → Heap → Prop} {d : DefRec} {K : Params → PySem.W.Frag} {CX : CXT} {sp : PySem.W.Frag → Sp} {x : Str}
    (hn : l.most = some n) (hn2 : n ≤ sizeLine) (hdf : d.params.defaults = []) (hr : Room k callerA)
    (hY : ∀ (w : World) (h : Heap), YP w h → (K w.params).In h)
    (F : ∀ (w : World) (mg : Str → Option Value) (fa : Addr) (h : Heap), (K w.params).In h → h.Ns mainGlobals mg → mg d.name = some (.ref fa) →
      ∃ fd : FuncData, (∀ (s : Shared) (u : Value), BindsTo s fd ⟨[u], []⟩ [(x, u)]) ∧
        ∀ base : Heap, (K w.params).In base → base.Ns mainGlobals mg → FnOk l.prog w (K w.params) mg base CX k fa fd [x] (sp (K w.params)))
    (hsp : ∀ (K : PySem.W.Frag) (H : Hp) (a : Addr) (ns : List Int), ns.length ≤ n → Only H → SqL K H a (ns.map V.int) → sp K [.ref a] H (fun v _ => v = .bl true) fun _ _ _ => False)
    (hCX : ∀ (H : Hp) (s : Shared) (e : Value) (s' : Shared), CX [] H s (fun _ _ _ => False) e s' → False) :
    PySem.W.WalkO q loose XP YP l.row.toRowW d [] (fun f vs => PySem.call f vs) :=
  walk_of (K := K) (CX := fun _ => CX) (sp := fun w => sp (K w.params)) hn hn2 hdf hr hY F (fun w H a ns h1 h2 h3 => hsp (K w.params) H a ns h1 h2 h3) fun _ H s e s' => hCX H s e s'
end L2

/- THE LAST THEOREM (shape; LID, My.* are yours):
   My.Adr: a structure of the addresses that your layer names (classes, functions); My.Txt K t: a structure (Prop) of the equations over K;
   My.txt_mk : {K} {implicit addresses ..} (e1 : nsIn K mainGlobals "law" = some (some (.ref f))) (e2 : K.lookup f = some ⟨oc, od, .func (fnOf "law" "law" params body scope dV kV doc pm an cdv ct), sl⟩) (e3 : codeIn K cdv "law" = true) .. : ∃ t, My.Txt K t

set_option maxRecDepth 100000 in
set_option maxHeartbeats 0 in
theorem PySem.Challenge.cw_LID_holds : PySem.Challenge.rw_LID.Holds := by
  w_on; o_law; k_head; (case hw => w_witness2)
  k_fill
  refine L2.walk_of (l := PySem.Challenge.rw_LID) (n := 63) (k := 40) (x := "script") (CX := fun w => ..) (sp := fun _ => My.sp_law) rfl (by decide) rfl ⟨rfl, by decide, by decide⟩ (fun w h Y => PySem.W.kIn_of Y) ?F ?S ?C
  case F =>
    intro w mg fa h KX G hmg
    have T : ∃ t, My.Txt (L2.KOf KX) t := by
      dsimp only [L2.KOf]                          -- K must stand as «<heap const> w.params» for k_is
      refine' My.txt_mk ?e1 ?e2 ?e3 ..
      (case e1 => PySem.W.k_is)                    -- in the order: a name -> its address -> its object -> its parts
      (case e2 => PySem.W.k_is)
      ..
    obtain ⟨t, T⟩ := T
    have e0 := hmg.symm.trans (PySem.W.mg_of KX G T.law)
    cases e0                                       -- fa is the law's own address
    exact ⟨_, fun s u => .of_eq rfl, fun base kb nb => My.law_fn T kb nb⟩     -- if «.of_eq rfl» comes too early: refine' ⟨_, ?b, fun base kb nb => My.law_fn T kb nb⟩; exact fun s u => .of_eq rfl
  case S => exact fun w H a ns hl hO hS => ..
  case C => exact ..
(the tactic k_is has no namespace: write k_is) -/

/-! SHORT WORDS over the layer: a def of the text, its body, what a loop and a test want. -/
namespace L2
open PySem PySem.Spec PyProof.Rows

/-! ### the text by places -/
/-- the j-th statement of a class's body -/
def inClass (s : Stmt) (j : Nat) : Stmt := match s with
  | .ClassDef _ _ _ body _ _ _ _ _ _ _ => body.getD j (.Pass ⟨0, 0, 0, 0⟩)
  | _ => .Pass ⟨0, 0, 0, 0⟩
def defArgs (s : Stmt) : Arguments := match s with
  | .FunctionDef _ a _ _ _ _ _ _ _ _ => a
  | _ => { posonlyargs := [], args := [], vararg := none, kwonlyargs := [], kw_defaults := [], kwarg := none, defaults := [] }
def defBody (s : Stmt) : List Stmt := match s with
  | .FunctionDef _ _ b _ _ _ _ _ _ _ => b
  | _ => []
def defScope (s : Stmt) : Scope := match s with
  | .FunctionDef _ _ _ _ _ _ sc _ _ _ => sc
  | _ => { kind := .function, names := [], isGenerator := false, isCoroutine := false }

/-! ### no exception leaves a def -/
abbrev CX0 : CXT := fun _ _ _ _ _ _ => False
abbrev E0 : XK := fun _ _ _ => False
theorem pass0 {X : Cx} : Passes CX0 X E0 := fun _ _ _ _ _ _ _ h => h.elim

/-! ### a def (or method) of the text as it stands behind the top -/
structure Fun (K : PySem.W.Frag) (x qual : Str) (st : Stmt) (f : Addr) (fd : FuncData) : Prop where
  ex : ∃ (oc : Value) (od : Option Addr) (kV doc pm : Value) (an : Option Addr) (cdv ct : Value) (osl : Array (Option Value)),
    fd = PySem.W.fnOf x qual (defArgs st) (defBody st) (defScope st) .none kV doc pm an cdv ct ∧ K.lookup f = some ⟨oc, od, .func fd, osl⟩ ∧ PySem.W.codeIn K cdv qual = true
  kp : PySem.W.keepIn K (.ref f) = true
section
variable {P : Program} {w : World} {K : PySem.W.Frag} {mg : Str → Option Value} {base : Heap}
/-- THE RULE for a def: its body as a term of rules, and the reading of that term -/
theorem Fun.ok {x qual : Str} {st : Stmt} {f : Addr} {fd : FuncData} {N ps : List Str} {k : Nat} {sp : Sp} (F : Fun K x qual st f fd) (S : FnScope N ps (defScope st)) (len : ∀ vs H Q E, sp vs H Q E → vs.length = ps.length)
    (hbody : ∀ (cdv : Value) (A : Around) (outer : List Env) (s : Shared) (H : Hp) (vs : List V) (Q : VK) (E : XK), Room k (A.deeper (envOfC qual (defScope st) s.heap.objs.size f cdv)) → sp vs H Q E →
      ∃ t, PSs (cxOf CX0 P w K mg base N qual (defScope st) f cdv A outer s H E).nox (defBody st) t ∧ t { nx := fun _ H' => Q .non H', rt := Q } (start N vs) H) : FnOk P w K mg base CX0 (k + 1) f fd ps sp := by
  obtain ⟨oc, od, kV, doc, pm, an, cdv, ct, osl, rfl, lk, hcd⟩ := F.ex
  refine fn_of lk hcd S len fun A outer s H vs Q E hr hsp => ?_
  obtain ⟨t, h, q⟩ := hbody cdv A outer s H vs Q E hr hsp
  exact ⟨t, h.nox, q⟩
/-- how its arguments bind (no defaults): h is «fun _ _ _ _ _ _ us hl => match us, hl with | [_, _], _ => rfl», one _ a parameter -/
theorem Fun.binds {x qual : Str} {st : Stmt} {f : Addr} {fd : FuncData} {ps : List Str} (F : Fun K x qual st f fd)
    (h : ∀ (kV doc pm : Value) (an : Option Addr) (cdv ct : Value) (us : List Value), us.length = ps.length → bindArgs (PySem.W.fnOf x qual (defArgs st) (defBody st) (defScope st) .none kV doc pm an cdv ct) ⟨us, []⟩ = pure (ps.zip us)) : Binds K fd ps [] := by
  obtain ⟨oc, od, kV, doc, pm, an, cdv, ct, osl, rfl, lk, hcd⟩ := F.ex
  exact .all (h kV doc pm an cdv ct)
theorem fun_mk {x qual : Str} {st : Stmt} {f : Addr} {oc : Value} {od an : Option Addr} {osl : Array (Option Value)} {kV doc pm cdv ct : Value} (l : K.lookup f = some ⟨oc, od, .func (PySem.W.fnOf x qual (defArgs st) (defBody st) (defScope st) .none kV doc pm an cdv ct), osl⟩)
    (c : PySem.W.codeIn K cdv qual = true) (k : PySem.W.keepIn K (.ref f) = true) : Fun K x qual st f (PySem.W.fnOf x qual (defArgs st) (defBody st) (defScope st) .none kV doc pm an cdv ct) := ⟨⟨oc, od, kV, doc, pm, an, cdv, ct, osl, rfl, l, c⟩, k⟩
end
theorem hu_of {A : Around} {k : Nat} (hr : Room k A) : A.units + 1 < cLine := Nat.lt_of_le_of_lt (Nat.add_le_add_left (by decide : 1 ≤ 64) _) hr.units
theorem small1000 {n : Nat} (h : n ≤ 1000) : n < sizeLine := Nat.lt_of_le_of_lt h (by decide)

/-! ### expressions in short: the name that stands in the i-th slot -/
section
variable {X : Cx}
theorem pv (i : Nat) {x : Str} {pos : Pos} (hN : X.N[i]? = some x := by rfl) (hv : Vis X.env.scope x := by first | exact Or.inl rfl | exact Or.inr (Or.inl rfl) | exact Or.inr (Or.inr rfl)) (hd : (x == ("__debug__" : Str)) = false := by decide)
    (hcd : (x == ("__classdict__" : Str)) = false := by decide) : PE X (.Name x pos) (tVar i) := pe_var hN hv hd hcd
end

/-! ### tests -/
theorem iteF {A B : Prop} (h : B) : if false = true then A else B := by
  rw [if_neg Bool.false_ne_true]
  exact h
theorem iteT {A B : Prop} (h : A) : if true = true then A else B := by
  rw [if_pos rfl]
  exact h
theorem ite2 {c A B : Prop} [Decidable c] (h1 : c → A) (h2 : ¬ c → B) : if c then A else B := by
  by_cases h : c
  · rw [if_pos h]
    exact h1 h
  · rw [if_neg h]
    exact h2 h
theorem iteNS {c A B : Prop} [Decidable c] (hc : c) (h : B) : if (!decide c) = true then A else B := by
  rw [decide_eq_true hc]
  exact iteF h

/-! ### heaps -/
/-- all that was tracked is as it was -/
def Same (H H' : Hp) : Prop := ∀ b o, H b = some o → H' b = some o
theorem Same.refl (H : Hp) : Same H H := fun _ _ h => h
theorem Same.trans {H H1 H2 : Hp} (a : Same H H1) (b : Same H1 H2) : Same H H2 := fun c o h => b c o (a c o h)
theorem Same.free {H H' : Hp} (e : Same H H') {l : Addr} (h : H' l = Option.none) : H l = Option.none := by
  cases q : H l with
  | none => rfl
  | some o =>
    rw [e l o q] at h
    cases h
theorem Same.seq {K : PySem.W.Frag} {H H' : Hp} {a : Addr} {xs : List V} (e : Same H H') (h : SqL K H a xs) : SqL K H' a xs := by
  rcases h with (h | ⟨o, h⟩) | h
  · exact .inl (.inl (e _ _ h))
  · exact .inl (.inr ⟨o, e _ _ h⟩)
  · exact .inr h

end L2


namespace L2
open PySem PySem.Spec PyProof.Rows

/-! ### lists of pairs as tables -/
section
variable {κ : Type} [DecidableEq κ]
def valV (kvs : List (κ × V)) (k : κ) : Option V := (kvs.find? fun kv => decide (kv.1 = k)).map (·.2)
/-- in its place, or at the end -/
def putK (kvs : List (κ × V)) (k : κ) (v : V) : List (κ × V) :=
  if (kvs.any fun kv => decide (kv.1 = k)) = true then kvs.map (fun kv => if kv.1 = k then (kv.1, v) else kv) else kvs ++ [(k, v)]
def dropK (kvs : List (κ × V)) (k : κ) : List (κ × V) := kvs.filter fun kv => decide (kv.1 ≠ k)

theorem valV_nil {k : κ} : valV ([] : List (κ × V)) k = none := rfl
theorem valV_pos {p : κ × V} {r : List (κ × V)} {k : κ} (e : p.1 = k) : valV (p :: r) k = some p.2 := by simp [valV, List.find?_cons, e]
theorem valV_neg {p : κ × V} {r : List (κ × V)} {k : κ} (e : ¬ p.1 = k) : valV (p :: r) k = valV r k := by simp [valV, List.find?_cons, e]
theorem valV_any (k : κ) : ∀ kvs : List (κ × V), (kvs.any fun kv => decide (kv.1 = k)) = (valV kvs k).isSome
  | [] => rfl
  | p :: r => by
    rw [List.any_cons]
    by_cases e : p.1 = k
    · simp only [valV_pos e, decide_eq_true e, Bool.true_or, Option.isSome_some]
    · rw [valV_neg e, decide_eq_false e, Bool.false_or]; exact valV_any k r
theorem valV_map (k j : κ) (y : V) : ∀ kvs : List (κ × V), valV (kvs.map fun kv => if kv.1 = k then (kv.1, y) else kv) j = (valV kvs j).map fun x => if j = k then y else x
  | [] => rfl
  | p :: r => by
    have ih := valV_map k j y r
    rw [List.map_cons]
    by_cases h : p.1 = k
    · rw [if_pos h]
      by_cases e : p.1 = j
      · rw [valV_pos (p := (p.1, y)) e, valV_pos e, Option.map_some, if_pos (e.symm.trans h)]
      · rw [valV_neg (p := (p.1, y)) e, valV_neg e, ih]
    · rw [if_neg h]
      by_cases e : p.1 = j
      · rw [valV_pos (p := p) e, valV_pos e, Option.map_some, if_neg (fun z => h (e.trans z))]
      · rw [valV_neg (p := p) e, valV_neg e, ih]
theorem valV_snoc (k j : κ) (y : V) : ∀ kvs : List (κ × V), valV kvs k = none → valV (kvs ++ [(k, y)]) j = if j = k then some y else valV kvs j
  | [], _ => by
    by_cases e : k = j
    · rw [if_pos e.symm]; exact valV_pos (p := (k, y)) e
    · rw [if_neg (fun z => e z.symm)]; exact valV_neg (p := (k, y)) e
  | p :: r, hn => by
    rw [List.cons_append]
    have hk : ¬ p.1 = k := fun z => by rw [valV_pos z] at hn; cases hn
    rw [valV_neg hk] at hn
    have ih := valV_snoc k j y r hn
    by_cases e : p.1 = j
    · rw [valV_pos e, valV_pos e, if_neg (fun z => hk (e.trans z))]
    · rw [valV_neg e, valV_neg e, ih]
theorem valV_put (kvs : List (κ × V)) (k j : κ) (y : V) : valV (putK kvs k y) j = if j = k then some y else valV kvs j := by
  unfold putK
  by_cases a : (kvs.any fun kv => decide (kv.1 = k)) = true
  · rw [if_pos a, valV_map]
    rw [valV_any] at a
    by_cases e : j = k
    · obtain ⟨x, hx⟩ := Option.isSome_iff_exists.mp a
      rw [if_pos e, e, hx, Option.map_some, if_pos rfl]
    · rw [if_neg e]
      cases valV kvs j with
      | none => rfl
      | some x => rw [Option.map_some, if_neg e]
  · rw [if_neg a]
    refine valV_snoc k j y kvs ?_
    rw [valV_any] at a
    cases q : valV kvs k with
    | none => rfl
    | some x => rw [q] at a; exact (a rfl).elim
theorem length_putK (kvs : List (κ × V)) (k : κ) (v : V) : (putK kvs k v).length ≤ kvs.length + 1 := by
  unfold putK
  split
  · rw [List.length_map]; omega
  · rw [List.length_append, List.length_cons, List.length_nil]; omega
theorem putK_new {kvs : List (κ × V)} {k : κ} (v : V) (h : valV kvs k = none) : putK kvs k v = kvs ++ [(k, v)] := by
  unfold putK
  rw [valV_any, h]
  exact if_neg (by decide)

theorem RelO.isSome_eq {o : Option V} {u : Option Value} (r : RelO o u) : o.isSome = u.isSome := by
  cases o with
  | none => cases u with
    | none => rfl
    | some _ => exact (show False from r).elim
  | some _ => cases u with
    | none => exact (show False from r).elim
    | some _ => rfl
theorem RelO.getD {o : Option V} {u : Option Value} {d : V} {d' : Value} (r : RelO o u) (rd : RelV d d') : RelV (o.getD d) (u.getD d') := by
  cases o with
  | none => cases u with
    | none => exact rd
    | some _ => exact (show False from r).elim
  | some _ => cases u with
    | none => exact (show False from r).elim
    | some _ => exact r

/-- raw tables of the same keys -/
theorem KV.val {kvs : List (κ × V)} {vs : List (κ × Value)} (r : KV kvs vs) (k : κ) : RelO (valV kvs k) (valueAt vs k) := by
  unfold KV at r
  induction r with
  | nil => exact True.intro
  | @cons p q ps qs h t ih =>
    obtain ⟨h1, h2⟩ := h
    by_cases e : p.1 = k
    · have e' : q.1 = k := h1.symm.trans e
      have b : valueAt (q :: qs) k = some q.2 := by simp [valueAt, List.find?_cons, e']
      rw [valV_pos e, b]; exact h2
    · have e' : ¬ q.1 = k := fun z => e (h1.trans z)
      have b : valueAt (q :: qs) k = valueAt qs k := by simp [valueAt, List.find?_cons, e']
      rw [valV_neg e, b]; exact ih
theorem KV.any {kvs : List (κ × V)} {vs : List (κ × Value)} (r : KV kvs vs) (k : κ) : (kvs.any fun kv => decide (kv.1 = k)) = vs.any fun kv => decide (kv.1 = k) := by
  unfold KV at r
  induction r with
  | nil => rfl
  | cons h t ih => rw [List.any_cons, List.any_cons, ih, h.1]
theorem KV.repl {kvs : List (κ × V)} {vs : List (κ × Value)} (r : KV kvs vs) (k : κ) {y : V} {u : Value} (ry : RelV y u) :
    KV (kvs.map fun kv => if kv.1 = k then (kv.1, y) else kv) (vs.map fun kv => if kv.1 = k then (kv.1, u) else kv) := by
  unfold KV at r ⊢
  induction r with
  | nil => exact .nil
  | @cons p q ps qs h t ih =>
    rw [List.map_cons, List.map_cons]
    refine .cons ?_ ih
    obtain ⟨h1, h2⟩ := h
    by_cases e : p.1 = k
    · rw [if_pos e, if_pos (h1.symm.trans e)]; exact ⟨h1, ry⟩
    · rw [if_neg e, if_neg (fun z => e (h1.trans z))]; exact ⟨h1, h2⟩
theorem KV.put {kvs : List (κ × V)} {vs : List (κ × Value)} (r : KV kvs vs) (k : κ) {y : V} {u : Value} (ry : RelV y u) : KV (putK kvs k y) (stored vs k u) := by
  unfold putK stored
  rw [r.any k]
  by_cases e : (vs.any fun kv => decide (kv.1 = k)) = true
  · rw [if_pos e, if_pos e]; exact r.repl k ry
  · rw [if_neg e, if_neg e]; exact Paired.snoc r ⟨rfl, ry⟩
theorem KV.drop {kvs : List (κ × V)} {vs : List (κ × Value)} (r : KV kvs vs) (k : κ) : KV (dropK kvs k) (without vs k) := by
  unfold KV at r ⊢
  unfold dropK without
  induction r with
  | nil => exact .nil
  | @cons p q ps qs h t ih =>
    obtain ⟨h1, h2⟩ := h
    rw [List.filter_cons, List.filter_cons]
    by_cases e : p.1 = k
    · have a : ¬ decide (p.1 ≠ k) = true := by simp [e]
      have b : ¬ decide (q.1 ≠ k) = true := by simp [h1.symm.trans e]
      rw [if_neg a, if_neg b]; exact ih
    · have e' : ¬ q.1 = k := fun z => e (h1.trans z)
      have a : decide (p.1 ≠ k) = true := by simp [e]
      have b : decide (q.1 ≠ k) = true := by simp [e']
      rw [if_pos a, if_pos b]; exact .cons ⟨h1, h2⟩ ih
theorem KV.keys {kvs : List (κ × V)} {vs : List (κ × Value)} (r : KV kvs vs) : kvs.map (·.1) = vs.map (·.1) := by
  unfold KV at r
  induction r with
  | nil => rfl
  | cons h t ih => rw [List.map_cons, List.map_cons, ih, h.1]
theorem KV.length {kvs : List (κ × V)} {vs : List (κ × Value)} (r : KV kvs vs) : kvs.length = vs.length := Paired.length r
theorem dropK_le (kvs : List (κ × V)) (k : κ) : (dropK kvs k).length ≤ kvs.length := List.length_filter_le _ _
end


/-! ### a tracked dict, its keys ints and texts or tuples of these -/
theorem kV_is {P : Program} {w : World} {k : Key} {u : Value} (r : RelV (kV k) u) : (mixKind P w).is k u = true := by
  cases k with
  | inl i => obtain ⟨t, e⟩ := (show ∃ t, u = Value.int i t from r); subst e; exact mixKind_int P w i t
  | inr x => obtain ⟨t, e⟩ := (show ∃ t, u = Value.str x t from r); subst e; exact mixKind_str P w x t
theorem kV_inj {a b : Key} (e : kV a = kV b) : a = b := by
  cases a with
  | inl i => cases b with
    | inl j => have e' : V.int i = V.int j := e; injection e' with e'; rw [e']
    | inr y => exact nomatch (show V.int i = V.str y from e)
  | inr x => cases b with
    | inl j => exact nomatch (show V.str x = V.int j from e)
    | inr y => have e' : V.str x = V.str y := e; injection e' with e'; rw [e']
theorem kVs_inj : ∀ {a b : List Key}, a.map kV = b.map kV → a = b
  | [], [], _ => rfl
  | [], _ :: _, e => by simp at e
  | _ :: _, [], e => by simp at e
  | x :: xs, y :: ys, e => by
    rw [List.map_cons, List.map_cons] at e
    injection e with e1 e2
    rw [kV_inj e1, kVs_inj e2]
theorem items_are {P : Program} {w : World} : ∀ {ks : List Key} {us : List Value}, Vals (ks.map kV) us → ItemsAre (mixKind P w) ks us
  | [], _, r => by rw [List.map_nil] at r; cases r; exact .nil
  | k :: ks, _, r => by
    rw [List.map_cons] at r
    cases r with
    | cons h t => exact .cons (kV_is h) (items_are t)

/-- raw entries of a dict with tuple keys -/
abbrev KT (H : Hp) : List (List Key × V) → List (List Key × Addr × Value) → Prop := Paired fun p q => p.1 = q.1 ∧ H q.2.1 = some (.tup (p.1.map kV)) ∧ RelV p.2 q.2.2
theorem KT.val {H : Hp} {kvs : List (List Key × V)} {xs : List (List Key × Addr × Value)} (r : KT H kvs xs) (k : List Key) : RelO (valV kvs k) ((atKey xs k).map (·.2)) := by
  induction r with
  | nil => exact True.intro
  | @cons p q ps qs h t ih =>
    obtain ⟨h1, _, h2⟩ := h
    by_cases e : p.1 = k
    · have e' : q.1 = k := h1.symm.trans e
      have b : atKey (q :: qs) k = some q.2 := by simp [atKey, List.find?_cons, e']
      rw [valV_pos e, b]; exact h2
    · have e' : ¬ q.1 = k := fun z => e (h1.trans z)
      have b : atKey (q :: qs) k = atKey qs k := by simp [atKey, List.find?_cons, e']
      rw [valV_neg e, b]; exact ih
theorem KT.repl {H : Hp} {kvs : List (List Key × V)} {xs : List (List Key × Addr × Value)} (r : KT H kvs xs) (k : List Key) {y : V} {u : Value} (ry : RelV y u) :
    KT H (kvs.map fun kv => if kv.1 = k then (kv.1, y) else kv) (xs.map (putAt k u)) := by
  induction r with
  | nil => exact .nil
  | @cons p q ps qs h t ih =>
    rw [List.map_cons, List.map_cons]
    refine .cons ?_ ih
    obtain ⟨h1, h2, h3⟩ := h
    unfold putAt
    by_cases e : p.1 = k
    · rw [if_pos e, if_pos (h1.symm.trans e)]; exact ⟨h1, h2, ry⟩
    · rw [if_neg e, if_neg (fun z => e (h1.trans z))]; exact ⟨h1, h2, h3⟩
theorem KT.put {H : Hp} {kvs : List (List Key × V)} {xs : List (List Key × Addr × Value)} (r : KT H kvs xs) (k : List Key) {b : Addr} {y : V} {u : Value} (hb : H b = some (.tup (k.map kV))) (ry : RelV y u) :
    KT H (putK kvs k y) (storedH xs k b u) := by
  have e : (kvs.any fun kv => decide (kv.1 = k)) = (atKey xs k).isSome := by
    rw [valV_any, (r.val k).isSome_eq, Option.isSome_map]
  unfold putK storedH
  rw [e]
  by_cases q : (atKey xs k).isSome = true
  · rw [if_pos q, if_pos q]; exact r.repl k ry
  · rw [if_neg q, if_neg q]; exact Paired.snoc r ⟨rfl, hb, ry⟩
theorem KT.keeps {H H' : Hp} {kvs : List (List Key × V)} {xs : List (List Key × Addr × Value)} (r : KT H kvs xs) (ht : ∀ b ys, H b = some (.tup ys) → H' b = some (.tup ys)) : KT H' kvs xs :=
  Paired.mapP r fun _ _ z => ⟨z.1, ht _ _ z.2.1, z.2.2⟩

section
variable {P : Program} {w : World} {H : Hp} {h : Heap} {a : Addr}
theorem rd_of {u : HO} (ok : HOk P w H h) (e : Rd H a u) : ObjOk P w H h a u := e.ok ok
theorem dk_rd {kvs : List (Key × V)} (ok : HOk P w H h) (e : Rd H a (.dK kvs)) : kvs.length ≤ sizeLine ∧ (a == sysModules) = false ∧ ∃ vs, KV kvs vs ∧ h.DictOf (mixKind P w) a vs :=
  show ObjOk P w H h a (.dK kvs) from rd_of ok e
theorem dk_of {kvs : List (Key × V)} (ok : HOk P w H h) (e : H a = some (.dK kvs)) : kvs.length ≤ sizeLine ∧ (a == sysModules) = false ∧ ∃ vs, KV kvs vs ∧ h.DictOf (mixKind P w) a vs := dk_rd ok (.inl e)
/-- a tracked tuple of ints and texts is a key -/
theorem key_of {ks : List Key} (ok : HOk P w H h) (e : H a = some (.tup (ks.map kV))) : (tupleKind (mixKind P w)).is h ks a := by
  obtain ⟨_, its, r, o, h1, h2, n, h3⟩ := (show ObjOk P w H h a (.tup (ks.map kV)) from ok a _ e)
  exact ⟨o, its.toArray, n, h1, h2, h3, by simpa using items_are r⟩
theorem dt_rd {kvs : List (List Key × V)} (ok : HOk P w H h) (e : Rd H a (.dT kvs)) : kvs.length ≤ sizeLine ∧ (a == sysModules) = false ∧
    ∃ xs, KT H kvs xs ∧ h.DictOfH (tupleKind (mixKind P w)) a xs := by
  obtain ⟨z, y, xs, r, o, es, ep, h1, h2, h3, h4, h5⟩ := (show ObjOk P w H h a (.dT kvs) from rd_of ok e)
  refine ⟨z, y, xs, r, o, es, ep, h1, h2, h3, h4, fun x hx => ?_, h5⟩
  have all : ∀ {l : List (List Key × V)} {m : List (List Key × Addr × Value)}, KT H l m → ∀ x ∈ m, (tupleKind (mixKind P w)).is h x.1 x.2.1 := by
    intro l m q
    induction q with
    | nil => intro x hx; exact nomatch hx
    | @cons p q ps qs hq t ih =>
      intro x hx
      rcases List.mem_cons.mp hx with e | hx
      · subst e
        exact key_of ok (by rw [← hq.1]; exact hq.2.1)
      · exact ih x hx
  exact all r x hx
theorem dt_of {kvs : List (List Key × V)} (ok : HOk P w H h) (e : H a = some (.dT kvs)) : kvs.length ≤ sizeLine ∧ (a == sysModules) = false ∧
    ∃ xs, KT H kvs xs ∧ h.DictOfH (tupleKind (mixKind P w)) a xs := dt_rd ok (.inl e)
end

/-- what the dict at a holds at the key y -/
def DGet (H : Hp) (a : Addr) (y : V) (r : Option V) : Prop :=
  (∃ kvs k, Rd H a (.dK kvs) ∧ y = kV k ∧ r = valV kvs k) ∨ ∃ kvs k b, Rd H a (.dT kvs) ∧ y = .ref b ∧ H b = some (.tup (k.map kV)) ∧ r = valV kvs k
/-- the heap behind a[y] = v -/
def DPut (H : Hp) (a : Addr) (y v : V) (H' : Hp) : Prop :=
  (∃ kvs k, H a = some (.dK kvs) ∧ y = kV k ∧ kvs.length < sizeLine ∧ H' = upd H a (.dK (putK kvs k v))) ∨
  ∃ kvs k b, H a = some (.dT kvs) ∧ y = .ref b ∧ H b = some (.tup (k.map kV)) ∧ kvs.length < sizeLine ∧ H' = upd H a (.dT (putK kvs k v))
theorem DGet.k {H : Hp} {a : Addr} {kvs : List (Key × V)} {k : Key} (e : H a = some (.dK kvs)) : DGet H a (kV k) (valV kvs k) := .inl ⟨kvs, k, .inl e, rfl, rfl⟩
theorem DGet.t {H : Hp} {a b : Addr} {kvs : List (List Key × V)} {k : List Key} (e : H a = some (.dT kvs)) (eb : H b = some (.tup (k.map kV))) : DGet H a (.ref b) (valV kvs k) := .inr ⟨kvs, k, b, .inl e, rfl, eb, rfl⟩
theorem DPut.k {H : Hp} {a : Addr} {kvs : List (Key × V)} {k : Key} {v : V} (e : H a = some (.dK kvs)) (hl : kvs.length < sizeLine) : DPut H a (kV k) v (upd H a (.dK (putK kvs k v))) := .inl ⟨kvs, k, e, rfl, hl, rfl⟩
theorem DPut.t {H : Hp} {a b : Addr} {kvs : List (List Key × V)} {k : List Key} {v : V} (e : H a = some (.dT kvs)) (eb : H b = some (.tup (k.map kV))) (hl : kvs.length < sizeLine) :
    DPut H a (.ref b) v (upd H a (.dT (putK kvs k v))) := .inr ⟨kvs, k, b, e, rfl, eb, hl, rfl⟩


section
variable {X : Cx} {pins : List (Addr × Obj)} {σ : St} {H : Hp} {s : Shared} {a : Addr} {y v : V} {u r : Value} {o : Option V} {A : Around} {E : Value → Shared → Prop}

theorem Inv.big (I : Inv X pins σ H s) : sysModules < s.heap.objs.size := by
  have h : mainGlobals < s.heap.objs.size := (I.mod.glob.keeps I.bk).lt
  exact Nat.lt_trans (by decide) h

/-- d[y], there -/
theorem d_getItem {Q : Value → Shared → Prop} (hu : A.units + 1 < cLine) (I : Inv X pins σ H s) (g : DGet H a y (some v)) (ry : RelV y u) (h : ∀ w' s', Inv X pins σ H s' → RelV v w' → Q w' s') :
    wpAny (model X.prog X.w) A (getItem (.ref a) u) Q E s := by
  rcases g with ⟨kvs, k, e, ey, l⟩ | ⟨kvs, k, b, e, ey, eb, l⟩
  · subst ey
    obtain ⟨z, hd, vs, rel, dd⟩ := dk_rd I.hok e
    obtain ⟨w', hw, rw'⟩ := RelO.some_of (v := v) (o := valueAt vs k) (by rw [l]; exact rel.val k)
    exact wpAny_getItem_of (kV_is ry) dd.mapOf hw (h w' _ (I.tok _) rw')
  · subst ey
    cases (show u = Value.ref b from ry)
    obtain ⟨z, hd, xs, rel, dd⟩ := dt_rd I.hok e
    obtain ⟨w', hw, rw'⟩ := RelO.some_of (v := v) (o := (atKey xs k).map (·.2)) (by rw [l]; exact rel.val k)
    obtain ⟨p, hp, hp2⟩ := Option.map_eq_some_iff.mp hw
    refine wpAny_getItem_heap (tupleKind_room_in1 hu) (key_of I.hok eb) dd hp ?_
    rw [hp2]
    exact h w' _ (I.tok _) rw'
/-- y in d -/
theorem d_in {Q : Value → Shared → Prop} (hu : A.units + 1 < cLine) (I : Inv X pins σ H s) (g : DGet H a y o) (ry : RelV y u) (h : ∀ s', Inv X pins σ H s' → Q (.bool o.isSome) s') :
    wpAny (model X.prog X.w) A (compareOp .In u (.ref a)) Q E s := by
  rcases g with ⟨kvs, k, e, ey, l⟩ | ⟨kvs, k, b, e, ey, eb, l⟩
  · subst ey
    obtain ⟨z, hd, vs, rel, dd⟩ := dk_rd I.hok e
    refine wpAny_in_of (kV_is ry) hd dd.mapOf ?_
    rw [← (rel.val k).isSome_eq, ← l]
    exact h _ (I.tok _)
  · subst ey
    cases (show u = Value.ref b from ry)
    obtain ⟨z, hd, xs, rel, dd⟩ := dt_rd I.hok e
    refine wpAny_in_heap (tupleKind_room_in1 hu) (key_of I.hok eb) hd dd ?_
    have q := (rel.val k).isSome_eq
    rw [Option.isSome_map] at q
    rw [← q, ← l]
    exact h _ (I.tok _)
theorem d_notIn {Q : Value → Shared → Prop} (hu : A.units + 1 < cLine) (I : Inv X pins σ H s) (g : DGet H a y o) (ry : RelV y u) (h : ∀ s', Inv X pins σ H s' → Q (.bool (!o.isSome)) s') :
    wpAny (model X.prog X.w) A (compareOp .NotIn u (.ref a)) Q E s := by
  rcases g with ⟨kvs, k, e, ey, l⟩ | ⟨kvs, k, b, e, ey, eb, l⟩
  · subst ey
    obtain ⟨z, hd, vs, rel, dd⟩ := dk_rd I.hok e
    refine wpAny_notIn_of (kV_is ry) hd dd.mapOf ?_
    rw [← (rel.val k).isSome_eq, ← l]
    exact h _ (I.tok _)
  · subst ey
    cases (show u = Value.ref b from ry)
    obtain ⟨z, hd, xs, rel, dd⟩ := dt_rd I.hok e
    refine wpAny_notIn_heap (tupleKind_room_in1 hu) (key_of I.hok eb) hd dd ?_
    have q := (rel.val k).isSome_eq
    rw [Option.isSome_map] at q
    rw [← q, ← l]
    exact h _ (I.tok _)
/-- a dict's object is replaced -/
theorem d_write {h' : Heap} {t' : Nat} {ob : HO} (I : Inv X pins σ H s) (mu : Mut (H a)) (hs : Heap.SameBut a s.heap h') (he : ∃ q, h'.get? a = some q) (new : ObjOk X.prog X.w (upd H a ob) h' a ob) :
    Inv X pins σ (upd H a ob) { s with heap := h', toks := t' } :=
  I.write (x := a) (e := a) mu (.inl rfl) (fun b q hb z => (hs.2 b hb).trans z) he new
theorem dk_new {P : Program} {w : World} {H' : Hp} {h' : Heap} {kvs : List (Key × V)} {vs : List (Key × Value)} (z : kvs.length ≤ sizeLine) (hd : (a == sysModules) = false) (rel : KV kvs vs) (dd : h'.DictOf (mixKind P w) a vs) :
    ObjOk P w H' h' a (.dK kvs) := ⟨z, hd, vs, rel, dd⟩
/-- d[y] = v -/
theorem d_setItem {H' : Hp} {Q : Unit → Shared → Prop} (hu : A.units + 1 < cLine) (I : Inv X pins σ H s) (g : DPut H a y v H') (ry : RelV y u) (rv : RelV v r) (h : ∀ s', Inv X pins σ H' s' → Q () s') :
    wpAny (model X.prog X.w) A (setItem (.ref a) u r) Q E s := by
  rcases g with ⟨kvs, k, e, ey, l, eH⟩ | ⟨kvs, k, b, e, ey, eb, l, eH⟩
  · subst ey eH
    obtain ⟨z, hd, vs, rel, dd⟩ := dk_of I.hok e
    have hz : vs.length ≤ sizeLine := by rw [← rel.length]; exact z
    have hl : (putK kvs k v).length ≤ sizeLine := by have := length_putK kvs k v; omega
    refine wpAny_setItem_pairs (hsz := hz) (kV_is ry) dd fun h' dd' hs => h _ ?_
    have he : ∃ q, h'.get? a = some q := let ⟨q, _, _, hq, _⟩ := dd'; ⟨q, hq⟩
    exact d_write I (by rw [e]; exact True.intro) hs he (dk_new hl hd (rel.put k rv) dd')
  · subst ey eH
    cases (show u = Value.ref b from ry)
    obtain ⟨z, hd, xs, rel, dd⟩ := dt_of I.hok e
    have hz : xs.length ≤ sizeLine := by rw [← Paired.length rel]; exact z
    have hl : (putK kvs k v).length ≤ sizeLine := by have := length_putK kvs k v; omega
    refine wpAny_setItem_heap (hsz := hz) (tupleKind_room_in1 hu) (key_of I.hok eb) dd fun h' dd' hs => h _ ?_
    obtain ⟨q, es, ep, hq, h2, h3, h4, _, h5⟩ := dd'
    refine d_write I (by rw [e]; exact True.intro) hs ⟨q, hq⟩ ⟨hl, hd, _, (rel.put k eb rv).keeps fun c ys ec => ?_, q, es, ep, hq, h2, h3, h4, h5⟩
    rw [upd_ne (ne_of ec e (fun z => nomatch z))]
    exact ec
end

section
variable {X : Cx} {pins : List (Addr × Obj)} {σ : St} {H : Hp} {s : Shared} {a : Addr} {kvs : List (Key × V)} {k : Key} {u : Value} {A : Around} {E : Value → Shared → Prop}
/-- del d[k] -/
theorem d_delItem {Q : Unit → Shared → Prop} (I : Inv X pins σ H s) (e : H a = some (.dK kvs)) (ry : RelV (kV k) u) (l : (valV kvs k).isSome = true) (h : ∀ s', Inv X pins σ (upd H a (.dK (dropK kvs k))) s' → Q () s') :
    wpAny (model X.prog X.w) A (delItem (.ref a) u) Q E s := by
  obtain ⟨z, hd, vs, rel, dd⟩ := dk_of I.hok e
  refine wpAny_delItem_slot dd.typeIs (by decide) PySem.F.slot_dict_delitem
    (call_meetsIn PySem.F.slot_dict_delitem dd.typeIs PySem.F.entry_dict_delitem (PySem.F.args_dict_delitem_2 _ _) (meets_dict_delitem_pairs (mixKind X.prog X.w) a (kV_is ry)) ⟨vs, dd, by rw [← rel.length]; exact z, by rw [← (rel.val k).isSome_eq]; exact l, fun h' dd' hs => h _ ?_⟩)
  have he : ∃ q, h'.get? a = some q := let ⟨q, _, _, hq, _⟩ := dd'; ⟨q, hq⟩
  exact d_write I (by rw [e]; exact True.intro) hs he (dk_new (Nat.le_trans (dropK_le kvs k) z) hd (rel.drop k) dd')
/-- d.pop(k[, x]), there -/
theorem d_pop {v : V} {more : List Value} {Q : Value → Shared → Prop} (I : Inv X pins σ H s) (e : H a = some (.dK kvs)) (ry : RelV (kV k) u) (l : valV kvs k = some v) (hm : more = [] ∨ ∃ x, more = [x])
    (h : ∀ w' s', Inv X pins σ (upd H a (.dK (dropK kvs k))) s' → RelV v w' → Q w' s') : wpAny (model X.prog X.w) A (call (.builtin "dict.pop") (.ref a :: u :: more)) Q E s := by
  obtain ⟨z, hd, vs, rel, dd⟩ := dk_of I.hok e
  obtain ⟨w', hw, rw'⟩ := RelO.some_of (v := v) (o := valueAt vs k) (by rw [← l]; exact rel.val k)
  have hp : (keyPart u).isSome = true := by
    cases k with
    | inl i => obtain ⟨t, q⟩ := (show ∃ t, u = Value.int i t from ry); subst q; rfl
    | inr x => obtain ⟨t, q⟩ := (show ∃ t, u = Value.str x t from ry); subst q; rfl
  have ha : argsOk "dict.pop" ⟨.ref a :: u :: more, []⟩ := by
    rcases hm with q | ⟨x, q⟩
    · subst q; exact PySem.F.args_dict_pop_2 _ _
    · subst q; exact PySem.F.args_dict_pop_3 _ _ _
  refine call_meetsIn PySem.F.slot_dict_pop dd.typeIs PySem.F.entry_dict_pop ha (meets_dict_pop_there (mixKind X.prog X.w) a (kV_is ry) more hm hp)
    ⟨vs, w', dd, by rw [← rel.length]; exact z, hw, fun h' dd' hs => h w' _ ?_ rw'⟩
  have he : ∃ q, h'.get? a = some q := let ⟨q, _, _, hq, _⟩ := dd'; ⟨q, hq⟩
  exact d_write I (by rw [e]; exact True.intro) hs he (dk_new (Nat.le_trans (dropK_le kvs k) z) hd (rel.drop k) dd')
/-- d.pop(k, x), not there -/
theorem d_popD {r : Value} {Q : Value → Shared → Prop} (I : Inv X pins σ H s) (e : H a = some (.dK kvs)) (ry : RelV (kV k) u) (l : valV kvs k = none) (h : ∀ s', Inv X pins σ H s' → Q r s') :
    wpAny (model X.prog X.w) A (call (.builtin "dict.pop") [.ref a, u, r]) Q E s := by
  obtain ⟨z, hd, vs, rel, dd⟩ := dk_of I.hok e
  have hn : valueAt vs k = none := RelO.none_of (by rw [← l]; exact rel.val k)
  have hp : (keyPart u).isSome = true := by
    cases k with
    | inl i => obtain ⟨t, q⟩ := (show ∃ t, u = Value.int i t from ry); subst q; rfl
    | inr x => obtain ⟨t, q⟩ := (show ∃ t, u = Value.str x t from ry); subst q; rfl
  exact call_meetsIn PySem.F.slot_dict_pop dd.typeIs PySem.F.entry_dict_pop (PySem.F.args_dict_pop_3 _ _ _) (meets_dict_pop_default (mixKind X.prog X.w) a (kV_is ry) hd hp r) ⟨vs, dd, hn, h _ (I.tok _)⟩
/-- d.clear() -/
theorem d_clear {Q : Value → Shared → Prop} (I : Inv X pins σ H s) (e : H a = some (.dK kvs)) (h : ∀ s', Inv X pins σ (upd H a (.dK [])) s' → Q .none s') : wpAny (model X.prog X.w) A (call (.builtin "dict.clear") [.ref a]) Q E s := by
  obtain ⟨z, hd, vs, rel, dd⟩ := dk_of I.hok e
  refine call_meetsIn PySem.F.slot_dict_clear dd.typeIs PySem.F.entry_dict_clear (PySem.F.args_dict_clear_1 _) (meets_dict_clear (mixKind X.prog X.w) a) ⟨vs, dd, by rw [← rel.length]; exact z, fun h' dd' hs => h _ ?_⟩
  have he : ∃ q, h'.get? a = some q := let ⟨q, _, _, hq, _⟩ := dd'; ⟨q, hq⟩
  exact d_write (t' := s.toks) I (by rw [e]; exact True.intro) hs he (dk_new (Nat.zero_le _) hd .nil dd')
/-- len(d) -/
theorem d_len {Q : Value → Shared → Prop} (I : Inv X pins σ H s) (e : Rd H a (.dK kvs)) (h : ∀ t s', Inv X pins σ H s' → Q (.int kvs.length t) s') : wpAny (model X.prog X.w) A (call (.builtin "len") [.ref a]) Q E s := by
  obtain ⟨z, hd, vs, rel, dd⟩ := dk_rd I.hok e
  refine call_len_dict hd dd (by rw [← rel.length]; rw [sizeLine_eq] at z; omega) ?_
  rw [← rel.length]
  exact h _ _ (I.tok _)
/-- if d -/
theorem d_truth {Q : Bool → Shared → Prop} (I : Inv X pins σ H s) (e : Rd H a (.dK kvs)) (h : ∀ s', Inv X pins σ H s' → Q (!kvs.isEmpty) s') : wpAny (model X.prog X.w) A (truthy (.ref a)) Q E s := by
  obtain ⟨z, hd, vs, rel, dd⟩ := dk_rd I.hok e
  refine wpAny_truthy_dict hd dd (by rw [← rel.length]; rw [sizeLine_eq] at z; omega) ?_
  have q : kvs.isEmpty = vs.isEmpty := by cases rel <;> rfl
  rw [← q]
  exact h _ (I.tok _)
end


/-! ### readings and rules -/
/-- the element of a subscription, not a slice -/
def NoSl (i : Expr) : Prop := ∀ ov iv, subscripted i false ov iv = operate [ov, iv] (getItem ov iv)
theorem subD_of {prog : Program} {w : World} {A : Around} {E : Value → Shared → Prop} {s : Shared} {env : Env} {value slice : Expr} {pos : Pos} {T id : String} {Q : Value → Shared → Prop}
    (hl : typeLookup (.type T) "__getitem__" = pure (some (.builtin id))) (hs : NoSl slice)
    (h : wpAny (model prog w) A (eval value env) (fun o s₁ => wpAny (model prog w) A (eval slice env) (fun i s₂ => s₂.TypeIs o T ∧ wpAny (model prog w) A (getItem o i) Q E s₂) E s₁) E s) :
    wpAny (model prog w) A (eval (.Subscript value slice pos) env) Q E s := by
  refine Subscript_ (wpAny_mono h (fun o s₁ h₁ => wpAny_mono h₁ (fun i s₂ h₂ => ?_) fun _ _ x => x) fun _ _ x => x)
  obtain ⟨hT, h₂⟩ := h₂
  unfold subscriptTail
  refine wpAny_bind ?_
  rw [getitemInPython_of_ne hT.not_modules]
  refine wpAny_bind (wpAny_specialOf hT hl ?_)
  have fin : wpAny (model prog w) A (subscripted slice false o i) (fun r s₃ => wpAny (model prog w) A (letTemporaryGo value o r >>= fun _ => pure r) Q E s₃) E s₂ := by
    rw [hs o i]
    exact wpAny_operating (wpAny_mono h₂ (fun r s₃ h₃ => wpAny_bind (wpAny_letTemporaryGo (wpAny_pure h₃))) fun _ _ x => x)
  first
    | exact wpAny_pure (wpAny_bind fin)
    | exact wpAny_bind (wpAny_pure (wpAny_bind fin))
    | exact wpAny_bind fin

theorem dict_typeIs {X : Cx} {pins : List (Addr × Obj)} {σ : St} {H : Hp} {s : Shared} {a : Addr} {y : V} {o : Option V} (I : Inv X pins σ H s) (g : DGet H a y o) : s.TypeIs (.ref a) "dict" := by
  rcases g with ⟨kvs, k, e, _, _⟩ | ⟨kvs, k, b, e, _, _, _⟩
  · obtain ⟨_, _, vs, _, dd⟩ := dk_rd I.hok e
    exact dd.typeIs
  · obtain ⟨_, _, xs, _, dd⟩ := dt_rd I.hok e
    exact dd.typeIs
theorem dict_noDict {X : Cx} {pins : List (Addr × Obj)} {σ : St} {H : Hp} {s : Shared} {a : Addr} {y : V} {o : Option V} (I : Inv X pins σ H s) (g : DGet H a y o) :
    ∀ b, Value.ref a = .ref b → ∃ ob, s.heap.get? b = some ob ∧ ob.dict = none := fun b q => by
  cases q
  rcases g with ⟨kvs, k, e, _, _⟩ | ⟨kvs, k, b, e, _, _, _⟩
  · obtain ⟨_, _, vs, _, ob, _, _, h1, h2, _⟩ := dk_rd I.hok e
    exact ⟨ob, h1, h2.2.1⟩
  · obtain ⟨_, _, xs, _, ob, _, _, h1, h2, _⟩ := dt_rd I.hok e
    exact ⟨ob, h1, h2.2.1⟩

/-- d[y] -/
def tDGet (td ty : TE) : TE := fun σ H Q => td σ H fun x H1 => ty σ H1 fun y H2 => ∃ a v, x = .ref a ∧ DGet H2 a y (some v) ∧ Q v H2
/-- y in d, y not in d -/
def tDIn (ty td : TE) : TE := fun σ H Q => ty σ H fun y H1 => td σ H1 fun x H2 => ∃ a o, x = .ref a ∧ DGet H2 a y o ∧ Q (.bl o.isSome) H2
def tDNotIn (ty td : TE) : TE := fun σ H Q => ty σ H fun y H1 => td σ H1 fun x H2 => ∃ a o, x = .ref a ∧ DGet H2 a y o ∧ Q (.bl (!o.isSome)) H2
/-- d[y] = v -/
def sDPut (td ty tv : TE) : TS := fun D σ H => tv σ H fun v H1 => td σ H1 fun x H2 => ty σ H2 fun y H3 => ∃ a H4, x = .ref a ∧ DPut H3 a y v H4 ∧ D.nx σ H4
/-- d[y] op= v -/
def sDAug (td ty tv : TE) (rd : V → V → Hp → VK → Prop) : TS := fun D σ H => td σ H fun x H1 => ty σ H1 fun y H2 => ∃ a v, x = .ref a ∧ DGet H2 a y (some v) ∧
  tv σ H2 fun y2 H3 => rd v y2 H3 fun z H4 => ∃ H5, DPut H4 a y z H5 ∧ D.nx σ H5
/-- del d[y] -/
def sDDel (td ty : TE) : TS := fun D σ H => td σ H fun x H1 => ty σ H1 fun y H2 => ∃ a kvs k, x = .ref a ∧ H2 a = some (.dK kvs) ∧ y = kV k ∧ (valV kvs k).isSome = true ∧ D.nx σ (upd H2 a (.dK (dropK kvs k)))

section
variable {X : Cx} {o i e value : Expr} {pos pos' tpos : Pos} {td ty tv : TE}
theorem pe_dget (hu : X.A.units + 1 < cLine) (ho : PE X o td) (hi : PE X i ty) (hs : NoSl i) : PE X (.Subscript o i pos) (tDGet td ty) := by
  intro pins s σ H Q I h
  refine subD_of PySem.F.slot_dict_getitem.lookup hs (thn (ho pins s σ H _ I h) fun u s1 ⟨x, H1, I1, rx, q1⟩ => thn (hi pins s1 σ H1 _ I1 q1) fun iv s2 ⟨y, H2, I2, ry, a, v, ex, g, q2⟩ => ?_)
  subst ex
  obtain rfl : u = Value.ref a := rx
  exact ⟨dict_typeIs I2 g, d_getItem hu I2 g ry fun w' s3 I3 rw' => ⟨v, H2, I3, rw', q2⟩⟩
theorem pc_din (hu : X.A.units + 1 < cLine) (hi : PE X i ty) (ho : PE X o td) : PC X .In i o (tDIn ty td) := by
  intro pins s σ H Q I h
  refine thn (hi pins s σ H _ I h) fun iv s1 ⟨y, H1, I1, ry, q1⟩ => thn (ho pins s1 σ H1 _ I1 q1) fun u s2 ⟨x, H2, I2, rx, a, ov, ex, g, q2⟩ => ?_
  subst ex
  obtain rfl : u = Value.ref a := rx
  exact d_in hu I2 g ry fun s3 I3 => ⟨.bl ov.isSome, H2, I3, rfl, q2⟩
theorem pc_dnotin (hu : X.A.units + 1 < cLine) (hi : PE X i ty) (ho : PE X o td) : PC X .NotIn i o (tDNotIn ty td) := by
  intro pins s σ H Q I h
  refine thn (hi pins s σ H _ I h) fun iv s1 ⟨y, H1, I1, ry, q1⟩ => thn (ho pins s1 σ H1 _ I1 q1) fun u s2 ⟨x, H2, I2, rx, a, ov, ex, g, q2⟩ => ?_
  subst ex
  obtain rfl : u = Value.ref a := rx
  exact d_notIn hu I2 g ry fun s3 I3 => ⟨.bl (!ov.isSome), H2, I3, rfl, q2⟩
theorem ps_dput (hu : X.A.units + 1 < cLine) (ho : PE X o td) (hi : PE X i ty) (hv : PE X value tv) (hs : swapsWith value (some (.Subscript o i pos')) pos.line X.env = pure false) :
    PS X (.Assign [.Subscript o i pos'] value pos) (sDPut td ty tv) := by
  intro pins s σ H D I h
  refine wpAny_Assign_Subscript (thn (hv pins s σ H _ I h) fun r s1 ⟨v, H1, I1, rv, q1⟩ => thn (ho pins s1 σ H1 _ I1 q1) fun u s2 ⟨x, H2, I2, rx, q2⟩ => thn (hi pins s2 σ H2 _ I2 q2) fun iv s3 ⟨y, H3, I3, ry, a, H4, ex, g, q3⟩ => ?_) hs
  subst ex
  obtain rfl : u = Value.ref a := rx
  exact d_setItem hu I3 g ry rv fun s4 I4 => ⟨σ, H4, I4, q3⟩
theorem ps_daug {op : Operator} {rd : V → V → Hp → VK → Prop} (hu : X.A.units + 1 < cLine) (ho : PE X o td) (hi : PE X i ty) (hv : PE X value tv) (hop : InOp X op rd)
    (ha : ∀ ov iv new, augStore i ov iv new = (do holding [new, ov, iv] (setItem ov iv new); release [new, ov, iv] []; pure .next)) : PS X (.AugAssign (.Subscript o i tpos) op value pos) (sDAug td ty tv rd) := by
  intro pins s σ H D I h
  refine wpAny_AugAssign_SubscriptAny (thn (ho pins s σ H _ I h) fun u s1 ⟨x, H1, I1, rx, q1⟩ => thn (hi pins s1 σ H1 _ I1 q1) fun iv s2 ⟨y, H2, I2, ry, a, v, ex, g, q2⟩ => ?_) ha
  subst ex
  obtain rfl : u = Value.ref a := rx
  refine d_getItem hu I2 g ry fun w' s3 I3 rw' => thn (hv pins s3 σ H2 _ I3 q2) fun w2 s4 ⟨y2, H3, I4, ry2, q3⟩ => thn (hop pins s4 σ H3 v y2 w' w2 _ I4 rw' ry2 q3) fun w3 s5 ⟨z, H4, I5, rz, H5, g5, q4⟩ => ?_
  exact d_setItem hu I5 g5 ry rz fun s6 I6 => ⟨σ, H5, I6, q4⟩
theorem ps_ddel (ho : PE X o td) (hi : PE X i ty) : PS X (.Delete [.Subscript o i tpos] pos) (sDDel td ty) := by
  intro pins s σ H D I h
  refine wpAny_Delete (wpAny_deleteEach_cons (wpAny_delete_Subscript (thn (ho pins s σ H _ I h) fun u s1 ⟨x, H1, I1, rx, q1⟩ => thn (hi pins s1 σ H1 _ I1 q1) fun iv s2 ⟨y, H2, I2, ry, a, kvs, k, ex, e, ey, l, q2⟩ => ?_)))
  subst ex ey
  obtain rfl : u = Value.ref a := rx
  exact d_delItem I2 e ry l fun s3 I3 => wpAny_deleteEach_nil ⟨σ, _, I3, q2⟩
end


/-! ### displays -/
theorem dk_empty {P : Program} {w : World} {H : Hp} (h : Heap) (hb : sysModules < h.objs.size) : ObjOk P w H (h.push { cls := .type "dict", data := .dict #[] }) h.objs.size (.dK []) :=
  ⟨Nat.zero_le _, beq_eq_false_iff_ne.mpr (Ne.symm (Nat.ne_of_lt hb)), [], .nil, Heap.DictOf.new h⟩
theorem dt_empty {P : Program} {w : World} {H : Hp} (h : Heap) (hb : sysModules < h.objs.size) : ObjOk P w H (h.push { cls := .type "dict", data := .dict #[] }) h.objs.size (.dT []) :=
  ⟨Nat.zero_le _, beq_eq_false_iff_ne.mpr (Ne.symm (Nat.ne_of_lt hb)), [], .nil, _, #[], 0, Heap.get?_push_size _ rfl, ⟨rfl, rfl, rfl⟩, rfl, rfl, List.nodup_nil⟩
/-- {}, to be a dict of the kind that is wanted -/
def tDNewK : TE := fun _ H Q => ∀ p, H p = none → Q (.ref p) (upd H p (.dK []))
def tDNewT : TE := fun _ H Q => ∀ p, H p = none → Q (.ref p) (upd H p (.dT []))
section
variable {X : Cx} {pos : Pos}
theorem pe_dnewK : PE X (.Dict [] [] pos) tDNewK := fun pins s σ H Q I h =>
  wpAny_Dict_empty ⟨.ref s.heap.objs.size, _, I.laid (a := s.heap.objs.size) (o := .dK []) (t' := s.toks) (fun _ _ q => Heap.get?_push_of_some _ q) (Nat.le_refl _) (dk_empty s.heap I.big), rfl, h _ (I.hok.fresh (Nat.le_refl _))⟩
theorem pe_dnewT : PE X (.Dict [] [] pos) tDNewT := fun pins s σ H Q I h =>
  wpAny_Dict_empty ⟨.ref s.heap.objs.size, _, I.laid (a := s.heap.objs.size) (o := .dT []) (t' := s.toks) (fun _ _ q => Heap.get?_push_of_some _ q) (Nat.le_refl _) (dt_empty s.heap I.big), rfl, h _ (I.hok.fresh (Nat.le_refl _))⟩
end

/-- the pairs of a display, from the left -/
def tPairs : List (TE × TE) → St → Hp → (List (V × V) → Hp → Prop) → Prop
  | [], _, H, Q => Q [] H
  | (tk, tv) :: r, σ, H, Q => tk σ H fun x H1 => tv σ H1 fun y H2 => tPairs r σ H2 fun ps H3 => Q ((x, y) :: ps) H3
abbrev VV : List (V × V) → List (Value × Value) → Prop := Paired fun p q => RelV p.1 q.1 ∧ RelV p.2 q.2
def PPs (X : Cx) (pos : Pos) (keys : List (Option Expr)) (values : List Expr) (trs : List (TE × TE)) : Prop :=
  ∀ (pins : List (Addr × Obj)) (s : Shared) (σ : St) (H : Hp) (Q : List (V × V) → Hp → Prop), Inv X pins σ H s → tPairs trs σ H Q →
    wpAny (model X.prog X.w) X.A (evalPairs (pairTrees keys values X.env pos)) (fun vs s' => ∃ ps H', Inv X pins σ H' s' ∧ VV ps vs ∧ Q ps H') X.xe s
theorem pps_nil {X : Cx} {pos : Pos} : PPs X pos [] [] [] := fun pins s σ H Q I h => pairTrees_nil_walk ⟨[], H, I, .nil, h⟩
theorem pps_cons {X : Cx} {pos : Pos} {k v : Expr} {ks : List (Option Expr)} {vs : List Expr} {tk tv : TE} {trs : List (TE × TE)} (hk : PE X k tk) (hv : PE X v tv) (hr : PPs X pos ks vs trs) :
    PPs X pos (some k :: ks) (v :: vs) ((tk, tv) :: trs) := fun pins s σ H Q I h =>
  pairTrees_cons_walk (thn (hk pins s σ H _ I h) fun u s1 ⟨x, H1, I1, rx, q1⟩ => thn (hv pins s1 σ H1 _ I1 q1) fun w2 s2 ⟨y, H2, I2, ry, q2⟩ =>
    thn (hr pins s2 σ H2 _ I2 q2) fun ws s3 ⟨ps, H3, I3, rel, q3⟩ => ⟨(x, y) :: ps, H3, I3, .cons ⟨rx, ry⟩ rel, q3⟩)

def mergeK (kvs more : List (Key × V)) : List (Key × V) := more.foldl (fun acc kv => putK acc kv.1 kv.2) kvs
theorem KV.merge : ∀ {more : List (Key × V)} {rs : List (Key × Value)} {kvs : List (Key × V)} {vs : List (Key × Value)}, KV more rs → KV kvs vs → KV (mergeK kvs more) (merged vs rs) := by
  intro more rs kvs vs r
  unfold KV at r
  induction r generalizing kvs vs with
  | nil => intro q; exact q
  | @cons p q ps qs h t ih =>
    intro r0
    have e : KV (putK kvs p.1 p.2) (stored vs q.1 q.2) := by
      have := r0.put p.1 h.2
      rw [← h.1]; exact this
    exact ih e
theorem length_mergeK : ∀ (more kvs : List (Key × V)), (mergeK kvs more).length ≤ kvs.length + more.length
  | [], kvs => by show kvs.length ≤ kvs.length + 0; omega
  | p :: r, kvs => by
    have h1 := length_mergeK r (putK kvs p.1 p.2)
    have h2 := length_putK kvs p.1 p.2
    show (mergeK (putK kvs p.1 p.2) r).length ≤ _
    rw [List.length_cons]; omega
theorem carries_of {P : Program} {w : World} : ∀ {kvs : List (Key × V)} {ws : List (Value × Value)}, VV (kvs.map fun kv => (kV kv.1, kv.2)) ws → ∃ rs, Carries (mixKind P w) ws rs ∧ KV kvs rs
  | [], _, r => by rw [List.map_nil] at r; cases r; exact ⟨[], True.intro, .nil⟩
  | p :: kvs, _, r => by
    rw [List.map_cons] at r
    cases r with
    | @cons a b as bs h t =>
      obtain ⟨rs, c, q⟩ := carries_of (P := P) (w := w) t
      obtain ⟨b1, b2⟩ := b
      exact ⟨(p.1, b2) :: rs, ⟨kV_is h.1, rfl, c⟩, .cons ⟨rfl, h.2⟩ q⟩
/-- {k: v, ..} with keys ints and texts; the new dict stands empty while the pairs are made -/
def tDisp (trs : List (TE × TE)) : TE := fun σ H Q => ∀ p, H p = none → tPairs trs σ (upd H p (.dK [])) fun ps H2 => H2 p = some (.dK []) ∧ ∃ kvs : List (Key × V), ps = kvs.map (fun kv => (kV kv.1, kv.2)) ∧ kvs.length ≤ 15 ∧ Q (.ref p) (upd H2 p (.dK (mergeK [] kvs)))
theorem pe_disp {X : Cx} {pos : Pos} {keys : List (Option Expr)} {values : List Expr} {trs : List (TE × TE)} (h : PPs X pos keys values trs) (hall : keys.all (·.isSome) = true) (hl : keys.length = values.length) (h0 : keys ≠ [])
    (h15 : keys.length ≤ 15) : PE X (.Dict keys values pos) (tDisp trs) := by
  intro pins s σ H Q I q
  have hn := I.hok.fresh (Nat.le_refl s.heap.objs.size)
  have I1 := I.laid (a := s.heap.objs.size) (o := .dK []) (h' := s.heap.push { cls := .type "dict", data := .dict #[] }) (t' := s.toks) (fun _ _ q => Heap.get?_push_of_some _ q) (Nat.le_refl _) (dk_empty s.heap I.big)
  refine wpAny_Dict_walk (knd := mixKind X.prog X.w) hall hl h0 h15 (thn (h pins _ σ _ _ I1 (q _ hn)) fun ws s2 ⟨ps, H2, I2, rel, e, kvs, ep, lk, q2⟩ => ?_)
  subst ep
  obtain ⟨rs, c, rk⟩ := carries_of (P := X.prog) (w := X.w) rel
  obtain ⟨z, hd, vs0, r0, dd⟩ := dk_of I2.hok e
  cases r0
  refine ⟨rs, c, dd, fun h' dd' hs => ⟨.ref s.heap.objs.size, _, ?_, rfl, q2⟩⟩
  have hz : (mergeK [] kvs).length ≤ sizeLine := by
    have h1 := length_mergeK kvs []
    rw [List.length_nil] at h1
    rw [sizeLine_eq]; omega
  have he : ∃ q, h'.get? s.heap.objs.size = some q := let ⟨q, _, _, hq, _⟩ := dd'; ⟨q, hq⟩
  exact d_write I2 (by rw [e]; exact True.intro) hs he (dk_new hz hd (rk.merge .nil) dd')


/-! ### methods -/
/-- a method call o.m(e) of a built-in, with one argument: what must be seen of the text -/
structure M1 (X : Cx) (o : Expr) (m : Str) (apos : Pos) (e : Expr) (cpos : Pos) : Prop where
  base : attributeBase o m X.env (eval o X.env) = eval o X.env
  few : ((backTo cpos (starEach [e] X.env)).all (fun x => !x.1) && (backToKw cpos (keywordEach [] X.env)).all (fun x => x.1.isSome)
    && decide (([e] : List Expr).length + ([] : List Keyword).length + (if ([] : List Keyword).isEmpty then 0 else 1) < 30)) = true
  line : (apos.endLine == cpos.line) = true
  trees : backTo cpos (starEach [e] X.env) = [(false, eval e X.env)]
structure M2 (X : Cx) (o : Expr) (m : Str) (apos : Pos) (e f : Expr) (cpos : Pos) : Prop where
  base : attributeBase o m X.env (eval o X.env) = eval o X.env
  few : ((backTo cpos (starEach [e, f] X.env)).all (fun x => !x.1) && (backToKw cpos (keywordEach [] X.env)).all (fun x => x.1.isSome)
    && decide (([e, f] : List Expr).length + ([] : List Keyword).length + (if ([] : List Keyword).isEmpty then 0 else 1) < 30)) = true
  line : (apos.endLine == cpos.line) = true
  trees : backTo cpos (starEach [e, f] X.env) = [(false, eval e X.env), (false, eval f X.env)]

/-- a is a dict, whatever its keys -/
def IsD (H : Hp) (a : Addr) : Prop := (∃ kvs, Rd H a (.dK kvs)) ∨ ∃ kvs, Rd H a (.dT kvs)
theorem isD_at {X : Cx} {pins : List (Addr × Obj)} {σ : St} {H : Hp} {s : Shared} {a : Addr} (I : Inv X pins σ H s) (d : IsD H a) :
    s.TypeIs (.ref a) "dict" ∧ (∀ b, Value.ref a = .ref b → ∃ ob, s.heap.get? b = some ob ∧ ob.dict = none) ∧ (a == sysModules) = false := by
  rcases d with ⟨kvs, e⟩ | ⟨kvs, e⟩
  · obtain ⟨_, hd, vs, _, dd⟩ := dk_rd I.hok e
    refine ⟨dd.typeIs, fun b q => ?_, hd⟩
    cases q
    obtain ⟨ob, _, _, h1, h2, _⟩ := dd
    exact ⟨ob, h1, h2.2.1⟩
  · obtain ⟨_, hd, xs, _, dd⟩ := dt_rd I.hok e
    refine ⟨dd.typeIs, fun b q => ?_, hd⟩
    cases q
    obtain ⟨ob, _, _, h1, h2, _⟩ := dd
    exact ⟨ob, h1, h2.2.1⟩

section
variable {X : Cx} {pins : List (Addr × Obj)} {σ : St} {H : Hp} {s : Shared} {a : Addr} {y d : V} {u r : Value} {o : Option V} {A : Around} {E : Value → Shared → Prop}
/-- d.get(y) -/
theorem d_get1 {Q : Value → Shared → Prop} (hu : A.units + 1 < cLine) (I : Inv X pins σ H s) (g : DGet H a y o) (ry : RelV y u) (h : ∀ w' s', Inv X pins σ H s' → RelV (o.getD .non) w' → Q w' s') :
    wpAny (model X.prog X.w) A (call (.builtin "dict.get") [.ref a, u]) Q E s := by
  rcases g with ⟨kvs, k, e, ey, l⟩ | ⟨kvs, k, b, e, ey, eb, l⟩
  · subst ey
    obtain ⟨z, hd, vs, rel, dd⟩ := dk_rd I.hok e
    refine call_meetsIn PySem.F.slot_dict_get dd.typeIs PySem.F.entry_dict_get (PySem.F.args_dict_get_2 _ _) (meets_dict_get (mixKind X.prog X.w) a (kV_is ry) hd) ⟨_, dd.mapOf, h _ _ (I.tok _) ?_⟩
    rw [l]
    exact (rel.val k).getD rfl
  · subst ey
    cases (show u = Value.ref b from ry)
    obtain ⟨z, hd, xs, rel, dd⟩ := dt_rd I.hok e
    refine call_meetsIn PySem.F.slot_dict_get dd.typeIs PySem.F.entry_dict_get (PySem.F.args_dict_get_2 _ _) (meetsH_dict_get (tupleKind (mixKind X.prog X.w)) a b hd) ⟨tupleKind_room_in1 hu, k, xs, key_of I.hok eb, dd, h _ _ (I.tok _) ?_⟩
    rw [l]
    exact (rel.val k).getD rfl
/-- d.get(y, x) -/
theorem d_get2 {Q : Value → Shared → Prop} (hu : A.units + 1 < cLine) (I : Inv X pins σ H s) (g : DGet H a y o) (ry : RelV y u) (rd : RelV d r) (h : ∀ w' s', Inv X pins σ H s' → RelV (o.getD d) w' → Q w' s') :
    wpAny (model X.prog X.w) A (call (.builtin "dict.get") [.ref a, u, r]) Q E s := by
  rcases g with ⟨kvs, k, e, ey, l⟩ | ⟨kvs, k, b, e, ey, eb, l⟩
  · subst ey
    obtain ⟨z, hd, vs, rel, dd⟩ := dk_rd I.hok e
    refine call_meetsIn PySem.F.slot_dict_get dd.typeIs PySem.F.entry_dict_get (PySem.F.args_dict_get_3 _ _ _) (meets_dict_get_default (mixKind X.prog X.w) a (kV_is ry) hd r) ⟨_, dd.mapOf, h _ _ (I.tok _) ?_⟩
    rw [l]
    exact (rel.val k).getD rd
  · subst ey
    cases (show u = Value.ref b from ry)
    obtain ⟨z, hd, xs, rel, dd⟩ := dt_rd I.hok e
    refine call_meetsIn PySem.F.slot_dict_get dd.typeIs PySem.F.entry_dict_get (PySem.F.args_dict_get_3 _ _ _) (meetsH_dict_get_default (tupleKind (mixKind X.prog X.w)) a b hd r) ⟨tupleKind_room_in1 hu, k, xs, key_of I.hok eb, dd, h _ _ (I.tok _) ?_⟩
    rw [l]
    exact (rel.val k).getD rd
end

def tDGet1 (td ty : TE) : TE := fun σ H Q => td σ H fun x H1 => ∃ a, x = .ref a ∧ IsD H1 a ∧ ty σ H1 fun y H2 => ∃ o, DGet H2 a y o ∧ Q (o.getD .non) H2
def tDGet2 (td ty tx : TE) : TE := fun σ H Q => td σ H fun x H1 => ∃ a, x = .ref a ∧ IsD H1 a ∧ ty σ H1 fun y H2 => tx σ H2 fun z H3 => ∃ o, DGet H3 a y o ∧ Q (o.getD z) H3
/-- d.pop(k): there; d.pop(k, x): there or not -/
def tDPop1 (td ty : TE) : TE := fun σ H Q => td σ H fun x H1 => ∃ a, x = .ref a ∧ IsD H1 a ∧ ty σ H1 fun y H2 => ∃ kvs k v, H2 a = some (.dK kvs) ∧ y = kV k ∧ valV kvs k = some v ∧ Q v (upd H2 a (.dK (dropK kvs k)))
def tDPop2 (td ty tx : TE) : TE := fun σ H Q => td σ H fun x H1 => ∃ a, x = .ref a ∧ IsD H1 a ∧ ty σ H1 fun y H2 => tx σ H2 fun z H3 => ∃ kvs k, H3 a = some (.dK kvs) ∧ y = kV k ∧
  (∀ v, valV kvs k = some v → Q v (upd H3 a (.dK (dropK kvs k)))) ∧ (valV kvs k = none → Q z H3)
section
variable {X : Cx} {o e f : Expr} {apos cpos : Pos} {td ty tx : TE}
theorem pe_dget1 (hu : X.A.units + 1 < cLine) (ho : PE X o td) (he : PE X e ty) (m : M1 X o "get" apos e cpos) : PE X (.Call (.Attribute o "get" apos) [e] [] cpos) (tDGet1 td ty) := by
  intro pins s σ H Q I h
  refine wpAny_Call_method m.base m.few m.line PySem.F.plainAttrs_dict PySem.F.slot_dict_get PySem.F.type_dict_get (thn (ho pins s σ H _ I h) fun u s1 ⟨x, H1, I1, rx, a, ex, d, q1⟩ => ?_)
  subst ex
  obtain rfl : u = Value.ref a := rx
  obtain ⟨t1, t2, _⟩ := isD_at I1 d
  refine ⟨t1, t2, ?_⟩
  rw [m.trees]
  refine Calls.callWith_builtin rfl (Calls.evalArgs_plain (Calls.spliced_cons (thn (he pins s1 σ H1 _ I1 q1) fun iv s2 ⟨y, H2, I2, ry, ov, g, q2⟩ => Calls.spliced_nil ?_)))
  exact d_get1 hu I2 g ry fun w' s3 I3 rw' => ⟨_, H2, I3, rw', q2⟩
theorem pe_dget2 (hu : X.A.units + 1 < cLine) (ho : PE X o td) (he : PE X e ty) (hf : PE X f tx) (m : M2 X o "get" apos e f cpos) : PE X (.Call (.Attribute o "get" apos) [e, f] [] cpos) (tDGet2 td ty tx) := by
  intro pins s σ H Q I h
  refine wpAny_Call_method m.base m.few m.line PySem.F.plainAttrs_dict PySem.F.slot_dict_get PySem.F.type_dict_get (thn (ho pins s σ H _ I h) fun u s1 ⟨x, H1, I1, rx, a, ex, d, q1⟩ => ?_)
  subst ex
  obtain rfl : u = Value.ref a := rx
  obtain ⟨t1, t2, _⟩ := isD_at I1 d
  refine ⟨t1, t2, ?_⟩
  rw [m.trees]
  refine Calls.callWith_builtin rfl (Calls.evalArgs_plain (Calls.spliced_cons (thn (he pins s1 σ H1 _ I1 q1) fun iv s2 ⟨y, H2, I2, ry, q2⟩ =>
    Calls.spliced_cons (thn (hf pins s2 σ H2 _ I2 q2) fun fv s3 ⟨z, H3, I3, rz, ov, g, q3⟩ => Calls.spliced_nil ?_))))
  exact d_get2 hu I3 g ry rz fun w' s4 I4 rw' => ⟨_, H3, I4, rw', q3⟩
theorem pe_dpop1 (ho : PE X o td) (he : PE X e ty) (m : M1 X o "pop" apos e cpos) : PE X (.Call (.Attribute o "pop" apos) [e] [] cpos) (tDPop1 td ty) := by
  intro pins s σ H Q I h
  refine wpAny_Call_method m.base m.few m.line PySem.F.plainAttrs_dict PySem.F.slot_dict_pop PySem.F.type_dict_pop (thn (ho pins s σ H _ I h) fun u s1 ⟨x, H1, I1, rx, a, ex, d, q1⟩ => ?_)
  subst ex
  obtain rfl : u = Value.ref a := rx
  obtain ⟨t1, t2, _⟩ := isD_at I1 d
  refine ⟨t1, t2, ?_⟩
  rw [m.trees]
  refine Calls.callWith_builtin rfl (Calls.evalArgs_plain (Calls.spliced_cons (thn (he pins s1 σ H1 _ I1 q1) fun iv s2 ⟨y, H2, I2, ry, kvs, k, v, ea, ey, l, q2⟩ => Calls.spliced_nil ?_)))
  subst ey
  exact d_pop I2 ea ry l (.inl rfl) fun w' s3 I3 rw' => ⟨v, _, I3, rw', q2⟩
theorem pe_dpop2 (ho : PE X o td) (he : PE X e ty) (hf : PE X f tx) (m : M2 X o "pop" apos e f cpos) : PE X (.Call (.Attribute o "pop" apos) [e, f] [] cpos) (tDPop2 td ty tx) := by
  intro pins s σ H Q I h
  refine wpAny_Call_method m.base m.few m.line PySem.F.plainAttrs_dict PySem.F.slot_dict_pop PySem.F.type_dict_pop (thn (ho pins s σ H _ I h) fun u s1 ⟨x, H1, I1, rx, a, ex, d, q1⟩ => ?_)
  subst ex
  obtain rfl : u = Value.ref a := rx
  obtain ⟨t1, t2, _⟩ := isD_at I1 d
  refine ⟨t1, t2, ?_⟩
  rw [m.trees]
  refine Calls.callWith_builtin rfl (Calls.evalArgs_plain (Calls.spliced_cons (thn (he pins s1 σ H1 _ I1 q1) fun iv s2 ⟨y, H2, I2, ry, q2⟩ =>
    Calls.spliced_cons (thn (hf pins s2 σ H2 _ I2 q2) fun fv s3 ⟨z, H3, I3, rz, kvs, k, ea, ey, q3, q4⟩ => Calls.spliced_nil ?_))))
  subst ey
  cases l : valV kvs k with
  | some v => exact d_pop I3 ea ry l (.inr ⟨fv, rfl⟩) fun w' s4 I4 rw' => ⟨v, _, I4, rw', q3 v l⟩
  | none => exact d_popD I3 ea ry l fun s4 I4 => ⟨z, H3, I4, rz, q4 l⟩
end

/-! ### dict(d): a copy -/
section
variable {X : Cx} {pins : List (Addr × Obj)} {σ : St} {H : Hp} {s : Shared} {a : Addr} {kvs : List (Key × V)} {A : Around} {E : Value → Shared → Prop}
theorem d_copyOf {Q : Value → Shared → Prop} (I : Inv X pins σ H s) (e : Rd H a (.dK kvs)) (h : ∀ p s', H p = none → Inv X pins σ (upd H p (.dK kvs)) s' → Q (.ref p) s') : wpAny (model X.prog X.w) A (call (.type "dict") [.ref a]) Q E s := by
  obtain ⟨z, hd, vs, rel, dd⟩ := dk_rd I.hok e
  refine kt_call_dict hd dd (by rw [← rel.length]; exact z) fun h' dd' hs => ?_
  refine h _ _ (I.hok.fresh (Nat.le_refl _)) (I.laid (a := s.heap.objs.size) (o := .dK kvs) (t' := s.toks) (fun b q hq => ?_) (Nat.le_refl _) (dk_new z (beq_eq_false_iff_ne.mpr (Ne.symm (Nat.ne_of_lt I.big))) rel dd'))
  exact (hs.2 b (Nat.ne_of_lt (Heap.lt_size hq))).trans (Heap.get?_push_of_some _ hq)
end


section
variable {X : Cx} {pins : List (Addr × Obj)} {σ : St} {H : Hp} {s : Shared} {a : Addr} {y : V} {u : Value} {A : Around} {E : Value → Shared → Prop}
/-- d[y], not there: a KeyError -/
theorem d_missing {Q : Value → Shared → Prop} (hu : A.units + 1 < cLine) (hh : A.handled = none) (I : Inv X pins σ H s) (g : DGet H a y none) (ry : RelV y u)
    (h : ∀ h' e t', Heap.NewExc s.heap h' e "KeyError" → E (.ref e) { s with heap := h', toks := t' }) : wpAny (model X.prog X.w) A (getItem (.ref a) u) Q E s := by
  rcases g with ⟨kvs, k, e, ey, l⟩ | ⟨kvs, k, b, e, ey, eb, l⟩
  · subst ey
    obtain ⟨z, hd, vs, rel, dd⟩ := dk_rd I.hok e
    have hn : valueAt vs k = none := RelO.none_of (by rw [l]; exact rel.val k)
    exact wpAny_getItem_missing_of (kV_is ry) hd hh dd.mapOf hn fun h' ex ne => h h' ex _ ne
  · subst ey
    cases (show u = Value.ref b from ry)
    obtain ⟨z, hd, xs, rel, dd⟩ := dt_rd I.hok e
    have hn : (atKey xs k).map (·.2) = none := RelO.none_of (by rw [l]; exact rel.val k)
    exact wpAny_getItem_missing_heap (tupleKind_room_in1 hu) (key_of I.hok eb) hd hh dd (Option.map_eq_none_iff.mp hn) fun h' ex ne => h h' ex _ ne
end
end L2

namespace L2
open PySem PySem.Spec PyProof.Rows
section
variable {X : Cx}
theorem call_lenD : CallR X (.builtin "len") (fun xs H Q => ∃ a kvs, xs = [V.ref a] ∧ H a = some (.dK kvs) ∧ Q (.int kvs.length) H) := by
  intro pins s σ H xs us Q I r h
  obtain ⟨a, kvs, rfl, ha, q⟩ := h
  obtain ⟨u, rfl, ru⟩ := vals1 r
  cases ru
  exact d_len I (.inl ha) fun t s' I' => ⟨.int kvs.length, H, I', ⟨t, rfl⟩, q⟩
end
/-! ### a dict's pairs: keys that differ -/
section
variable {κ : Type} [DecidableEq κ]
theorem valV_not {kvs : List (κ × V)} {k : κ} (h : valV kvs k = none) : ¬ k ∈ kvs.map (·.1) := by
  intro m
  obtain ⟨p, hp, e⟩ := List.mem_map.mp m
  have q : (kvs.any fun kv => decide (kv.1 = k)) = true := List.any_eq_true.mpr ⟨p, hp, decide_eq_true e⟩
  rw [valV_any, h] at q
  exact absurd q (by simp)
theorem valV_in {kvs : List (κ × V)} {k : κ} {v : V} (h : valV kvs k = some v) : k ∈ kvs.map (·.1) := by
  have q : (kvs.any fun kv => decide (kv.1 = k)) = true := by
    rw [valV_any, h]
    all_goals rfl
  obtain ⟨p, hp, e⟩ := List.any_eq_true.mp q
  exact List.mem_map.mpr ⟨p, hp, of_decide_eq_true e⟩
theorem nd_snoc : ∀ {l : List κ} {k : κ}, l.Nodup → ¬ k ∈ l → (l ++ [k]).Nodup
  | [], k, _, _ => by simp
  | a :: r, k, h, hk => by
    obtain ⟨h1, h2⟩ := List.nodup_cons.mp h
    show (a :: (r ++ [k])).Nodup
    refine List.nodup_cons.mpr ⟨fun m => ?_, nd_snoc h2 fun m => hk (List.mem_cons.mpr (Or.inr m))⟩
    rcases List.mem_append.mp m with q | q
    · exact h1 q
    · exact hk (List.mem_cons.mpr (Or.inl (List.mem_singleton.mp q).symm))
theorem nd_putK {kvs : List (κ × V)} {k : κ} (v : V) (hn : (kvs.map (·.1)).Nodup) (h : valV kvs k = none) : ((putK kvs k v).map (·.1)).Nodup := by
  rw [putK_new v h, List.map_append]
  exact nd_snoc hn (valV_not h)
theorem dropK_pos {p : κ × V} {r : List (κ × V)} {k : κ} (e : p.1 = k) : dropK (p :: r) k = dropK r k := by
  unfold dropK
  rw [List.filter_cons, if_neg (by simp [e])]
theorem dropK_neg {p : κ × V} {r : List (κ × V)} {k : κ} (e : ¬ p.1 = k) : dropK (p :: r) k = p :: dropK r k := by
  unfold dropK
  rw [List.filter_cons, if_pos (by simp [e])]
theorem dropK_no : ∀ {kvs : List (κ × V)} {k : κ}, ¬ k ∈ kvs.map (·.1) → dropK kvs k = kvs
  | [], _, _ => rfl
  | p :: r, k, h => by
    have h' : ¬ k ∈ r.map (·.1) := fun m => by
      obtain ⟨q, hq, e⟩ := List.mem_map.mp m
      exact h (List.mem_map.mpr ⟨q, List.mem_cons.mpr (Or.inr hq), e⟩)
    rw [dropK_neg fun e => h (List.mem_map.mpr ⟨p, List.mem_cons.mpr (Or.inl rfl), e⟩), dropK_no h']
theorem dropK_mem {kvs : List (κ × V)} {k : κ} {p : κ × V} (h : p ∈ dropK kvs k) : p ∈ kvs := (List.mem_filter.mp h).1
theorem nd_dropK : ∀ {kvs : List (κ × V)} {k : κ}, (kvs.map (·.1)).Nodup → ((dropK kvs k).map (·.1)).Nodup
  | [], _, _ => List.nodup_nil
  | p :: r, k, h => by
    have h : (p.1 :: r.map (·.1)).Nodup := h
    obtain ⟨h1, h2⟩ := List.nodup_cons.mp h
    by_cases e : p.1 = k
    · rw [dropK_pos e]
      exact nd_dropK h2
    · rw [dropK_neg e]
      show (p.1 :: (dropK r k).map (·.1)).Nodup
      refine List.nodup_cons.mpr ⟨fun m => h1 ?_, nd_dropK h2⟩
      obtain ⟨q, hq, eq⟩ := List.mem_map.mp m
      exact List.mem_map.mpr ⟨q, dropK_mem hq, eq⟩
theorem dropK_len : ∀ {kvs : List (κ × V)} {k : κ}, (kvs.map (·.1)).Nodup → k ∈ kvs.map (·.1) → (dropK kvs k).length + 1 = kvs.length
  | [], _, _, m => by simp at m
  | p :: r, k, h, m => by
    have h : (p.1 :: r.map (·.1)).Nodup := h
    have m : k = p.1 ∨ k ∈ r.map (·.1) := List.mem_cons.mp m
    obtain ⟨h1, h2⟩ := List.nodup_cons.mp h
    by_cases e : p.1 = k
    · subst e
      rw [dropK_pos rfl, dropK_no h1]
      all_goals rfl
    · have m' : k ∈ r.map (·.1) := m.resolve_left fun z => e z.symm
      have q := dropK_len h2 m'
      rw [dropK_neg e, List.length_cons, List.length_cons]
      omega
end
end L2

set_option Elab.async false
set_option maxRecDepth 100000
namespace L2
open PySem PySem.Spec PyProof.Rows

/-! ### d.setdefault(k, v) -/
section
variable {X : Cx}
def rSetd : V → List V → Hp → VK → Prop := fun x vs H Q => ∃ a kvs k d, x = .ref a ∧ vs = [kV k, d] ∧ H a = some (.dK kvs) ∧ kvs.length < sizeLine ∧
  (∀ v, valV kvs k = some v → Q v H) ∧ (valV kvs k = none → Q d (upd H a (.dK (putK kvs k d))))
theorem mt_setd : MtR X "dict.setdefault" rSetd := by
  intro pins s σ H x vs v us Q I rx rv h
  obtain ⟨a, kvs, k, d, rfl, rfl, hH, hz, h1, h2⟩ := h
  cases rx
  obtain ⟨u, r, rfl, ru, rr⟩ := vals2 rv
  obtain ⟨z, hd, ws, rel, dd⟩ := dk_of I.hok hH
  have hz' : ws.length ≤ sizeLine := by rw [← rel.length]; exact z
  refine call_meetsIn PySem.F.slot_dict_setdefault dd.typeIs PySem.F.entry_dict_setdefault (PySem.F.args_dict_setdefault_3 _ _ _) (PySem.kt_meets_setdefault (mixKind X.prog X.w) a (kV_is ru) hd r)
    ⟨ws, dd, hz', fun w' hw => ?_, fun hn h' dd' hs => ?_⟩
  · have q := rel.val k
    rw [hw] at q
    cases e : valV kvs k with
    | none => rw [e] at q; exact False.elim q
    | some y => rw [e] at q; exact ⟨y, H, I.tok _, q, h1 y e⟩
  · have q := rel.val k
    rw [hn] at q
    cases e : valV kvs k with
    | some y => rw [e] at q; exact False.elim q
    | none =>
      have he : ∃ q, h'.get? a = some q := let ⟨q, _, _, hq, _⟩ := dd'; ⟨q, hq⟩
      have hl : (putK kvs k d).length ≤ sizeLine := by have := length_putK kvs k d; omega
      exact ⟨d, _, d_write I (by rw [hH]; exact True.intro) hs he (dk_new hl hd (rel.put k rr) dd'), rr, h2 e⟩
end

/-! ### for x in reversed(xs) -/
def Itv (K : PySem.W.Frag) (a : Addr) (n : Nat) : It :=
  ⟨fun i H => i < n ∧ ∃ xs, SqL K H a xs ∧ xs.length = n, fun i H x H' => H' = H ∧ ∀ xs, SqL K H a xs → xs[n - 1 - i]? = some x, fun i _ => i = n⟩
theorem turn_rev {P : Program} {w : World} {K : PySem.W.Frag} {tg : Expr} (a it : Addr) (n : Nat) : Turn P w K tg (Itv K a n) [it] it (fun i h => h.IsRevIter it a ((n : Int) - 1 - (i : Int))) where
  mem := by simp
  obj := fun i h st b hb => by
    have e : b = it := by simpa using hb
    subst e
    obtain ⟨o, e, c, d⟩ := st
    exact ⟨o, e, fun v z => by rw [d] at z; cases z⟩
  keep := fun i h h' st k => st.at fun o e => k it (by simp) o e
  item := by
    intro X hP hw hK hc i pins s σ H E I hf st hg
    subst hP hw hK
    obtain ⟨hi, xs, hq, hn⟩ := hg
    obtain ⟨its, rv, p, hz⟩ := I.list hq
    have hx : xs[n - 1 - i]? = some (xs[n - 1 - i]'(by omega)) := List.getElem?_eq_getElem (by omega)
    obtain ⟨u, hu, ru⟩ := rv.get hx
    obtain ⟨f0, f1, f2, f3, f4, f5⟩ := hf it (by simp)
    have e1 : (n : Int) - 1 - (i : Int) = ((n - 1 - i : Nat) : Int) := by omega
    have st1 := st
    rw [e1] at st1
    refine wpAny_pyNext_rev_item st1 p.isList (x := u) (by simpa using hu) fun h' st' sb => ?_
    have e2 : ((n - 1 - i : Nat) : Int) - 1 = (n : Int) - 1 - ((i + 1 : Nat) : Int) := by omega
    rw [e2] at st'
    have I1 : Inv X pins σ H { s with heap := h' } := I.turned (t' := s.toks) (fun b o hb e => (sb.2 b hb).trans e) f0 f1 f3 f4 f5
    obtain ⟨o, e, c, d⟩ := id st'
    exact ⟨u, rfl, go_of (s := { s with heap := h' }) e c d (by decide) ⟨_, H, I1, ru, ⟨rfl, fun ys hy => by rw [I.list_inj hy hq]; exact hx⟩, st', fun b hb => (hf b hb).1⟩⟩
  done := by
    intro X hP hw hK hc i pins s σ H E I hf st hg
    subst hP hw hK
    have hg : i = n := hg
    subst hg
    have e1 : (i : Int) - 1 - (i : Int) = -1 := by omega
    rw [e1] at st
    obtain ⟨f0, f1, f2, f3, f4, f5⟩ := hf it (by simp)
    exact wpAny_pyNext_rev_end (I.ok.hd hc) st fun h' eb => ⟨rfl, I.turned (t' := s.toks) (fun b o hb e => eb b o hb e) f0 f1 f3 f4 f5⟩
  self := fun _ _ _ _ _ st h => wpAny_pyIter_revIter st h
section
variable {X : Cx} {tg : Expr}
def iRev (K : PySem.W.Frag) (ta : TA) : TI := fun σ H R => ta σ H fun vs H1 => ∃ a xs, vs = [.ref a] ∧ SqL K H1 a xs ∧ R (Itv K a xs.length) H1
theorem pi_rev {a : Expr} {ta : TA} {p pos : Pos} (hg : Gl X "reversed") (hm : X.mg "reversed" = none) (ha : PA X [a] ta) (hs : starEach [a] X.env = [(false, eval a X.env)] := by rfl) : PI X tg (.Call (.Name "reversed" p) [a] [] pos) (iRev X.K ta) := by
  intro pins s σ H R I h
  refine Call_ (ld_blt I hg hm boot_reversed (PyProof.Rows.callWith_type1 (thn (ha pos pins s σ H _ I h) fun us s1 ⟨vs, H1, I1, r1, q1⟩ => ?_) hs rfl))
  obtain ⟨a, xs, e, hq, q⟩ := q1
  subst e
  cases r1 with
  | cons r rr =>
    cases rr
    cases r
    obtain ⟨its, rv, p, hz⟩ := I1.list hq
    refine call_reversed_list p.isList ?_
    have I2 : Inv X pins σ H1 { s1 with heap := s1.heap.push (revObj a ((its.toArray.size : Int) - 1)) } := I1.kept (t' := s1.toks) fun b o e => Heap.get?_push_of_some _ e
    have st : Heap.IsRevIter (s1.heap.push (revObj a ((its.toArray.size : Int) - 1))) s1.heap.objs.size a ((its.toArray.size : Int) - 1) := ⟨_, Heap.get?_push_size _ rfl, rfl, rfl⟩
    refine wpAny_pyIter_revIter st ?_
    refine ⟨s1.heap.objs.size, [s1.heap.objs.size], _, _, H1, rfl, I2, turn_rev a _ xs.length, ?_, fun b hb => ?_, q⟩
    · have e : ((xs.length : Int) - 1 - ((0 : Nat) : Int)) = (its.toArray.size : Int) - 1 := by rw [rv.length]; simp
      show Heap.IsRevIter _ _ _ ((xs.length : Int) - 1 - ((0 : Nat) : Int))
      rw [e]
      exact st
    · have e : b = s1.heap.objs.size := by simpa using hb
      subst e
      exact I1.fpOk (Nat.le_refl _) (I1.hok.fresh (Nat.le_refl _))
end
theorem for_rev {K : PySem.W.Frag} {a : Addr} {xs : List V} {g : TG} {tb : TS} {D : Ends} {σ : St} {H : Hp} (Pv : Nat → St → Hp → Prop) (h0 : Pv 0 σ H) (hl : ∀ i σ H, i ≤ xs.length → Pv i σ H → SqL K H a xs)
    (hs : ∀ i x σ H, i < xs.length → xs[xs.length - 1 - i]? = some x → Pv i σ H → g x σ H fun σ2 H2 => tb { D with nx := Pv (i + 1), ct := Pv (i + 1), bk := D.nx } σ2 H2) (hd : ∀ σ H, Pv xs.length σ H → D.nx σ H) :
    ∃ W : Nat → Nat → St → Hp → Prop, (∃ m, W 0 m σ H) ∧ ∀ i m σ H, W i m σ H →
      ((Itv K a xs.length).stop i H ∧ D.nx σ H) ∨ ((Itv K a xs.length).go i H ∧ ∃ N : St → Hp → Prop, (∀ σ' H', N σ' H' → ∃ m', m' < m ∧ W (i + 1) m' σ' H') ∧ ∀ x H', (Itv K a xs.length).yld i H x H' → g x σ H' fun σ2 H2 => tb { D with nx := N, ct := N, bk := D.nx } σ2 H2) := by
  refine ⟨fun i m σ H => m = xs.length - i ∧ i ≤ xs.length ∧ Pv i σ H, ⟨xs.length, by simp, Nat.zero_le _, h0⟩, ?_⟩
  rintro i m σ H ⟨rfl, hi, p⟩
  have q := hl i σ H hi p
  by_cases hlt : i < xs.length
  · refine .inr ⟨⟨hlt, xs, q, rfl⟩, Pv (i + 1), fun σ' H' p' => ⟨xs.length - (i + 1), by omega, rfl, hlt, p'⟩, fun x H' y => ?_⟩
    obtain ⟨e, y⟩ := y
    subst e
    exact hs i x σ H' hlt (y xs q) p
  · have e : i = xs.length := by omega
    subst e
    exact .inl ⟨rfl, hd σ H p⟩

/-! ### xs != [] -/
section
variable {X : Cx}
def rNeE (K : PySem.W.Frag) : R2 := fun x y H Q => ∃ a b xs, x = .ref a ∧ y = .ref b ∧ SqL K H a xs ∧ SqL K H b [] ∧ Q (.bl (!xs.isEmpty)) H
theorem op_neE (hu : X.A.units < cLine) : OpR X (compareOp .NotEq) (rNeE X.K) := by
  intro pins s σ H x y v u Q I rx ry h
  obtain ⟨a, b, xs, rfl, rfl, ha, hb, q⟩ := h
  cases rx
  cases ry
  obtain ⟨its, rv, p, hz⟩ := I.list ha
  obtain ⟨its2, rv2, p2, hz2⟩ := I.list hb
  cases rv2
  cases xs with
  | nil =>
    cases rv
    exact SeqAt.RcNeAt.lists (e := fun _ => true) p.isList p2.isList rfl hu (fun j h1 _ => absurd h1 (Nat.not_lt_zero j)) _ _ _ _ ⟨.bl _, H, I, rfl, q⟩
  | cons x r =>
    cases rv
    exact SeqAt.RcNeAt.lists_lengths p.isList p2.isList (by simp) hu _ _ _ _ ⟨.bl _, H, I, rfl, q⟩
/-! ### isinstance(x, T), T a built-in type -/
def rIsi (K : PySem.W.Frag) : List V → Hp → VK → Prop := fun xs H Q => ∃ x n t b, xs = [x, .ty n] ∧ TyOf K H x t ∧ PySem.W.kitOne K t (.type n) = some b ∧ Q (.bl b) H
theorem call_isi : CallR X (.builtin "isinstance") (rIsi X.K) := by
  intro pins s σ H xs us Q I r h
  obtain ⟨x, n, t, b, rfl, ty, e, q⟩ := h
  obtain ⟨u, w', rfl, ru, rw'⟩ := vals2 r
  cases rw'
  exact isinst_ok I ru ty e fun tk => ⟨.bl b, H, I.tok tk, rfl, q⟩
end
end L2

set_option Elab.async false
set_option maxRecDepth 100000
namespace L2
open PySem PySem.Spec PyProof.Rows

/-! ### a lambda of a def's body: its code object at c, its function object at f -/
def CodeF (c : Addr) (qual : Str) (h : Heap) : Prop := h.CodeRec (.ref c) qual
def LamF (f c : Addr) (qual : Str) (params : Arguments) (body : Expr) (scope : Scope) (cl : List (Str × Addr)) (h : Heap) : Prop :=
  ∃ name pm ctv, h.get? f = some (PySem.W.kla_obj name qual params body scope cl pm c ctv)
theorem codeF_at {c : Addr} {qual : Str} {h1 h2 : Heap} (x : CodeF c qual h1) (k : ∀ o, h1.get? c = some o → h2.get? c = some o) : CodeF c qual h2 := by
  obtain ⟨c2, oc, vs, t, e, ho, r⟩ := x
  cases e
  exact ⟨c, oc, vs, t, rfl, k _ ho, r⟩
theorem lamF_at {f c : Addr} {qual : Str} {params : Arguments} {body : Expr} {scope : Scope} {cl : List (Str × Addr)} {h1 h2 : Heap} (x : LamF f c qual params body scope cl h1) (k : ∀ o, h1.get? f = some o → h2.get? f = some o) :
    LamF f c qual params body scope cl h2 := let ⟨n, p, t, e⟩ := x; ⟨n, p, t, k _ e⟩

/-- what stands for a frame's code: its record, its table -/
structure CodeOk (X : Cx) (P : Addr) : Prop where
  code : ∃ c, X.env.code = .ref c ∧ PySem.W.CodeHd X.base c P
  blt : ∃ bm ob, X.mg "__builtins__" = some (.ref bm) ∧ bm ≠ builtinsNs ∧ X.base.get? bm = some ob ∧ ob.cls = .type "module" ∧ ob.dict = some builtinsNs ∧ ob.data = .plain

/-- the table is well formed, and what it has for this place is known -/
structure LamTab (H : Hp) (P : Addr) (pos : Pos) (qual : Str) (ps : Array Value) : Prop where
  at_ : H P = some (.tbl ps)
  ok : TriplesOk ps.toList
  known : codeAmong pos ps.toList = none ∨ ∃ c, codeAmong pos ps.toList = some (.ref c) ∧ H c = some (.ext (CodeF c qual))

def tLam (P : Addr) (pos : Pos) (qual : Str) (params : Arguments) (body : Expr) (scope : Scope) (cl : List (Str × Addr)) : TE := fun _ H Q =>
  ∃ ps, LamTab H P pos qual ps ∧
    ∀ f c H', (∀ b o, H b = some o → b ≠ P → H' b = some o) → H f = none → H' f = some (.ext (LamF f c qual params body scope cl)) → H' c = some (.ext (CodeF c qual)) → (∃ ps', LamTab H' P pos qual ps') →
      (∀ b, H' b ≠ none → H b ≠ none ∨ b = f ∨ b = c) → Q (.ref f) H'

theorem kept_slots {o : Obj} {h' : Heap} {b : Addr} (e : h'.get? b = some o) : ∃ sl, h'.get? b = some { o with slots := sl } := ⟨o.slots, e⟩

section
variable {X : Cx} {pins : List (Addr × Obj)} {σ : St} {H : Hp} {s : Shared}
/-- objects laid (two of them tracked by what is true of them), the table grown or not -/
theorem Inv.lam {P f c : Addr} {ps ps' : Array Value} {h' : Heap} {tk : Nat} {φ ψ : Heap → Prop} (I : Inv X pins σ H s) (hP : H P = some (.tbl ps)) (hx : Heap.ExtBut P s.heap h')
    (hf : s.heap.objs.size ≤ f) (hc : (H c = some (.ext ψ)) ∨ s.heap.objs.size ≤ c) (hfc : f ≠ c) (hps : ∃ more, ps' = ps ++ more) (htab : h'.get? P = some (PySem.W.tabObj ps'))
    (of : φ h' ∧ (∃ o, h'.get? f = some o) ∧ ∀ h1 h2 : Heap, φ h1 → (∀ o, h1.get? f = some o → h2.get? f = some o) → φ h2)
    (oc : ψ h' ∧ (∃ o, h'.get? c = some o) ∧ ∀ h1 h2 : Heap, ψ h1 → (∀ o, h1.get? c = some o → h2.get? c = some o) → ψ h2) :
    Inv X pins σ (upd (upd (upd H P (.tbl ps')) c (.ext ψ)) f (.ext φ)) { s with heap := h', toks := tk } := by
  have lt : ∀ {b o}, H b = some o → b < s.heap.objs.size := fun e => I.hok.lt e
  have fne : ∀ {b o}, H b = some o → b ≠ f := fun e => Nat.ne_of_lt (Nat.lt_of_lt_of_le (lt e) hf)
  have hPc : P ≠ c := by
    rcases hc with hc | hc
    · exact ne_of hP hc (by intro z; cases z)
    · exact Nat.ne_of_lt (Nat.lt_of_lt_of_le (lt hP) hc)
  have keepH : ∀ b o, H b = some o → b ≠ P → upd (upd (upd H P (.tbl ps')) c (.ext ψ)) f (.ext φ) b = some o := fun b o e hb => by
    rw [upd_ne (fne e)]
    by_cases q : b = c
    · subst q
      rcases hc with hc | hc
      · rw [upd_same]; rw [e] at hc; exact hc.symm
      · exact absurd (Nat.lt_of_lt_of_le (lt e) hc) (Nat.lt_irrefl _)
    · rw [upd_ne q, upd_ne hb]; exact e
  have atP : upd (upd (upd H P (.tbl ps')) c (.ext ψ)) f (.ext φ) P = some (.tbl ps') := by
    rw [upd_ne (fne hP), upd_ne hPc, upd_same]
  have freeH : ∀ b o, s.heap.get? b = some o → H b = none → upd (upd (upd H P (.tbl ps')) c (.ext ψ)) f (.ext φ) b = none := fun b o e n => by
    have l := Heap.lt_size e
    rw [upd_ne (Nat.ne_of_lt (Nat.lt_of_lt_of_le l hf)), upd_ne ?_, upd_ne ?_]
    · exact n
    · intro z; rw [z, hP] at n; cases n
    · intro z
      rcases hc with hc | hc
      · rw [z, hc] at n; cases n
      · exact absurd (Nat.lt_of_lt_of_le l (z ▸ hc)) (Nat.lt_irrefl _)
  have nP : ∀ {b}, H b = none → b ≠ P := fun n z => by rw [z, hP] at n; cases n
  refine I.un (Un.mk (fun b o e n _ _ => hx b o (nP n) e) (fun b o e n _ _ => kept_slots (hx b o (nP n) e)) (fun b o e n _ => freeH b o e n) (fun b o e _ => ?_) (fun b xs e => keepH b _ e (ne_of e hP (by intro z; cases z)))
    (fun b o u e => keepH b _ e (ne_of e hP (by intro z; cases z))) (fun b qs e => ?_)) ?_
  · by_cases q : b = P
    · exact ⟨_, q ▸ htab⟩
    · exact ⟨o, hx b o q e⟩
  · by_cases q : b = P
    · subst q
      rw [hP] at e
      cases e
      obtain ⟨more, rfl⟩ := hps
      exact ⟨more, atP⟩
    · exact ⟨#[], by rw [Array.append_empty]; exact keepH b _ e q⟩
  · intro a o e
    by_cases qf : a = f
    · subst qf
      rw [upd_same] at e
      cases e
      exact of
    · rw [upd_ne qf] at e
      by_cases qc : a = c
      · subst qc
        rw [upd_same] at e
        cases e
        exact oc
      · rw [upd_ne qc] at e
        by_cases qP : a = P
        · subst qP
          rw [upd_same] at e
          cases e
          exact htab
        · rw [upd_ne qP] at e
          refine (I.hok a o e).stay (fun b u hb eb => hx b u ?_ eb) (fun b eb => keepH b _ eb (ne_of eb hP (by intro z; cases z))) fun b xs eb => keepH b _ eb (ne_of eb hP (by intro z; cases z))
          rcases hb with hb | hb
          · rw [hb]; exact qP
          · exact ne_of hb hP (by intro z; cases z)

theorem pe_lam {P : Addr} {params : Arguments} {body : Expr} {scope : Scope} {pos : Pos} {cl : List (Str × Addr)} (C : CodeOk X P) (hcl : closureFor scope X.env = pure cl) (hdef : defaultsOf params X.env = ([], [])) :
    PE X (.Lambda params body scope pos) (tLam P pos (X.env.qual ++ "<lambda>") params body scope cl) := by
  intro pins s σ H Q I h
  obtain ⟨ps, T, h⟩ := h
  obtain ⟨cc, hcode, hd⟩ := C.code
  obtain ⟨bm, ob, b1, b2, b3, b4, b5, b6⟩ := C.blt
  have hP : s.heap.get? P = some (PySem.W.tabObj ps) := I.hok P _ T.at_
  have hg : s.heap.Ns mainGlobals X.mg := I.mod.glob.keeps I.bk
  have hgP : mainGlobals ≠ P := fun q => by
    obtain ⟨o, es, ep, e, hd, _⟩ := hg
    rw [q, hP] at e; cases e; cases hd
  have hbP : bm ≠ P := fun q => by
    have e := I.bk _ _ b3
    rw [q, hP] at e; cases e; cases b4
  have hbG : bm ≠ mainGlobals := fun q => by
    obtain ⟨o, es, ep, e, hd, _⟩ := I.mod.glob
    rw [q, e] at b3; cases b3; rw [hd] at b6; cases b6
  have B : s.heap.BuiltinsAt X.mg P := ⟨bm, ob, b1, b2, hbG, hbP, I.bk _ _ b3, b4, b5, b6⟩
  refine PySem.W.kla_eval hdef ?_
  rcases T.known with hn | ⟨c', hk, hc'⟩
  · refine PySem.W.kla_makeFunction (mg := X.mg) hcl I.ok.glob hg hcode (hd.keeps I.bk) hP T.ok hn hgP B fun c' ctv h' tk hx hge hlt hrec htb => ?_
    have key : Inv X pins σ (upd (upd (upd H P (.tbl (ps ++ #[rawInt pos.line, rawInt pos.col, .ref c']))) c' (.ext (CodeF c' (X.env.qual ++ "<lambda>")))) h'.objs.size (.ext (LamF h'.objs.size c' (X.env.qual ++ "<lambda>") params body scope cl)))
        { s with heap := h'.push (PySem.W.kla_obj "<lambda>" (X.env.qual ++ "<lambda>") params body scope cl ((X.mg "__name__").getD .none) c' ctv), toks := tk } := by
      refine I.lam T.at_ (fun b o hb e => Heap.get?_push_of_some _ (hx b o hb e)) (Nat.le_of_lt (Nat.lt_of_le_of_lt hge hlt)) (.inr hge) (Nat.ne_of_gt hlt) ⟨_, rfl⟩ (Heap.get?_push_of_some _ htb)
        ⟨⟨_, _, _, Heap.get?_push_size _ rfl⟩, ⟨_, Heap.get?_push_size _ rfl⟩, fun h1 h2 a b => lamF_at a b⟩ ⟨codeF_at hrec fun o e => Heap.get?_push_of_some _ e, ?_, fun h1 h2 a b => codeF_at a b⟩
      obtain ⟨c2, oc, vs, t, e, ho, r⟩ := hrec
      cases e
      exact ⟨oc, Heap.get?_push_of_some _ ho⟩
    have hPc : P ≠ c' := Nat.ne_of_lt (Nat.lt_of_lt_of_le (I.hok.lt T.at_) hge)
    have hPf : P ≠ h'.objs.size := Nat.ne_of_lt (Nat.lt_of_lt_of_le (I.hok.lt T.at_) (Nat.le_of_lt (Nat.lt_of_le_of_lt hge hlt)))
    have hcf : c' ≠ h'.objs.size := Nat.ne_of_lt hlt
    refine ⟨.ref h'.objs.size, _, key, rfl, h h'.objs.size c' _ (fun b o e hb => ?_) (I.hok.fresh (Nat.le_of_lt (Nat.lt_of_le_of_lt hge hlt))) upd_same (by rw [upd_ne hcf, upd_same]) ⟨_, by rw [upd_ne hPf, upd_ne hPc, upd_same], ?_, .inr ⟨c', ?_, by rw [upd_ne hcf, upd_same]⟩⟩ fun b hb => ?_⟩
    · have l := I.hok.lt e
      rw [upd_ne (Nat.ne_of_lt (Nat.lt_of_lt_of_le l (Nat.le_of_lt (Nat.lt_of_le_of_lt hge hlt)))), upd_ne (Nat.ne_of_lt (Nat.lt_of_lt_of_le l hge)), upd_ne hb]
      exact e
    · rw [Array.toList_append]
      exact TriplesOk_snoc _ _ _ _ T.ok
    · rw [Array.toList_append]
      exact codeAmong_snoc _ T.ok hn
    · by_cases q1 : b = h'.objs.size
      · exact .inr (.inl q1)
      · by_cases q2 : b = c'
        · exact .inr (.inr q2)
        · rw [upd_ne q1, upd_ne q2] at hb
          by_cases q3 : b = P
          · exact .inl (by rw [q3, T.at_]; simp)
          · rw [upd_ne q3] at hb; exact .inl hb
  · refine PySem.W.kla_makeFunctionHit (mg := X.mg) hcl I.ok.glob hg hcode (hd.keeps I.bk) hP T.ok hk B fun ctv h' tk hx hsz => ?_
    have oc := I.hok c' _ hc'
    have hcl' : c' < s.heap.objs.size := I.hok.lt hc'
    have key : Inv X pins σ (upd (upd (upd H P (.tbl ps)) c' (.ext (CodeF c' (X.env.qual ++ "<lambda>")))) h'.objs.size (.ext (LamF h'.objs.size c' (X.env.qual ++ "<lambda>") params body scope cl)))
        { s with heap := h'.push (PySem.W.kla_obj "<lambda>" (X.env.qual ++ "<lambda>") params body scope cl ((X.mg "__name__").getD .none) c' ctv), toks := tk } := by
      refine I.lam T.at_ (fun b o hb e => Heap.get?_push_of_some _ (hx b o e)) hsz (.inl hc') (Nat.ne_of_gt (Nat.lt_of_lt_of_le hcl' hsz)) ⟨#[], by rw [Array.append_empty]⟩ (Heap.get?_push_of_some _ (hx _ _ hP))
        ⟨⟨_, _, _, Heap.get?_push_size _ rfl⟩, ⟨_, Heap.get?_push_size _ rfl⟩, fun h1 h2 a b => lamF_at a b⟩ ⟨codeF_at oc.1 fun o e => Heap.get?_push_of_some _ (hx _ _ e), ?_, fun h1 h2 a b => codeF_at a b⟩
      obtain ⟨o, ho⟩ := oc.2.1
      exact ⟨o, Heap.get?_push_of_some _ (hx _ _ ho)⟩
    have hPc : P ≠ c' := ne_of T.at_ hc' (by intro z; cases z)
    have hPf : P ≠ h'.objs.size := Nat.ne_of_lt (Nat.lt_of_lt_of_le (I.hok.lt T.at_) hsz)
    have hcf : c' ≠ h'.objs.size := Nat.ne_of_lt (Nat.lt_of_lt_of_le hcl' hsz)
    refine ⟨.ref h'.objs.size, _, key, rfl, h h'.objs.size c' _ (fun b o e hb => ?_) (I.hok.fresh hsz) upd_same (by rw [upd_ne hcf, upd_same]) ⟨ps, by rw [upd_ne hPf, upd_ne hPc, upd_same], T.ok, .inr ⟨c', hk, by rw [upd_ne hcf, upd_same]⟩⟩ fun b hb => ?_⟩
    · have l := I.hok.lt e
      rw [upd_ne (Nat.ne_of_lt (Nat.lt_of_lt_of_le l hsz))]
      by_cases q : b = c'
      · subst q; rw [upd_same]; rw [e] at hc'; exact hc'.symm
      · rw [upd_ne q, upd_ne hb]; exact e
    · by_cases q1 : b = h'.objs.size
      · exact .inr (.inl q1)
      · by_cases q2 : b = c'
        · exact .inr (.inr q2)
        · rw [upd_ne q1, upd_ne q2] at hb
          by_cases q3 : b = P
          · exact .inl (by rw [q3, T.at_]; simp)
          · rw [upd_ne q3] at hb; exact .inl hb
end

/-! ### a call of a lambda -/
/-- the context of a lambda's body -/
def cxLam (X : Cx) (N : List Str) (qual : Str) (scope : Scope) (f : Addr) (cd : Value) (cl : List (Str × Addr)) (s : Shared) (H : Hp) : Cx where
  prog := X.prog
  w := X.w
  K := X.K
  mg := X.mg
  base := X.base
  A := X.A.deeper (PySem.W.envX qual scope s.heap.objs.size f cd cl)
  N := N
  s₀ := s
  H₀ := H
  env := PySem.W.envX qual scope s.heap.objs.size f cd cl
  outer := X.stack
  stack := PySem.W.envX qual scope s.heap.objs.size f cd cl :: X.stack
  ex := []
  calm := true
  fn := fun _ => false
  pn := []
  xe := fun _ _ => False

structure LamScope (ps : List Str) (scope : Scope) (cl : List (Str × Addr)) : Prop where
  kind : scope.kind = .function
  co : scope.isCoroutine = false
  gen : scope.isGenerator = false
  nd : ps.Nodup
  par : ∀ x ∈ ps, scope.names.lookup x = some .local
  nocell : ∀ y ∈ scope.names, y.2 ≠ .cell
  free : ∀ x, scope.names.lookup x = some .free → ∃ c, cl.lookup x = some c
  inj : ∀ x y c, cl.lookup x = some c → cl.lookup y = some c → x = y

theorem lookup_zip_rev {ps : List Str} {us : List Value} {i : Nat} {x : Str} {u : Value} (nd : ps.Nodup) (h1 : ps[i]? = some x) (h2 : us[i]? = some u) : (ps.zip us).reverse.lookup x = some u := by
  have hm : (x, u) ∈ ps.zip us := by
    rw [List.mem_iff_getElem?]
    exact ⟨i, by rw [List.getElem?_zip_eq_some]; exact ⟨h1, h2⟩⟩
  have key : ∀ (l : List (Str × Value)), (∀ v, (x, v) ∈ l → v = u) → (x, u) ∈ l → l.lookup x = some u := by
    intro l
    induction l with
    | nil => intro _ h; simp at h
    | cons p r ih =>
      intro h h'
      obtain ⟨y, v⟩ := p
      by_cases q : x = y
      · subst q
        rw [List.lookup_cons_self, h v (List.mem_cons_self)]
      · have b : (x == y) = false := by simpa using q
        rw [List.lookup_cons, b]
        refine ih (fun v hv => h v (List.mem_cons_of_mem _ hv)) ?_
        rcases List.mem_cons.mp h' with e | e
        · cases e; exact absurd rfl q
        · exact e
  refine key _ (fun v hv => ?_) (List.mem_reverse.mpr hm)
  have hv' := List.mem_reverse.mp hv
  obtain ⟨j, hj⟩ := List.mem_iff_getElem?.mp hv'
  rw [List.getElem?_zip_eq_some] at hj
  have e := nodup_ix nd h1 hj.1
  subst e
  rw [h2] at hj
  exact (Option.some.inj hj.2).symm

section
variable {X : Cx} {pins : List (Addr × Obj)} {σ : St} {H : Hp} {s : Shared}
theorem call_lam {k : Nat} {f c : Addr} {qual : Str} {params : Arguments} {body : Expr} {scope : Scope} {cl : List (Str × Addr)} {ps N : List Str} {us : List Value} {vs : List V} {Q : VK} {σ₀ : St}
    (I : Inv X pins σ H s) (hcalm : X.calm = true) (hr : Room (k + 1) X.A) (S : LamScope ps scope cl) (hf : H f = some (.ext (LamF f c qual params body scope cl))) (hc : H c = some (.ext (CodeF c qual)))
    (hcell : ∀ x a, cl.lookup x = some a → H a = none ∧ ∃ v, s.heap.IsCell a v)
    (hb : ∀ (name : Str) (pm ctv : Value), bindArgs (PySem.W.kla_fn name qual params body scope cl pm (.ref c) ctv) ⟨us, []⟩ = pure (ps.zip us)) (rv : Vals vs us)
    (hlen : σ₀.length = N.length)
    (hσ : ∀ (i : Nat) (x : Str) (v : V), N[i]? = some x → σ₀[i]? = some (some v) → (∃ j : Nat, ps[j]? = some x ∧ vs[j]? = some v) ∨ (scope.names.lookup x = some .free ∧ ∃ a u, cl.lookup x = some a ∧ RelV v u ∧ s.heap.IsCell a (some u)))
    (hbody : Room k (X.A.deeper (PySem.W.envX qual scope s.heap.objs.size f (.ref c) cl)) → ∃ t, PE (cxLam X N qual scope f (.ref c) cl s H) body t ∧ t σ₀ H Q) :
    wpAny (model X.prog X.w) X.A (call (.ref f) us) (EP X pins σ Q) X.xe s := by
  obtain ⟨⟨name, pm, ctv, ho⟩, _⟩ := (show ObjOk X.prog X.w H s.heap f (.ext (LamF f c qual params body scope cl)) from I.hok f _ hf)
  obtain ⟨hcd, _⟩ := (show ObjOk X.prog X.w H s.heap c (.ext (CodeF c qual)) from I.hok c _ hc)
  obtain ⟨t, ht, q⟩ := hbody (hr.deeper _)
  refine wpAny_call (codeAny_mono (R := fun r s' => ∃ u, r = .ok (.ret u) ∧ CE X.stack X.prog X.w H s Q u s') ?_ fun r s' hq => ?_)
  · refine PySem.W.kla_callFunE hr.depth ho rfl S.co S.gen rfl hcd ?_
    rw [hb _ _ _]
    refine wpAny_pure (wpAny_newFunctionEnv S.nocell (fun y hy => S.par y.1 (List.of_mem_zip hy).1) (fun h₁ hns hsb => ⟨(I.nolimit).fresh _ hsb, ?_⟩) S.kind)
    show codeAny _ _ (.expr body (PySem.W.envX qual scope s.heap.objs.size f (.ref c) cl)) _ _
    have hk₁ : ∀ b o, s.heap.get? b = some o → h₁.get? b = some o := fun b o e => hsb.extBut b o (Nat.ne_of_lt (Heap.lt_size e)) (Heap.get?_push_of_some _ e)
    have noA : ∀ b : Addr, b ∉ (cxLam X N qual scope f (.ref c) cl s H).ex := fun b z => absurd (show b ∈ ([] : List Addr) from z) (by simp)
    have J : Inv (cxLam X N qual scope f (.ref c) cl s H) [] σ₀ H { s with heap := h₁, toks := s.toks + (ps.zip us).length } := by
      refine ⟨⟨I.mod, S.kind, rfl, rfl, Nat.le_refl _, S.inj, fun x hx => ?_, fun x a z => absurd z Bool.false_ne_true, fun _ => I.ok.hd hcalm, Around.frames_deeper I.ok.frames, .inr ⟨rfl, rfl⟩, fun b z => absurd z (noA b), I.bs, Nat.le_trans I.ok.bsz I.sz, fun b _ _ => noA b, fun b z => absurd z (noA b), I.stack, I.stkFree⟩,
        rfl, I.bare, Un.kept hk₁, ⟨_, hns, fun i x v h1 h2 h3 => ?_⟩, fun x a e => ?_, I.hok.fresh (Nat.le_refl _), fun x a e => (hcell x a e).1, fun p hp => absurd (show p ∈ ([] : List (Addr × Obj)) from hp) (by simp), I.hok.kept hk₁, hlen⟩
      · have hx : scope.names.lookup x = some .cell ∨ scope.names.lookup x = some .free := hx
        rcases hx with hx | hx
        · exact absurd rfl (S.nocell _ (PySem.mem_of_lookup hx))
        · exact S.free x hx
      · rcases hσ i x v h1 h2 with ⟨j, hj, hv⟩ | ⟨hx, a, u, ha, ru, hcl⟩
        · obtain ⟨u, hu, ru⟩ := rv.get hv
          exact ⟨u, ru, .inl ⟨S.par x (List.mem_of_getElem? hj), lookup_zip_rev S.nd hj hu⟩⟩
        · obtain ⟨o, ho, hd⟩ := hcl
          exact ⟨u, ru, .inr ⟨.inr hx, a, ha, o, hk₁ _ _ ho, hd⟩⟩
      · obtain ⟨_, v, o, ho, hd⟩ := hcell x a e
        exact ⟨v, o, hk₁ _ _ ho, hd⟩
    refine PySem.W.kla_codeExpr (wpAny_mono (ht [] _ σ₀ H Q J q) (fun u s' hu => ?_) fun e s' z => False.elim z)
    obtain ⟨v, H', J', ru, q'⟩ := hu
    exact ⟨u, rfl, v, H', J'.os, J'.bare, J'.base, J'.hok, ru, q'⟩
  · obtain ⟨u, rfl, hq⟩ := hq
    exact I.after hq

/-- make(e), make a local name with a lambda in it -/
theorem pe_callV {i : Nat} {x : Str} {p pos : Pos} {e : Expr} {es : List Expr} {t : TA} {r : Addr → List V → Hp → VK → Prop}
    (hx : PE X (.Name x p) (tVar i)) (ha : PA X (e :: es) t)
    (hc : ∀ (f : Addr) (pins : List (Addr × Obj)) (σ : St) (H : Hp) (s : Shared) (vs : List V) (us : List Value) (Q : VK), Inv X pins σ H s → Vals vs us → r f vs H Q → wpAny (model X.prog X.w) X.A (call (.ref f) us) (EP X pins σ Q) X.xe s)
    (hf : ∀ (f : Addr) (vs : List V) (H : Hp) (Q : VK), r f vs H Q → ∃ c qual params body scope cl, H f = some (.ext (LamF f c qual params body scope cl)))
    (he : starEach (e :: es) X.env = (false, eval e X.env) :: starEach es X.env := by rfl) (hpl : (backTo pos (starEach es X.env)).any (·.1) = false := by rfl) :
    PE X (.Call (.Name x p) (e :: es) [] pos) (fun σ H Q => ∃ f, σ[i]? = some (some (.ref f)) ∧ (∃ c qual params body scope cl, H f = some (.ext (LamF f c qual params body scope cl))) ∧ t σ H fun vs H1 => r f vs H1 Q) := by
  intro pins s σ H Q I h
  obtain ⟨f, hi, ⟨c, qual, params, body, scope, cl, hH⟩, h⟩ := h
  refine wpAny_Call_Name_kw (thn (hx pins s σ H (fun v H' => v = .ref f ∧ H' = H) I ⟨.ref f, hi, rfl, rfl⟩) fun u s1 h1 => ?_)
  obtain ⟨v, H1, I1, ru, rfl, rfl⟩ := h1
  cases ru
  have fnAt : ∀ {σ' : St} {H' : Hp} {s' : Shared}, Inv X pins σ' H' s' → (∃ c qual params body scope cl, H' f = some (.ext (LamF f c qual params body scope cl))) → PySem.W.FnAt f s'.heap := fun {σ' H' s'} J ⟨c, qual, params, body, scope, cl, e⟩ => by
    obtain ⟨⟨name, pm, ctv, ho⟩, _⟩ := (show ObjOk X.prog X.w H' s'.heap f (.ext (LamF f c qual params body scope cl)) from J.hok f _ e)
    exact ⟨_, _, _, _, ho⟩
  refine PySem.W.callWith_F (fnAt I1 ⟨c, qual, params, body, scope, cl, hH⟩) (thn (ha pos pins s1 σ H1 _ I1 h) fun us s2 ⟨vs, H2, I2, r2, q2⟩ => ⟨fnAt I2 (hf f vs H2 Q q2), ?_⟩) he hpl
  exact hc f pins σ H2 s2 vs us Q I2 r2 q2
end

/-! ### a def's run where what it is promised hangs on the state -/
theorem fn_run {CX : CXT} {P : Program} {w : World} {K : PySem.W.Frag} {mg : Str → Option Value} {base : Heap} {k : Nat} {f : Addr} {name qual : Str} {params : Arguments} {body : List Stmt} {scope : Scope} {dV kV doc pm cdv ct oc : Value} {an od : Option Addr}
    {osl : Array (Option Value)} {N ps : List Str} (lk : K.lookup f = some ⟨oc, od, .func (PySem.W.fnOf name qual params body scope dV kV doc pm an cdv ct), osl⟩) (hcd : PySem.W.codeIn K cdv qual = true) (S : FnScope N ps scope)
    {A : Around} {outer : List Env} {s : Shared} {H : Hp} {args : Args} {us : List Value} {vs : List V} {Q : VK} {E : XK} (hr : Room (k + 1) A) (e0 : Env0 P w K mg base A outer s H)
    (hb : BindsTo s (PySem.W.fnOf name qual params body scope dV kV doc pm an cdv ct) args (ps.zip us)) (r : Vals vs us) (hl : vs.length = ps.length)
    (hbody : Room k (A.deeper (envOfC qual scope s.heap.objs.size f cdv)) → ∃ t, PSs (cxOf CX P w K mg base N qual scope f cdv A outer s H E) body t ∧ t { nx := fun _ H' => Q .non H', rt := Q } (start N vs) H) :
    codeAny (model P w) A (.call (.ref f) args) (CR CX outer P w H s Q E) s := by
  have KX : K.In s.heap := e0.mod.kin.keeps fun b o e => (e0.bs b o e).1
  have lim : s.heap.NoLimit := e0.mod.nolimit.keeps fun b o e => (e0.bs b o e).1
  have hkind : ∀ y ∈ ps.zip us, scope.names.lookup y.1 = some .local ∨ (scope.names.lookup y.1 = some .cell ∧ ((cellsFrom (s.heap.objs.size + 1) scope.names []).lookup y.1).isSome = true) := fun ⟨n, v⟩ hy => by
    rcases S.par n (List.of_mem_zip hy).1 with q | q
    · exact .inl q
    · exact .inr ⟨q, PySem.W.cellsFrom_some _ _ _ (.inl q)⟩
  refine codeAny_call_function hr.depth (KX _ _ lk) rfl S.co S.gen rfl (PySem.W.codeRec_of KX hcd) (hb _ _ _ _ ?_)
  refine wpAny_newFunctionEnv_cells S.kind hkind fun env he s1 x => ?_
  subst he
  refine ⟨lim.keeps x.toInCall.keep, codeAny_func ?_⟩
  obtain ⟨t, ht, hq⟩ := hbody (hr.deeper _)
  have I : Inv (cxOf CX P w K mg base N qual scope f cdv A outer s H E) [] (start N vs) H s1 := inv_start S hr.hd e0 hl r x
  refine wpAny_mono (ht [] s1 (start N vs) H _ I hq) (fun fl s' hs => ?_) fun e s' hs => hs
  have fin : ∀ {σ' : St} {H' : Hp} {v : V} {u : Value}, Inv (cxOf CX P w K mg base N qual scope f cdv A outer s H E) [] σ' H' s' → RelV v u → Q v H' → CE outer P w H s Q u s' :=
    fun {σ' H' v u} J rv q => ⟨v, H', J.os, J.bare, J.base, J.hok, rv, q⟩
  cases fl with
  | ret u =>
    obtain ⟨v, σ', H', J, rv, q⟩ := hs
    exact fin J rv q
  | next =>
    obtain ⟨σ', H', J, q⟩ := hs
    exact fin (v := V.non) (u := Value.none) J rfl q
  | brk =>
    obtain ⟨_, _, _, q⟩ := hs
    exact False.elim q
  | cont =>
    obtain ⟨_, _, _, q⟩ := hs
    exact False.elim q

section
variable {X : Cx} {f : Addr} {x : Str} {p pos : Pos} {e : Expr} {es : List Expr} {t : TA}
/-- f(e, ..) of a def of the text, by what its run gives in this very state -/
theorem pe_callS {sp : St → List V → Hp → VK → Prop} (hg : Gl X x) (hm : X.mg x = some (.ref f)) (hk : PySem.W.keepIn X.K (.ref f) = true)
    (run : ∀ (pins : List (Addr × Obj)) (σ : St) (H : Hp) (s : Shared) (vs : List V) (us : List Value) (Q : VK), Inv X pins σ H s → Vals vs us → sp σ vs H Q → codeAny (model X.prog X.w) X.A (.call (.ref f) ⟨us, []⟩) (CR CX0 X.stack X.prog X.w H s Q E0) s)
    (ha : PA X (e :: es) t) (hdb : (x == ("__debug__" : Str)) = false := by decide) (he : starEach (e :: es) X.env = (false, eval e X.env) :: starEach es X.env := by rfl) (hpl : (backTo pos (starEach es X.env)).any (·.1) = false := by rfl) :
    PE X (.Call (.Name x p) (e :: es) [] pos) (fun σ H Q => t σ H fun vs H1 => sp σ vs H1 Q) := by
  intro pins s σ H Q I h
  refine wpAny_Call_Name_kw (ld_glob I hg hm ?_ hdb)
  refine PySem.W.callWith_K (h₀ := X.base) I.ok.mod.kin hk (thn (ha pos pins s σ H _ I h) fun us s1 ⟨vs, H1, I1, r, q⟩ => ⟨I1.kIn, ?_⟩) he hpl
  refine wpAny_call (codeAny_mono (run pins σ H1 s1 vs us Q I1 r q) fun r s' hq => ?_)
  cases r with
  | error e => exact False.elim hq
  | ok fl =>
    cases fl with
    | ret u => exact I1.after hq
    | next => exact False.elim hq
    | brk => exact False.elim hq
    | cont => exact False.elim hq
end
section
variable {P : Program} {w : World} {K : PySem.W.Frag} {mg : Str → Option Value} {base : Heap}
/-- a def of the text run in this very state -/
theorem Fun.run {x qual : Str} {st : Stmt} {f : Addr} {fd : FuncData} {N ps : List Str} {k : Nat} (F : Fun K x qual st f fd) (S : FnScope N ps (defScope st)) {A : Around} {outer : List Env} {s : Shared} {H : Hp} {us : List Value} {vs : List V} {Q : VK}
    (hr : Room (k + 1) A) (e0 : Env0 P w K mg base A outer s H) (hb : Binds K fd ps []) (r : Vals vs us) (hl : vs.length = ps.length)
    (hbody : ∀ cdv : Value, Room k (A.deeper (envOfC qual (defScope st) s.heap.objs.size f cdv)) →
      ∃ t, PSs (cxOf CX0 P w K mg base N qual (defScope st) f cdv A outer s H E0).nox (defBody st) t ∧ t { nx := fun _ H' => Q .non H', rt := Q } (start N vs) H) :
    codeAny (model P w) A (.call (.ref f) ⟨us, []⟩) (CR CX0 outer P w H s Q E0) s := by
  obtain ⟨oc, od, kV, doc, pm, an, cdv, ct, osl, rfl, lk, hcd⟩ := F.ex
  have KX : K.In s.heap := e0.mod.kin.keeps fun b o e => (e0.bs b o e).1
  have hlu : us.length = ps.length := by rw [← r.length]; exact hl
  have hb' := hb s us KX (by rw [List.append_nil]; exact hlu)
  rw [List.append_nil] at hb'
  refine fn_run lk hcd S hr e0 hb' r hl fun hr' => ?_
  obtain ⟨t, h, q⟩ := hbody cdv hr'
  exact ⟨t, h.nox, q⟩
/-- a def whose code is known -/
theorem Fun.okC {x qual : Str} {st : Stmt} {f c : Addr} {fd : FuncData} {N ps : List Str} {k : Nat} {sp : Sp} (F : Fun K x qual st f fd) (hc : fd.code = .ref c) (S : FnScope N ps (defScope st)) (len : ∀ vs H Q E, sp vs H Q E → vs.length = ps.length)
    (hbody : ∀ (A : Around) (outer : List Env) (s : Shared) (H : Hp) (vs : List V) (Q : VK) (E : XK), Room k (A.deeper (envOfC qual (defScope st) s.heap.objs.size f (.ref c))) → sp vs H Q E →
      ∃ t, PSs (cxOf CX0 P w K mg base N qual (defScope st) f (.ref c) A outer s H E).nox (defBody st) t ∧ t { nx := fun _ H' => Q .non H', rt := Q } (start N vs) H) : FnOk P w K mg base CX0 (k + 1) f fd ps sp := by
  obtain ⟨oc, od, kV, doc, pm, an, cdv, ct, osl, rfl, lk, hcd⟩ := F.ex
  have hc' : cdv = .ref c := hc
  subst hc'
  refine fn_of lk hcd S len fun A outer s H vs Q E hr hsp => ?_
  obtain ⟨t, h, q⟩ := hbody A outer s H vs Q E hr hsp
  exact ⟨t, h.nox, q⟩
end
end L2

set_option Elab.async false
set_option maxRecDepth 100000
namespace L2
open PySem PySem.Spec PyProof.Rows

/-! ### [elt for x in iter] -/
/-- the context of a comprehension's block -/
def cxComp (X : Cx) (N : List Str) (scope : Scope) (cl : List (Str × Addr)) (C : Addr) (fp : List Addr) (s : Shared) (H : Hp) : Cx where
  prog := X.prog
  w := X.w
  K := X.K
  mg := X.mg
  base := X.base
  A := X.A
  N := N
  s₀ := s
  H₀ := H
  env := compEnvC scope cl C X.env
  outer := X.stack
  stack := X.stack
  ex := fp
  calm := true
  fn := fun _ => false
  pn := []
  xe := fun _ _ => False

structure CompScope (X : Cx) (x : Str) (ys : List Str) (sl : List Nat) (scope : Scope) (cl : List (Str × Addr)) : Prop where
  kind : scope.kind = .function
  nocell : ∀ y ∈ scope.names, y.2 ≠ .cell
  names : ∀ y ∈ scope.names, y.2 = .local → scope.names.lookup y.1 = some .local
  var : scope.names.lookup x = some .local
  nd : (x :: ys).Nodup
  clos : closureFor scope X.env = pure cl
  has : ∀ y, ((relabel scope X.env).names.lookup y = some .cell ∨ (relabel scope X.env).names.lookup y = some .free) → ∃ c, cl.lookup y = some c
  sub : ∀ y c, cl.lookup y = some c → X.env.cells.lookup y = some c
  slots : ∀ (i : Nat) (y : Str), ys[i]? = some y → ∃ j, sl[i]? = some j ∧ X.N[j]? = some y ∧ Vis X.env.scope y ∧ ((X.env.kindOf y = some .cell ∨ X.env.kindOf y = some .free)) ∧ ((relabel scope X.env).names.lookup y = some .cell ∨ (relabel scope X.env).names.lookup y = some .free)
  len : ys.length = sl.length

def tComp (wi : TI) (te : TE) (sl : List Nat) : TE := fun σ H Q => wi σ H fun J H1 => ∀ D, H1 D = none → ∃ W : Nat → Nat → List V → Hp → Prop, (∃ m, W 0 m [] (upd H1 D (.lst []))) ∧
  ∀ i m ys H, W i m ys H → H D = some (.lst ys) ∧ ((J.stop i H ∧ Q (.ref D) H) ∨
    (J.go i H ∧ ys.length < sizeLine ∧ ∀ x H', J.yld i H x H' → te (some x :: sl.map (fun j => σ.getD j none)) H' fun v H2 => H2 D = some (.lst ys) ∧ ∃ m', m' < m ∧ W (i + 1) m' (ys ++ [v]) (upd H2 D (.lst (ys ++ [v])))))

section
variable {X : Cx}
theorem pe_comp {elt iter : Expr} {x : Str} {px : Pos} {scope : Scope} {cl : List (Str × Addr)} {pos : Pos} {ys : List Str} {sl : List Nat} {wi : TI} {te : TE} (S : CompScope X x ys sl scope cl) (hcalm : X.calm = true)
    (hi : PI X (.Name x px) iter wi) (ht : ∀ C fp s H, PE (cxComp X (x :: ys) scope cl C fp s H) elt te) (hs : ∀ v, foldedSetIterable iter X.env v = pure v := by intro _; rfl) :
    PE X (.ListComp elt [⟨.Name x px, iter, [], 0⟩] scope pos) (tComp wi te sl) := by
  intro pins s σ H Q I h
  rw [eval_ListComp]
  refine wpAny_comprehension_free (use := none) rfl hs S.clos S.kind S.names (thn (hi pins s σ H _ I h) fun xv s1 h1 => thn h1 fun itv s2 h2 => ?_)
  obtain ⟨it, fp, tn, J, H2, rfl, I2, T, st2, f2, R2⟩ := h2
  refine wpAny_newObj_type (wpAny_newFunctionEnv S.nocell (by intro y hy; simp at hy) (fun h₁ hns hsb => ?_) S.kind)
  dsimp only at hns hsb ⊢
  have I3 : Inv X pins σ (upd H2 s2.heap.objs.size (.lst [])) { s2 with heap := s2.heap.push { cls := .type "list", data := .seq ([] : List Value).toArray }, toks := s2.toks } := I2.lnew .nil (Nat.zero_le _)
  obtain ⟨W, ⟨m0, w0⟩, step⟩ := R2 s2.heap.objs.size I2.fresh
  generalize hD : s2.heap.objs.size = D at *
  generalize hH3 : upd H2 D (.lst []) = H3 at *
  generalize hh3 : s2.heap.push { cls := .type "list", data := .seq ([] : List Value).toArray } = h3 at *
  have hC : h3.objs.size = D + 1 := by rw [← hh3, Heap.size_push, hD]
  have old3 : ∀ b o, s2.heap.get? b = some o → h3.get? b = some o := fun b o e => by rw [← hh3]; exact Heap.get?_push_of_some _ e
  have hk₁ : ∀ b o, h3.get? b = some o → h₁.get? b = some o := fun b o e => hsb.extBut b o (Nat.ne_of_lt (Heap.lt_size e)) (Heap.get?_push_of_some _ e)
  have fpl : ∀ b ∈ fp, b < D := fun b hb => by
    obtain ⟨o, e, _⟩ := T.obj _ _ st2 b hb
    rw [← hD]
    exact Heap.lt_size e
  have ltC : ∀ {b : Addr}, b < D → b < h3.objs.size := fun {b} h => by rw [hC]; exact Nat.lt_succ_of_lt h
  have f3 : ∀ b ∈ fp, FpOk X pins H3 b := fun b hb => ⟨by rw [← hH3, upd_ne (Nat.ne_of_lt (fpl b hb))]; exact (f2 b hb).1, (f2 b hb).2⟩
  have cellLt : ∀ y c, X.env.cells.lookup y = some c → c < D := fun y c e => by
    obtain ⟨v, q⟩ := I2.cell y c e
    rw [← hD]
    exact q.lt
  have locLt : X.env.locals < D := by rw [← hD]; exact I2.lt
  -- the block's context at its entry
  have J4 : Inv (cxComp X (x :: ys) scope cl h3.objs.size fp { s2 with heap := h3, toks := s2.toks } H3) [] (none :: sl.map (fun j => σ.getD j none)) H3 { s2 with heap := h₁, toks := s2.toks + ([] : List (Str × Value)).length } := by
    refine ⟨⟨I3.mod, S.kind, I3.ok.glob, I3.ok.blt, Nat.le_refl _, fun a b c h1 h2 => I3.ok.inj a b c (S.sub a c h1) (S.sub b c h2), S.has, fun a c z => absurd z Bool.false_ne_true, fun _ => I3.ok.hd hcalm, I3.ok.frames, .inl rfl, fun b hb => ⟨?_, fun a c e => ?_⟩,
        I3.bs, Nat.le_trans I3.ok.bsz I3.sz, fun b o e hb => ?_, fun b hb z => ?_, I3.stack, I3.stkFree⟩,
      rfl, I3.bare, Un.kept hk₁, ⟨_, hns, fun i y v h1 h2 h3 => ?_⟩, fun a c e => ?_, ?_, fun a c e => I3.freeC a c (S.sub a c e), fun p hp => absurd (show p ∈ ([] : List (Addr × Obj)) from hp) (by simp), I3.hok.kept hk₁, ?_⟩
    · exact Nat.ne_of_lt (ltC (fpl b hb))
    · exact (f3 b hb).2.2.2.2.1 a c (S.sub a c e)
    · rcases (f3 b hb).2.2.2.1 with z | z
      · exact I3.ok.noex b o e z
      · exact absurd (Nat.lt_of_lt_of_le (Heap.lt_size e) (Nat.le_trans I3.ok.bsz z)) (Nat.lt_irrefl _)
    · rcases List.mem_cons.mp (I3.stkSub b z) with e | e
      · exact (f3 b hb).2.1 e
      · exact (f3 b hb).2.2.1 e
    · cases i with
      | zero => exact absurd h2 (by simp)
      | succ i =>
        have h1 : ys[i]? = some y := h1
        obtain ⟨j, hj, hN, hv, hk, hr⟩ := S.slots i y h1
        have h2 : (sl.map (fun j => σ.getD j none))[i]? = some (some v) := h2
        rw [List.getElem?_map, hj] at h2
        have e2 : σ.getD j none = some v := Option.some.inj h2
        have e3 : σ[j]? = some (some v) := by
          rw [List.getD_eq_getElem?_getD] at e2
          cases q : σ[j]? with
          | none => rw [q] at e2; cases e2
          | some o => rw [q] at e2; rw [show o = some v from e2]
        obtain ⟨m, hns3, hl3⟩ := I3.loc
        obtain ⟨u, ru, lk⟩ := hl3 j y v hN e3 hv
        refine ⟨u, ru, .inr ⟨hr, ?_⟩⟩
        rcases lk with ⟨lk, _⟩ | ⟨_, c, hc, o, ho, hd⟩
        · rcases hk with hk | hk <;> (rw [lk] at hk; cases hk)
        · obtain ⟨c', hc'⟩ := S.has y hr
          have e := S.sub y c' hc'
          rw [hc] at e
          cases e
          exact ⟨c, hc', o, hk₁ _ _ ho, hd⟩
    · obtain ⟨v, o, ho, hd⟩ := I3.cell a c (S.sub a c e)
      exact ⟨v, o, hk₁ _ _ ho, hd⟩
    · show H3 h3.objs.size = none
      exact I3.hok.fresh (Nat.le_refl _)
    · show (none :: sl.map (fun j => σ.getD j none)).length = (x :: ys).length
      rw [List.length_cons, List.length_cons, List.length_map, S.len]
  have st4 : tn 0 h₁ := T.keep _ _ _ st2 fun b _ o e => hk₁ b o (old3 b o e)
  have stat : ∀ {H' : Hp}, (∀ b ∈ fp, H' b = none) → ∀ b ∈ fp, FpOk (cxComp X (x :: ys) scope cl h3.objs.size fp { s2 with heap := h3, toks := s2.toks } H3) [] H' b := fun {H'} hn b hb => by
    refine ⟨hn b hb, ?_, fun z => ?_, .inl hb, fun a c e => (f3 b hb).2.2.2.2.1 a c (S.sub a c e), fun p hp => absurd (show p ∈ ([] : List (Addr × Obj)) from hp) (by simp)⟩
    · exact Nat.ne_of_lt (ltC (fpl b hb))
    · rcases List.mem_cons.mp (I3.stkSub b z) with e | e
      · exact (f3 b hb).2.1 e
      · exact (f3 b hb).2.2.1 e
  have hg : PG (cxComp X (x :: ys) scope cl h3.objs.size fp { s2 with heap := h3, toks := s2.toks } H3) (.Name x px) (gName 0) := pg_name (i := 0) S.nd rfl (.inl (lookup_relabel_local S.var)) (.inr (lookup_relabel_local S.var))
  have hte : PE (cxComp X (x :: ys) scope cl h3.objs.size fp { s2 with heap := h3, toks := s2.toks } H3) elt te := ht _ _ _ _
  -- back to the frame
  have back : ∀ {σ' : St} {H' : Hp} {s' : Shared}, Inv (cxComp X (x :: ys) scope cl h3.objs.size fp { s2 with heap := h3, toks := s2.toks } H3) [] σ' H' s' → Q (.ref D) H' → compPost (model X.prog X.w) X.A X.xe none (EP X pins σ Q) (.ref D) h3.objs.size (.ok .next) s' := fun {σ' H' s'} J' q => by
    have hfree : H' h3.objs.size = none := J'.free
    obtain ⟨m, hns', _⟩ := J'.loc
    have J1 : Inv X pins σ H' s' := I3.call' (s' := s') (ch := fp) J'.os J'.base J'.hok J'.bare fun b hb => ⟨(f3 b hb).2.2.2.1, (f3 b hb).2.1, (f3 b hb).2.2.2.2.1, (f3 b hb).2.2.2.2.2⟩
    refine ⟨m, hns', fun h' sb => ⟨.ref D, H', ?_, rfl, q⟩⟩
    refine J1.turned (t' := s'.toks) (it := h3.objs.size) (fun b o hb e => (sb.2 b hb).trans e) hfree (Nat.ne_of_gt (ltC locLt)) (.inr ?_) (fun a c e z => ?_) fun p hp z => ?_
    · exact I3.sz
    · exact absurd (ltC (cellLt a c e)) (by rw [z]; exact Nat.lt_irrefl _)
    · have h1 : p.1 < h3.objs.size := Heap.lt_size (I3.pin p hp).1
      rw [z] at h1
      exact absurd h1 (Nat.lt_irrefl _)
  have loop : codeAny (model X.prog X.w) X.A (.compLoop (.ListComp elt [⟨.Name x px, iter, [], 0⟩] scope pos) 0 (.ref it) (.ref D) (compEnvC scope cl h3.objs.size X.env)) (compPost (model X.prog X.w) X.A X.xe none (EP X pins σ Q) (.ref D) h3.objs.size)
      { s2 with heap := h₁, toks := s2.toks + ([] : List (Str × Value)).length } := by
    refine codeAny_loop rfl (fun n s' => ∃ i o H' zs, Inv (cxComp X (x :: ys) scope cl h3.objs.size fp { s2 with heap := h3, toks := s2.toks } H3) [] (o :: sl.map (fun j => σ.getD j none)) H' s' ∧ tn i s'.heap ∧ (∀ b ∈ fp, H' b = none) ∧ W i n zs H') (fun n s' hI => ?_) m0 ⟨0, none, H3, [], J4, st4, fun b hb => (f3 b hb).1, w0⟩
    obtain ⟨i, o, H', zs, J5, st5, fr5, w5⟩ := hI
    show wpAny _ _ ((compTurn (.ListComp elt [⟨.Name x px, iter, [], 0⟩] scope pos) 0 (.ref it) (.ref D) (compEnvC scope cl h3.objs.size X.env)).onRaise (fun x => do noteFrame x (compEnvC scope cl h3.objs.size X.env); theTreesLotGoes x)) _ _ s'
    refine wpAny_noted ?_
    rw [compTurn_list1]
    refine wpAny_bind (wpAny_standAt (wpAny_bind ?_))
    obtain ⟨hDl, ⟨stop, q⟩ | ⟨go, hz, stepx⟩⟩ := step i n zs H' w5
    · refine thn (T.done (cxComp X (x :: ys) scope cl h3.objs.size fp { s2 with heap := h3, toks := s2.toks } H3) rfl rfl rfl rfl i [] s' _ H' _ J5 (stat fr5) st5 stop) fun r s6 ⟨hr, J6⟩ => ?_
      subst hr
      exact wpAny_pure (back J6 q)
    · refine thn (T.item (cxComp X (x :: ys) scope cl h3.objs.size fp { s2 with heap := h3, toks := s2.toks } H3) rfl rfl rfl rfl i [] s' _ H' _ J5 (stat fr5) st5 go) fun r s6 ⟨u, hr, h6⟩ => ?_
      subst hr
      refine wpAny_bind (thn h6 fun _ s7 ⟨xv, H7, J7, r7, y7, st7, fr7⟩ => ?_)
      have J7' := J7.pinned (stat fr7) (T.obj _ _ st7)
      refine wpAny_bind (wpAny_mono (hg _ s7 _ H7 xv u (fun σ' H'' => σ' = some xv :: sl.map (fun j => σ.getD j none) ∧ H'' = H7) J7' r7 ⟨rfl, rfl⟩) (fun _ s8 h8 => ?_) fun _ _ z => False.elim z)
      obtain ⟨σ8, H8, J8, rfl, rfl⟩ := h8
      refine wpAny_bind (wpAny_bind (wpAny_mono (hte _ s8 _ H8 _ J8 (stepx xv H8 y7)) (fun v s9 h9 => ?_) fun _ _ z => False.elim z))
      obtain ⟨y, H9, J9, r9, hD9, m', hm', w9⟩ := h9
      refine wpAny_bind (wpAny_mono (mt_append (X := (cxComp X (x :: ys) scope cl h3.objs.size fp { s2 with heap := h3, toks := s2.toks } H3)) _ s9 _ H9 (.ref D) [y] (.ref D) [v] (fun _ H'' => H'' = upd H9 D (.lst (zs ++ [y]))) J9 rfl (.cons r9 .nil) ⟨D, zs, y, rfl, rfl, hD9, hz, rfl⟩) (fun _ s10 h10 => ?_) fun _ _ z => False.elim z)
      obtain ⟨_, H10, J10, _, rfl⟩ := h10
      refine wpAny_pure (wpAny_pure ⟨rfl, m', hm', i + 1, _, _, zs ++ [y], J10.unpinned, T.keep _ _ _ st7 fun b hb ob e => (J10.pin (b, ob) (List.mem_append_right _ (List.mem_append_right _ (mem_pinsAt hb e)))).1, fun b hb => ?_, w9⟩)
      obtain ⟨ob, e, d⟩ := T.obj _ _ st7 b hb
      exact (J10.pin (b, ob) (List.mem_append_right _ (List.mem_append_right _ (mem_pinsAt hb e)))).2.1
  exact codeAny_compStart_list loop (T.self _ 0 _ _ _ st4 loop)
end
end L2

set_option Elab.async false
set_option maxRecDepth 100000
namespace L2
open PySem PySem.Spec PyProof.Rows

/-! ### the law's promise where defs of the text make lambdas: their codes' tables are tracked from the start -/
structure OnlyT (tabs : List (Addr × Addr)) (H : Hp) : Prop where
  only : ∀ b, H b = none ∨ (∃ o xs, H b = some (.frz o (.lst xs))) ∨ (b ∈ tabs.map (·.2) ∧ H b = some (.tbl #[]))
  tabs : ∀ q ∈ tabs, H q.2 = some (.tbl #[])

structure BMain (mg : Str → Option Value) (h : Heap) : Prop where
  ex : ∃ bm ob, mg "__builtins__" = some (.ref bm) ∧ bm ≠ builtinsNs ∧ h.get? bm = some ob ∧ ob.cls = .type "module" ∧ ob.dict = some builtinsNs ∧ ob.data = .plain

theorem law_callT {P : Program} {w : World} {K : PySem.W.Frag} {mg mb : Str → Option Value} {CX : CXT} {k : Nat} {fa a : Addr} {fd : FuncData} {x : Str} {sp : Sp} {s₁ : Shared} {vs : List Value} {ns : List Int} {tabs : List (Addr × Addr)}
    (KX : K.In s₁.heap) (hns : s₁.heap.Ns mainGlobals mg) (hb : s₁.heap.Ns builtinsNs mb) (hbb : ∀ x : Str, x ≠ "__name__" → mb x = bootBuiltins x) (hlim : s₁.heap.NoLimit) (hg : s₁.gens = #[])
    (hT : PySem.W.TabsAt tabs s₁.heap) (hnt : PySem.W.noTabs K = true) (hbm : BMain mg s₁.heap)
    (ha : s₁.heap.get? a = some { cls := .type "list", data := .seq vs.toArray }) (hi : IntsAre vs ns) (hl : ns.length ≤ sizeLine) (hr : Room k callerA)
    (F : ∀ base : Heap, K.In base → base.Ns mainGlobals mg → (∀ q ∈ tabs, PySem.W.CodeHd base q.1 q.2) → BMain mg base → FnOk P w K mg base CX k fa fd [x] sp) (hbind : ∀ (s : Shared) (u : Value), BindsTo s fd ⟨[u], []⟩ [(x, u)])
    (hsp : ∀ H : Hp, OnlyT tabs H → SqL K H a (ns.map V.int) → sp [.ref a] H (fun v _ => v = .bl true) fun _ _ _ => False)
    (hCX : ∀ H e s', CX [] H s₁ (fun _ _ _ => False) e s' → False) :
    codeAny (model P w) callerA (.call (.ref fa) ⟨[.ref a], []⟩) (fun r s' => r = .ok (.ret (.bool true)) ∧ OldK s₁.heap s'.heap ∧ s'.os = s₁.os ∧ AllBare s'.gens) s₁ := by
  have rv := vals_ints hi
  have lenV := hi.length
  have tabObjAt : ∀ b, b ∈ tabs.map (·.2) → s₁.heap.get? b = some (PySem.W.tabObj #[]) := fun b hb => by
    obtain ⟨q, hq, rfl⟩ := List.mem_map.mp hb
    exact (hT q hq).2
  have noTabK : ∀ b o, K.lookup b = some o → b ∉ tabs.map (·.2) := fun b o e hb => by
    have e1 := KX b o e
    rw [tabObjAt b hb] at e1
    cases e1
    have h2 := List.all_eq_true.mp hnt (b, _) (PySem.W.mem_of_lookupK e)
    exact absurd (show false = true from h2) Bool.false_ne_true
  have aNo : a ∉ tabs.map (·.2) := fun z => by
    have e := tabObjAt a z
    rw [ha] at e
    cases e
  have core : ∀ H : Hp, OnlyT tabs H → SqL K H a (ns.map V.int) → HOk P w H s₁.heap → (∀ b, H b ≠ none → b = a ∨ b ∈ tabs.map (·.2)) → (H a ≠ none → K.lookup a = none) →
      codeAny (model P w) callerA (.call (.ref fa) ⟨[.ref a], []⟩) (fun r s' => r = .ok (.ret (.bool true)) ∧ OldK s₁.heap s'.heap ∧ s'.os = s₁.os ∧ AllBare s'.gens) s₁ := by
    intro H hO hS hok hA hK
    have base_of : ∀ {b : Addr} {o : Obj}, s₁.heap.get? b = some o → H b = none → (hidT s₁.heap H).get? b = some o := fun e n => hidT_get e n
    have noC : ∀ {b : Addr} {o : Obj}, s₁.heap.get? b = some o → o ≠ { cls := .type "list", data := .seq vs.toArray } → o ≠ PySem.W.tabObj #[] → H b = none := fun {b o} e d1 d2 => by
      cases q : H b with
      | none => rfl
      | some u =>
        rcases hA b (by rw [q]; simp) with e' | e'
        · subst e'
          rw [ha] at e; cases e
          exact absurd rfl d1
        · rw [tabObjAt b e'] at e; cases e
          exact absurd rfl d2
    have nsK : ∀ {b : Addr} {m : Str → Option Value}, s₁.heap.Ns b m → (hidT s₁.heap H).Ns b m := fun {b m} ⟨o, es, ep, e, d, r⟩ => ⟨o, es, ep, base_of e (noC e (fun z => by rw [z] at d; cases d) (fun z => by rw [z] at d; cases d)), d, r⟩
    have hKb : K.In (hidT s₁.heap H) := fun b o e => base_of (KX b o e) (by
      cases q : H b with
      | none => rfl
      | some u =>
        rcases hA b (by rw [q]; simp) with e' | e'
        · subst e'
          rw [hK (by rw [q]; simp)] at e; cases e
        · exact absurd e' (noTabK b o e))
    have hCd : ∀ q ∈ tabs, PySem.W.CodeHd (hidT s₁.heap H) q.1 q.2 := fun q hq => by
      obtain ⟨o, vs', file, tf, flags, tg, inF, text, tt, e1, r1, r2, r3, r4, r5, r6, r7, r8, hne⟩ := (hT q hq).1
      exact ⟨o, vs', file, tf, flags, tg, inF, text, tt, base_of e1 (noC e1 (fun z => by rw [z] at r1; injection r1 with r1; exact absurd r1 (by decide)) (fun z => by rw [z] at r1; cases r1)), r1, r2, r3, r4, r5, r6, r7, r8, hne⟩
    have hBm : BMain mg (hidT s₁.heap H) := by
      obtain ⟨bm, ob, b1, b2, b3, b4, b5, b6⟩ := hbm.ex
      exact ⟨bm, ob, b1, b2, base_of b3 (noC b3 (fun z => by rw [z] at b4; injection b4 with b4; exact absurd b4 (by decide)) (fun z => by rw [z] at b4; cases b4)), b4, b5, b6⟩
    have hM : Mod K mg (hidT s₁.heap H) := ⟨hKb, nsK hns, ⟨mb, nsK hb, hbb⟩, let ⟨mc, h1, h2⟩ := hlim; ⟨mc, nsK h1, h2⟩⟩
    have e0 : Env0 P w K mg (hidT s₁.heap H) callerA [] s₁ H := ⟨rfl, hM, fun b o e => of_hidT e, Nat.le_of_eq (hidT_size _ _), trivial, fun b hb => absurd (show b ∈ ([] : List Addr) from hb) (by simp), hok, .of_eq hg⟩
    refine codeAny_mono ((F _ hKb (nsK hns) hCd hBm).run callerA [] s₁ H ⟨[.ref a], []⟩ [.ref a] [.ref a] _ _ hr e0 (hbind s₁ (.ref a)) (.cons rfl .nil) (hsp H hO hS)) fun r s' h => ?_
    cases r with
    | error e => exact (hCX H e s' h).elim
    | ok fl =>
      cases fl with
      | next => exact False.elim h
      | brk => exact False.elim h
      | cont => exact False.elim h
      | ret u =>
        obtain ⟨v, H', os, bare, un, hok', r', q⟩ := h
        have q' : v = .bl true := q
        subst q'
        obtain rfl : u = Value.bool true := r'
        have look : ∀ b o, s₁.heap.get? b = some o → (s'.heap.get? b = some o) ∨ (isCodeTable s₁.heap b ∧ o = PySem.W.tabObj #[] ∧ ∃ ps, s'.heap.get? b = some (PySem.W.tabObj ps)) := fun b o e => by
          rcases hO.only b with z | ⟨ob, xs, z⟩ | ⟨hb', z⟩
          · exact .inl (un.keep b o e z (by intro z; exact absurd (show b ∈ ([] : List Addr) from z) (by simp)) (by simp))
          · have z2 := un.frzs b ob _ z
            obtain ⟨e1, _⟩ := (show ObjOk P w H s₁.heap b (.frz ob (.lst xs)) from hok b _ z)
            obtain ⟨e2, _⟩ := (show ObjOk P w H' s'.heap b (.frz ob (.lst xs)) from hok' b _ z2)
            rw [e] at e1; cases e1
            exact .inl e2
          · obtain ⟨more, z2⟩ := un.tbls b _ z
            have e2 := (show ObjOk P w H' s'.heap b (.tbl (#[] ++ more)) from hok' b _ z2)
            obtain ⟨q, hq, rfl⟩ := List.mem_map.mp hb'
            have e3 := (hT q hq).2
            rw [e] at e3
            exact .inr ⟨((hT q hq).1.tab (hT q hq).2).isCodeTable, Option.some.inj e3, _, e2⟩
        refine ⟨rfl, ⟨fun b o e => ?_, fun b o e => ?_⟩, os, bare⟩
        · rcases look b o e with x | ⟨ht, rfl, ps, hP⟩
          · exact .inl x
          · exact .inr (.inl ⟨ht, rfl, #[], ps, rfl, by rw [Array.empty_append]; exact hP⟩)
        · rcases look b o e with x | ⟨ht, rfl, ps, hP⟩
          · exact ⟨o, x⟩
          · exact ⟨_, hP⟩
  have isTab : ∀ b, Decidable (b ∈ tabs.map (·.2)) := fun b => inferInstance
  cases hk : K.lookup a with
  | some o =>
    have e := KX a o hk
    rw [ha] at e
    cases e
    refine core (fun b => if b ∈ tabs.map (·.2) then some (.tbl #[]) else none) ⟨fun b => ?_, fun q hq => if_pos (List.mem_map_of_mem hq)⟩ (.inr ⟨_, vs.toArray, _, hk, rfl, rfl, rfl, by rw [List.size_toArray, lenV]; exact hl, by simpa using rv⟩) (fun b u z => ?_) (fun b z => ?_) fun z => absurd (if_neg aNo) z
    · by_cases hb : b ∈ tabs.map (·.2)
      · exact .inr (.inr ⟨hb, if_pos hb⟩)
      · exact .inl (if_neg hb)
    · by_cases hb : b ∈ tabs.map (·.2)
      · have z' := (if_pos hb).symm.trans z
        cases z'
        exact tabObjAt b hb
      · have z' := (if_neg hb).symm.trans z
        cases z'
    · by_cases hb : b ∈ tabs.map (·.2)
      · exact .inr hb
      · exact absurd (if_neg hb) z
  | none =>
    refine core (fun b => if b = a then some (.frz { cls := .type "list", data := .seq vs.toArray } (.lst (ns.map V.int))) else if b ∈ tabs.map (·.2) then some (.tbl #[]) else none) ⟨fun b => ?_, fun q hq => ?_⟩ (.inl (.inr ⟨{ cls := .type "list", data := .seq vs.toArray }, if_pos rfl⟩)) (fun b u z => ?_) (fun b z => ?_) fun _ => hk
    · by_cases hb : b = a
      · exact .inr (.inl ⟨_, _, if_pos hb⟩)
      · by_cases hb2 : b ∈ tabs.map (·.2)
        · exact .inr (.inr ⟨hb2, by rw [if_neg hb, if_pos hb2]⟩)
        · exact .inl (by rw [if_neg hb, if_neg hb2])
    · have hq' := List.mem_map_of_mem (f := (·.2)) hq
      have hne : q.2 ≠ a := fun z => aNo (by rw [← z]; exact hq')
      rw [if_neg hne, if_pos hq']
    · by_cases hb : b = a
      · have z' := (if_pos hb).symm.trans z
        cases z'
        subst hb
        exact ⟨ha, by rw [List.length_map]; exact hl, vs, _, rv, ha⟩
      · have z1 := (if_neg hb).symm.trans z
        by_cases hb2 : b ∈ tabs.map (·.2)
        · have z' := (if_pos hb2).symm.trans z1
          cases z'
          exact tabObjAt b hb2
        · have z' := (if_neg hb2).symm.trans z1
          cases z'
    · by_cases hb : b = a
      · exact .inl hb
      · by_cases hb2 : b ∈ tabs.map (·.2)
        · exact .inr hb2
        · exact absurd (by rw [if_neg hb, if_neg hb2]) z

theorem walk_ofT {l : PySem.W.OpenLaw} {n k : Nat} {q : Program} {loose : List Str} {XP : (Str → Option Value) → Heap → Prop} {YP : World → Heap → Prop} {d : DefRec} {K : Params → PySem.W.Frag} {CX : CXT} {sp : PySem.W.Frag → Sp} {x : Str} {tabs : PySem.W.Frag → List (Addr × Addr)}
    (hn : l.most = some n) (hn2 : n ≤ sizeLine) (hdf : d.params.defaults = []) (hr : Room k callerA)
    (hY : ∀ (w : World) (h : Heap), YP w h → (K w.params).In h)
    (hT : ∀ (w : World) (mean : ExcName → Option Value) (mg mb : Str → Option Value) (h : Heap), (K w.params).In h → Top q (PySem.W.looseW q loose) mean mg mb h → PySem.W.TabsAt (tabs (K w.params)) h)
    (hnt : ∀ w : World, PySem.W.noTabs (K w.params) = true)
    (F : ∀ (w : World) (mg : Str → Option Value) (fa : Addr) (h : Heap), (K w.params).In h → h.Ns mainGlobals mg → mg d.name = some (.ref fa) →
      ∃ fd : FuncData, (∀ (s : Shared) (u : Value), BindsTo s fd ⟨[u], []⟩ [(x, u)]) ∧
        ∀ base : Heap, (K w.params).In base → base.Ns mainGlobals mg → (∀ q ∈ tabs (K w.params), PySem.W.CodeHd base q.1 q.2) → BMain mg base → FnOk l.prog w (K w.params) mg base CX k fa fd [x] (sp (K w.params)))
    (hsp : ∀ (K : PySem.W.Frag) (H : Hp) (a : Addr) (ns : List Int), ns.length ≤ n → OnlyT (tabs K) H → SqL K H a (ns.map V.int) → sp K [.ref a] H (fun v _ => v = .bl true) fun _ _ _ => False)
    (hCX : ∀ (H : Hp) (s : Shared) (e : Value) (s' : Shared), CX [] H s (fun _ _ _ => False) e s' → False) :
    PySem.W.WalkO q loose XP YP l.row.toRowW d [] (fun f vs => PySem.call f vs) := by
  refine Att.attach_call hn hdf fun w s₀ s₁ mg mb fa o pm cd doc a vs ns G Y ho hd hcd hmg hobj hints hlen hg => ?_
  have KX := hY w _ Y
  obtain ⟨fd, hb, hF⟩ := F w mg fa _ KX G.T.g hmg
  exact law_callT KX G.T.g G.T.b G.T.builtins G.T.nolimit hg (hT w _ mg mb _ KX G.T) (hnt w) ⟨G.T.bmain⟩ hobj hints (Nat.le_trans hlen hn2) hr hF hb (fun H hO hS => hsp (K w.params) H a ns hlen hO hS) fun H e s' => hCX H s₁ e s'
/-- the table of a def of the top -/
def tabOf (x : Str) (K : PySem.W.Frag) : List (Addr × Addr) := match PySem.W.tabIn K x with
  | some q => [q]
  | none => []
theorem tabOf_ok {p : Program} {loose : List Str} {mean : ExcName → Option Value} {mg mb : Str → Option Value} {h : Heap} {K : PySem.W.Frag} {d : DefRec} {x : Str} (T : Top p loose mean mg mb h) (X : K.In h)
    (hr : (recsOf p).find? (fun e => e.name == x) = some d) : PySem.W.TabsAt (tabOf x K) h := by
  unfold tabOf
  cases e : PySem.W.tabIn K x with
  | none => intro q hq; cases hq
  | some q =>
    obtain ⟨c, P⟩ := q
    intro q hq
    rw [List.mem_singleton.mp hq]
    exact PySem.W.tab_of T X hr e
theorem tabOf_is {K : PySem.W.Frag} {x : Str} {f c P : Addr} {oc oc' : Value} {od od' : Option Addr} {fd : FuncData} {sl sl' : Array (Option Value)} {vs : Array Value} (a : PySem.W.nsIn K mainGlobals x = some (some (.ref f))) (l : K.lookup f = some ⟨oc, od, .func fd, sl⟩) (hc : fd.code = .ref c)
    (lc : K.lookup c = some ⟨oc', od', .fields vs, sl'⟩) (hv : (vs[11]? : Option Value) = some (.ref P)) : tabOf x K = [(c, P)] := by
  unfold tabOf PySem.W.tabIn
  simp only [a, l, hc, lc, hv]
end L2

namespace Wk
/-- a kind -/
inductive Kd where
  | num
  | blk (n : Int)
  | two (f : Bool) (a b : Kd)
  deriving DecidableEq

namespace Kd
def size : Kd → Nat
  | .num => 1
  | .blk _ => 1
  | .two _ a b => a.size + b.size + 1
def deep : Kd → Nat
  | .num => 1
  | .blk _ => 1
  | .two _ a b => max a.deep b.deep + 1
theorem deep_le : ∀ k : Kd, k.deep ≤ k.size
  | .num => Nat.le_refl _
  | .blk _ => Nat.le_refl _
  | .two _ a b => by have := deep_le a; have := deep_le b; simp only [deep, size]; omega
theorem size_pos : ∀ k : Kd, 1 ≤ k.size
  | .num => Nat.le_refl _
  | .blk _ => Nat.le_refl _
  | .two _ a b => by simp only [size]; omega
/-- its parts: itself first, those in the first part ahead of those in the second -/
def parts : Kd → List Kd
  | .num => [.num]
  | .blk n => [.blk n]
  | .two f a b => .two f a b :: (a.parts ++ b.parts)
theorem parts_length : ∀ k : Kd, k.parts.length = k.size
  | .num => rfl
  | .blk _ => rfl
  | .two _ a b => by simp only [parts, size, List.length_cons, List.length_append, parts_length a, parts_length b]
theorem parts_size : ∀ (k : Kd) {p : Kd}, p ∈ k.parts → p.size ≤ k.size
  | .num, p, h => by simp only [parts, List.mem_singleton] at h; subst h; exact Nat.le_refl _
  | .blk _, p, h => by simp only [parts, List.mem_singleton] at h; subst h; exact Nat.le_refl _
  | .two f a b, p, h => by
    simp only [parts, List.mem_cons, List.mem_append] at h
    rcases h with h | h | h
    · subst h; exact Nat.le_refl _
    · have := parts_size a h; simp only [size]; omega
    · have := parts_size b h; simp only [size]; omega
/-- no blank below nought -/
def ok : Kd → Prop
  | .num => True
  | .blk n => 0 ≤ n
  | .two _ a b => a.ok ∧ b.ok
theorem parts_ok : ∀ (k : Kd) {p : Kd}, k.ok → p ∈ k.parts → p.ok
  | .num, p, _, h => by simp only [parts, List.mem_singleton] at h; subst h; trivial
  | .blk _, p, q, h => by simp only [parts, List.mem_singleton] at h; subst h; exact q
  | .two f a b, p, q, h => by
    simp only [parts, List.mem_cons, List.mem_append] at h
    rcases h with h | h | h
    · subst h; exact q
    · exact parts_ok a q.1 h
    · exact parts_ok b q.2 h
/-- no blank beyond sixty figures -/
def few : Kd → Prop
  | .num => True
  | .blk n => n.natAbs < 10 ^ 59
  | .two _ a b => a.few ∧ b.few
/-- something put in the place of the blanks -/
def fill (φ : Int → Option Kd) : Kd → Kd
  | .num => .num
  | .blk n => (φ n).getD (.blk n)
  | .two f a b => .two f (a.fill φ) (b.fill φ)
theorem fill_ok {φ : Int → Option Kd} (hφ : ∀ n k, φ n = some k → k.ok) : ∀ k : Kd, k.ok → (k.fill φ).ok
  | .num, _ => trivial
  | .blk n, h => by
    show ((φ n).getD (.blk n)).ok
    cases e : φ n with
    | none => exact h
    | some t => exact hφ n t e
  | .two f a b, h => ⟨fill_ok hφ a h.1, fill_ok hφ b h.2⟩
theorem fill_size {φ : Int → Option Kd} {m : Nat} (hm : 1 ≤ m) (hφ : ∀ n k, φ n = some k → k.size ≤ m) : ∀ k : Kd, (k.fill φ).size ≤ k.size * m
  | .num => by simp only [fill, size]; omega
  | .blk n => by
    show ((φ n).getD (.blk n)).size ≤ 1 * m
    cases e : φ n with
    | none => simp only [Option.getD, size]; omega
    | some t => have := hφ n t e; simp only [Option.getD]; omega
  | .two f a b => by
    have h1 := fill_size hm hφ a
    have h2 := fill_size hm hφ b
    simp only [fill, size, Nat.add_mul]
    omega
theorem fill_deep {φ : Int → Option Kd} {m : Nat} (hm : 1 ≤ m) (hφ : ∀ n k, φ n = some k → k.deep ≤ m) : ∀ k : Kd, (k.fill φ).deep ≤ k.deep + m
  | .num => by simp only [fill, deep]; omega
  | .blk n => by
    show ((φ n).getD (.blk n)).deep ≤ 1 + m
    cases e : φ n with
    | none => simp only [Option.getD, deep]; omega
    | some t => have := hφ n t e; simp only [Option.getD]; omega
  | .two f a b => by
    have h1 := fill_deep hm hφ a
    have h2 := fill_deep hm hφ b
    simp only [fill, deep]
    omega
end Kd

/-! ### the walk through a kind's parts -/
def kids : Kd → List Kd
  | .two _ a b => [a, b]
  | _ => []
def flat (ts : List Kd) : List Kd := ts.flatMap Kd.parts
theorem flat_nil : flat [] = [] := rfl
theorem flat_app (a b : List Kd) : flat (a ++ b) = flat a ++ flat b := List.flatMap_append
theorem flat_cons (t : Kd) (r : List Kd) : flat (t :: r) = t :: flat (kids t ++ r) := by
  cases t <;> simp [flat, kids, Kd.parts]
theorem flat_one (t : Kd) : flat [t] = t.parts := by simp [flat]
/-- the roots of what is left behind i steps -/
def dfs (ts : List Kd) : Nat → List Kd
  | 0 => ts
  | n + 1 => match dfs ts n with
    | [] => []
    | t :: r => kids t ++ r
theorem dfs_flat (ts : List Kd) : ∀ n, flat (dfs ts n) = (flat ts).drop n
  | 0 => rfl
  | n + 1 => by
    have ih := dfs_flat ts n
    rw [← List.drop_drop, ← ih]
    show flat (match dfs ts n with | [] => [] | t :: r => kids t ++ r) = _
    cases dfs ts n with
    | nil => rfl
    | cons t r => rw [flat_cons]; rfl
theorem dfs_step {ts : List Kd} {n : Nat} {t : Kd} {r : List Kd} (h : dfs ts n = t :: r) : dfs ts (n + 1) = kids t ++ r := by
  show (match dfs ts n with | [] => [] | t :: r => kids t ++ r) = _
  rw [h]
theorem dfs_get {ts : List Kd} {n : Nat} {t : Kd} (h : (flat ts)[n]? = some t) : ∃ r, dfs ts n = t :: r := by
  have e := dfs_flat ts n
  cases q : dfs ts n with
  | nil =>
    rw [q, flat_nil] at e
    have : (flat ts)[n]? = none := List.getElem?_eq_none (List.drop_eq_nil_iff.mp e.symm)
    rw [this] at h; cases h
  | cons u r =>
    refine ⟨r, ?_⟩
    rw [q, flat_cons] at e
    have h2 : ((flat ts).drop n)[0]? = some t := by rw [List.getElem?_drop]; exact h
    rw [← e] at h2
    have : u = t := Option.some.inj h2
    rw [this]
theorem dfs_end {ts : List Kd} {n : Nat} (h : (flat ts).length ≤ n) : dfs ts n = [] := by
  have e := dfs_flat ts n
  rw [List.drop_eq_nil_of_le h] at e
  cases q : dfs ts n with
  | nil => rfl
  | cons u r => rw [q, flat_cons] at e; cases e
theorem dfs_nil {ts : List Kd} {n : Nat} (h : dfs ts n = []) : (flat ts).length ≤ n := by
  have e := dfs_flat ts n
  rw [h, flat_nil] at e
  exact List.drop_eq_nil_iff.mp e.symm
theorem flat_length (ts : List Kd) : ts.length ≤ (flat ts).length := by
  induction ts with
  | nil => exact Nat.le_refl _
  | cons t r ih =>
    have e : flat (t :: r) = t.parts ++ flat r := rfl
    rw [e, List.length_append, List.length_cons, Kd.parts_length]
    have := Kd.size_pos t
    omega
theorem dfs_length (ts : List Kd) (n : Nat) : (dfs ts n).length ≤ (flat ts).length := by
  have h := flat_length (dfs ts n)
  rw [dfs_flat, List.length_drop] at h
  omega

/-! ### blanks counted anew -/
def seen (os : List Int) : Kd → List Int
  | .blk n => if n ∈ os then os else os ++ [n]
  | _ => os
def ords (ks : List Kd) : List Int := ks.foldl seen []
/-- what a blank gets -/
def rank (os : List Int) (n : Int) : Option Kd := if n ∈ os then some (.blk (os.idxOf n : Nat)) else none
def renum (k : Kd) : Kd := k.fill (rank (ords k.parts))
theorem ords_snoc (ks : List Kd) (k : Kd) : ords (ks ++ [k]) = seen (ords ks) k := by
  unfold ords; rw [List.foldl_append]; rfl
theorem seen_length (os : List Int) (k : Kd) : (seen os k).length ≤ os.length + 1 := by
  cases k <;> simp only [seen] <;> (try split) <;> simp
theorem foldl_seen_length : ∀ (ks : List Kd) (os : List Int), (ks.foldl seen os).length ≤ os.length + ks.length
  | [], os => by simp
  | k :: r, os => by
    have h1 := foldl_seen_length r (seen os k)
    have h2 := seen_length os k
    simp only [List.foldl_cons, List.length_cons]; omega
theorem ords_length (ks : List Kd) : (ords ks).length ≤ ks.length := by
  have := foldl_seen_length ks []; simpa [ords] using this
theorem seen_mem {os : List Int} {k : Kd} {n : Int} (h : n ∈ os) : n ∈ seen os k := by
  cases k with
  | blk m => simp only [seen]; split
             · exact h
             · exact List.mem_append_left _ h
  | num => exact h
  | two f a b => exact h
theorem foldl_seen_mem : ∀ (ks : List Kd) (os : List Int) {n : Int}, n ∈ os → n ∈ ks.foldl seen os
  | [], _, _, h => h
  | k :: r, os, _, h => foldl_seen_mem r (seen os k) (seen_mem h)
theorem foldl_seen_in : ∀ (ks : List Kd) (os : List Int) {n : Int}, Kd.blk n ∈ ks → n ∈ ks.foldl seen os
  | [], _, _, h => absurd h (by simp)
  | k :: r, os, n, h => by
    rcases List.mem_cons.mp h with e | e
    · subst e
      refine foldl_seen_mem r _ ?_
      simp only [seen]; split
      · assumption
      · exact List.mem_append_right _ (List.mem_singleton.mpr rfl)
    · exact foldl_seen_in r _ e
theorem ords_in {ks : List Kd} {n : Int} (h : Kd.blk n ∈ ks) : n ∈ ords ks := foldl_seen_in ks [] h
theorem rank_old {os : List Int} {n m : Int} (h : m ∈ os) : rank (os ++ [n]) m = rank os m := by
  unfold rank
  rw [if_pos (List.mem_append_left _ h), if_pos h, List.idxOf_append, if_pos h]
theorem rank_new {os : List Int} {n : Int} (h : n ∉ os) : rank (os ++ [n]) n = some (.blk (os.length : Nat)) := by
  unfold rank
  rw [if_pos (List.mem_append_right _ (List.mem_singleton.mpr rfl)), List.idxOf_append, if_neg h]
  simp
theorem rank_other {os : List Int} {n m : Int} (h : m ∉ os) (hn : m ≠ n) : rank (os ++ [n]) m = none := by
  unfold rank
  rw [if_neg]
  intro q
  rcases List.mem_append.mp q with q | q
  · exact h q
  · exact hn (List.mem_singleton.mp q)
theorem rank_none {os : List Int} {n : Int} : rank os n = none ↔ n ∉ os := by
  unfold rank; split <;> simp_all
theorem rank_snoc (os : List Int) (n m : Int) (h : n ∉ os) : rank (os ++ [n]) m = if m = n then some (.blk (os.length : Nat)) else rank os m := by
  by_cases e : m = n
  · subst e; rw [if_pos rfl, rank_new h]
  · rw [if_neg e]
    by_cases q : m ∈ os
    · exact rank_old q
    · rw [rank_other q e, rank_none.mpr q]
theorem rank_ok {os : List Int} {n : Int} {k : Kd} (h : rank os n = some k) : k.ok := by
  unfold rank at h; split at h
  · cases h; exact Int.natCast_nonneg _
  · cases h
theorem rank_size {os : List Int} {n : Int} {k : Kd} (h : rank os n = some k) : k.size = 1 ∧ k.deep = 1 := by
  unfold rank at h; split at h
  · cases h; exact ⟨rfl, rfl⟩
  · cases h
theorem renum_ok {k : Kd} (h : k.ok) : (renum k).ok := Kd.fill_ok (fun _ _ e => rank_ok e) k h
theorem fill_rank_size (os : List Int) : ∀ k : Kd, (k.fill (rank os)).size = k.size ∧ (k.fill (rank os)).deep = k.deep
  | .num => ⟨rfl, rfl⟩
  | .blk n => by
    show ((rank os n).getD (.blk n)).size = 1 ∧ ((rank os n).getD (.blk n)).deep = 1
    cases e : rank os n with
    | none => exact ⟨rfl, rfl⟩
    | some t => exact rank_size e
  | .two f a b => by
    have h1 := fill_rank_size os a
    have h2 := fill_rank_size os b
    simp only [Kd.fill, Kd.size, Kd.deep, h1.1, h1.2, h2.1, h2.2, and_self]

/-! ### one kind as the other with something put in -/
abbrev Phi := Int → Option Kd
def put (φ : Phi) (n : Int) (t : Kd) : Phi := fun m => if m = n then some t else φ m
theorem put_same {φ : Phi} {n : Int} {t : Kd} (h : φ n = some t) : put φ n t = φ := by
  funext m; unfold put; split
  · rename_i e; subst e; exact h.symm
  · rfl
/-- the second parts ahead of the first ones, as both programs go -/
def mt (φ : Phi) : Kd → Kd → Option Phi
  | .blk n, t => match φ n with
    | none => some (put φ n t)
    | some u => if u = t then some φ else none
  | .num, .num => some φ
  | .num, _ => none
  | .two f a b, .two g c d => if f = g then (mt φ b d).bind fun ψ => mt ψ a c else none
  | .two _ _ _, _ => none
def mts (φ : Phi) : List (Kd × Kd) → Option Phi
  | [] => some φ
  | p :: r => (mt φ p.1 p.2).bind fun ψ => mts ψ r
theorem mts_two (φ : Phi) (f : Bool) (a b c d : Kd) (r : List (Kd × Kd)) : mts φ ((.two f a b, .two f c d) :: r) = mts φ ((b, d) :: (a, c) :: r) := by
  simp only [mts, mt, if_true, Option.bind_assoc]
def fit (w k : Kd) : Bool := (mts (fun _ => none) [(w, k)]).isSome
def sizes : List (Kd × Kd) → Nat
  | [] => 0
  | p :: r => p.1.size + sizes r
theorem sizes_length : ∀ ps : List (Kd × Kd), ps.length ≤ sizes ps
  | [] => Nat.le_refl _
  | p :: r => by have := sizes_length r; have := Kd.size_pos p.1; simp only [sizes, List.length_cons]; omega
/-- kinds that are all the same -/
def eqs (ps : List (Kd × Kd)) : Bool := ps.all fun p => decide (p.1 = p.2)
theorem eqs_two (f : Bool) (a b c d : Kd) (r : List (Kd × Kd)) : eqs ((.two f a b, .two f c d) :: r) = eqs ((b, d) :: (a, c) :: r) := by
  simp only [eqs, List.all_cons, Kd.two.injEq, true_and]
  by_cases h1 : a = c <;> by_cases h2 : b = d <;> simp [h1, h2]
end Wk

set_option Elab.async false
set_option maxRecDepth 100000
namespace L2
open PySem PySem.Spec PyProof.Rows Wk

/-! ### heaps: what stays -/
/-- the tuples stay -/
def Tk (H H' : Hp) : Prop := ∀ p xs, H p = some (.tup xs) → H' p = some (.tup xs)
theorem Tk.refl (H : Hp) : Tk H H := fun _ _ h => h
theorem Tk.trans {H H1 H2 : Hp} (a : Tk H H1) (b : Tk H1 H2) : Tk H H2 := fun p xs h => b p xs (a p xs h)
theorem Tk.upd {H : Hp} {p : Addr} {o : HO} (h : ∀ xs, H p ≠ some (.tup xs)) : Tk H (upd H p o) := fun q xs e => by
  have hq : q ≠ p := fun z => h xs (by rw [← z]; exact e)
  rw [upd_ne hq]
  exact e
theorem Tk.new {H : Hp} {p : Addr} {o : HO} (h : H p = none) : Tk H (L2.upd H p o) := .upd fun xs e => by rw [h] at e; cases e
theorem Tk.lst {H : Hp} {p : Addr} {o : HO} {ys : List V} (h : H p = some (.lst ys)) : Tk H (L2.upd H p o) := .upd fun xs e => by rw [h] at e; cases e
theorem Tk.dic {H : Hp} {p : Addr} {o : HO} {ys : List (Key × V)} (h : H p = some (.dK ys)) : Tk H (L2.upd H p o) := .upd fun xs e => by rw [h] at e; cases e
theorem Same.tk {H H' : Hp} (s : Same H H') : Tk H H' := fun p _ h => s p _ h
theorem Same.new {H : Hp} {p : Addr} {o : HO} (h : H p = none) : Same H (L2.upd H p o) := fun b u q => by rw [upd_ne (ne_of_none q h)]; exact q
theorem Same.upd {H H1 : Hp} {p : Addr} {o : HO} (s : Same H H1) (h : H p = none) : Same H (L2.upd H1 p o) := fun b u q => by rw [upd_ne (ne_of_none q h)]; exact s b u q

/-! ### a kind in the heap -/
def tag (f : Bool) : Str := if f then "to" else "pair"
def KAt (H : Hp) : V → Kd → Prop
  | v, .num => ∃ p, v = .ref p ∧ H p = some (.tup [.str "number"])
  | v, .blk n => ∃ p, v = .ref p ∧ H p = some (.tup [.str "blank", .int n])
  | v, .two f a b => ∃ p x y, v = .ref p ∧ H p = some (.tup [.str (tag f), x, y]) ∧ KAt H x a ∧ KAt H y b
theorem KAt.mono {H H' : Hp} (t : Tk H H') : ∀ {k : Kd} {v : V}, KAt H v k → KAt H' v k
  | .num, _, ⟨p, e, h⟩ => ⟨p, e, t p _ h⟩
  | .blk _, _, ⟨p, e, h⟩ => ⟨p, e, t p _ h⟩
  | .two _ _ _, _, ⟨p, x, y, e, h, ha, hb⟩ => ⟨p, x, y, e, t p _ h, KAt.mono t ha, KAt.mono t hb⟩
theorem tag_inj {f g : Bool} (h : tag f = tag g) : f = g := by
  cases f <;> cases g <;> first | rfl | (exact absurd h (by decide))
theorem tag_num (f : Bool) : tag f ≠ "number" := by cases f <;> decide
theorem tag_blk (f : Bool) : tag f ≠ "blank" := by cases f <;> decide
theorem KAt.inj {H : Hp} : ∀ {k k' : Kd} {v : V}, KAt H v k → KAt H v k' → k = k'
  | .num, .num, _, _, _ => rfl
  | .num, .blk _, _, ⟨p, e, h⟩, ⟨p', e', h'⟩ => by cases e; cases e'; rw [h] at h'; cases h'
  | .num, .two f _ _, _, ⟨p, e, h⟩, ⟨p', _, _, e', h', _⟩ => by cases e; cases e'; rw [h] at h'; simp at h'
  | .blk _, .num, _, ⟨p, e, h⟩, ⟨p', e', h'⟩ => by cases e; cases e'; rw [h] at h'; cases h'
  | .blk _, .blk _, _, ⟨p, e, h⟩, ⟨p', e', h'⟩ => by cases e; cases e'; rw [h] at h'; cases h'; rfl
  | .blk _, .two f _ _, _, ⟨p, e, h⟩, ⟨p', _, _, e', h', _⟩ => by cases e; cases e'; rw [h] at h'; simp at h'
  | .two _ _ _, .num, _, ⟨p, _, _, e, h, _⟩, ⟨p', e', h'⟩ => by cases e; cases e'; rw [h] at h'; simp at h'
  | .two _ _ _, .blk _, _, ⟨p, _, _, e, h, _⟩, ⟨p', e', h'⟩ => by cases e; cases e'; rw [h] at h'; simp at h'
  | .two f a b, .two g c d, _, ⟨p, x, y, e, h, ha, hb⟩, ⟨p', x', y', e', h', hc, hd⟩ => by
    cases e; cases e'
    rw [h] at h'
    have h2 := Option.some.inj h'
    injection h2 with h2
    injection h2 with h3 h4
    injection h3 with h3
    injection h4 with h4 h5
    injection h5 with h5
    rw [tag_inj h3]
    subst h4 h5
    rw [KAt.inj ha hc, KAt.inj hb hd]
/-- the tuple of a kind -/
theorem KAt.ref {H : Hp} {v : V} {k : Kd} (h : KAt H v k) : ∃ p xs, v = .ref p ∧ H p = some (.tup xs) := by
  cases k with
  | num => obtain ⟨p, e, q⟩ := h; exact ⟨p, _, e, q⟩
  | blk n => obtain ⟨p, e, q⟩ := h; exact ⟨p, _, e, q⟩
  | two f a b => obtain ⟨p, x, y, e, q, _⟩ := h; exact ⟨p, _, e, q⟩
abbrev Ks (H : Hp) : List V → List Kd → Prop := Paired (KAt H)
theorem Ks.mono {H H' : Hp} (t : Tk H H') {vs : List V} {ks : List Kd} (h : Ks H vs ks) : Ks H' vs ks := Paired.imp' (fun _ _ q => q.mono t) h
theorem paired_app {α β : Type} {F : α → β → Prop} : ∀ {a : List α} {b : List β} {c : List α} {d : List β}, Paired F a b → Paired F c d → Paired F (a ++ c) (b ++ d)
  | _, _, _, _, .nil, h => h
  | _, _, _, _, .cons x r, h => .cons x (paired_app r h)
theorem paired_snoc_inv {α β : Type} {F : α → β → Prop} : ∀ {a : List α} {b : List β} {y : β}, Paired F a (b ++ [y]) → ∃ a' x, a = a' ++ [x] ∧ Paired F a' b ∧ F x y
  | _, [], y, .cons h .nil => ⟨[], _, rfl, .nil, h⟩
  | _, b :: bs, y, .cons h r => by
    obtain ⟨a', x, e, p, q⟩ := paired_snoc_inv r
    subst e
    exact ⟨_ :: a', x, rfl, .cons h p, q⟩
theorem paired_get {α β : Type} {F : α → β → Prop} : ∀ {a : List α} {b : List β} {i : Nat} {x : α}, Paired F a b → a[i]? = some x → ∃ y, b[i]? = some y ∧ F x y
  | _, _, _, _, .nil, h => by simp at h
  | _, _, 0, x, .cons (b := y) h r, e => by
    simp at e
    exact ⟨y, rfl, e ▸ h⟩
  | _, _, i + 1, x, .cons h r, e => paired_get (i := i) r e

/-! ### == of two kinds -/
section
variable {A : Around} {s : Shared} {H : Hp} {P : Program} {w : World}
theorem tup_at (hok : HOk P w H s.heap) {p : Addr} {xs : List V} (h : H p = some (.tup xs)) : ∃ its : List Value, Vals xs its ∧ s.heap.IsTuple p its.toArray := by
  obtain ⟨_, its, r, q⟩ := (show ObjOk P w H s.heap p (.tup xs) from hok p _ h)
  exact ⟨its, r, q⟩
theorem rc_tups (hok : HOk P w H s.heap) {p q : Addr} {xs ys : List V} (e : Nat → Bool) (hp : H p = some (.tup xs)) (hq : H q = some (.tup ys)) (hu : A.units < cLine)
    (he : ∀ (j : Nat) (x y : V) (u v : Value), xs[j]? = some x → ys[j]? = some y → RelV x u → RelV y v → SeqAt.EqAt A.in1 s u v (e j)) :
    SeqAt.RcAt A s (.ref p) (.ref q) ((List.range (min xs.length ys.length)).all e && xs.length == ys.length) ∧ SeqAt.RcNeAt A s (.ref p) (.ref q) (!((List.range (min xs.length ys.length)).all e && xs.length == ys.length)) := by
  obtain ⟨us, ru, tu⟩ := tup_at hok hp
  obtain ⟨vs, rv, tv⟩ := tup_at hok hq
  have e1 : us.toArray.size = xs.length := by rw [List.size_toArray, ru.length]
  have e2 : vs.toArray.size = ys.length := by rw [List.size_toArray, rv.length]
  have he' : ∀ j (h1 : j < us.toArray.size) (h2 : j < vs.toArray.size), SeqAt.EqAt A.in1 s us.toArray[j] vs.toArray[j] (e j) := fun j h1 h2 => by
    have a1 : j < xs.length := by omega
    have a2 : j < ys.length := by omega
    obtain ⟨u, hu', ru'⟩ := ru.get (List.getElem?_eq_getElem a1)
    obtain ⟨v, hv', rv'⟩ := rv.get (List.getElem?_eq_getElem a2)
    have b1 : us.toArray[j] = u := by
      have : us[j]? = some us.toArray[j] := by simp [List.getElem?_eq_getElem (by simpa using h1)]
      rw [hu'] at this; exact (Option.some.inj this).symm
    have b2 : vs.toArray[j] = v := by
      have : vs[j]? = some vs.toArray[j] := by simp [List.getElem?_eq_getElem (by simpa using h2)]
      rw [hv'] at this; exact (Option.some.inj this).symm
    rw [b1, b2]
    exact he j _ _ u v (List.getElem?_eq_getElem a1) (List.getElem?_eq_getElem a2) ru' rv'
  have r1 := SeqAt.RcAt.tuples tu tv hu he'
  have r2 := SeqAt.RcNeAt.tuples tu tv hu he'
  rw [e1, e2] at r1 r2
  exact ⟨r1, r2⟩
theorem eqAt_str {a b : Str} {u v : Value} (ru : RelV (.str a) u) (rv : RelV (.str b) v) : SeqAt.EqAt A s u v (decide (a = b)) := by
  have h := eqAt_V (A := A) (s := s) ru rv rfl rfl
  have e : eqV (.str a) (.str b) = decide (a = b) := by
    show (a == b) = _
    by_cases q : a = b
    · subst q; simp
    · rw [decide_eq_false q]; simpa using q
  rw [e] at h
  exact h
theorem eqAt_int {a b : Int} {u v : Value} (ru : RelV (.int a) u) (rv : RelV (.int b) v) : SeqAt.EqAt A s u v (decide (a = b)) := by
  have h := eqAt_V (A := A) (s := s) ru rv rfl rfl
  have e : eqV (.int a) (.int b) = decide (a = b) := by
    show (a == b) = _
    by_cases q : a = b
    · subst q; simp
    · rw [decide_eq_false q]; simpa using q
  rw [e] at h
  exact h
end
section
variable {s : Shared} {H : Hp} {P : Program} {w : World}
/-- the answers of the items, from the left -/
def itemsEq : Kd → Kd → Nat → Bool
  | .num, .num, _ => true
  | .blk n, .blk m, 1 => decide (n = m)
  | .blk _, .blk _, _ => true
  | .two f _ _, .two g _ _, 0 => decide (f = g)
  | .two _ a _, .two _ c _, 1 => decide (a = c)
  | .two _ _ b, .two _ _ d, _ => decide (b = d)
  | _, _, _ => false
theorem kd_rc (hok : HOk P w H s.heap) : ∀ (k k' : Kd) {A : Around} {p q : Addr}, KAt H (.ref p) k → KAt H (.ref q) k' → A.units + k.deep < cLine →
    SeqAt.RcAt A s (.ref p) (.ref q) (decide (k = k')) ∧ SeqAt.RcNeAt A s (.ref p) (.ref q) (!decide (k = k'))
  | .num, .num, A, p, q, ⟨p1, e, h⟩, ⟨q1, e', h'⟩, hu => by
    cases e; cases e'
    have r := rc_tups (A := A) hok (fun _ => true) h h' (by omega) (fun j x y u v h1 h2 ru rv => by
      match j, h1, h2 with
      | 0, h1, h2 =>
        cases (Option.some.inj h1); cases (Option.some.inj h2)
        exact eqAt_str ru rv)
    simpa using r
  | .num, .blk n, A, p, q, ⟨p1, e, h⟩, ⟨q1, e', h'⟩, hu => by
    cases e; cases e'
    have r := rc_tups (A := A) hok (fun _ => false) h h' (by omega) (fun j x y u v h1 h2 ru rv => by
      match j, h1, h2 with
      | 0, h1, h2 =>
        cases (Option.some.inj h1); cases (Option.some.inj h2)
        exact eqAt_str ru rv)
    simpa using r
  | .num, .two f a b, A, p, q, ⟨p1, e, h⟩, ⟨q1, x1, y1, e', h', _⟩, hu => by
    cases e; cases e'
    have r := rc_tups (A := A) hok (fun _ => false) h h' (by omega) (fun j x y u v h1 h2 ru rv => by
      match j, h1, h2 with
      | 0, h1, h2 =>
        cases (Option.some.inj h1); cases (Option.some.inj h2)
        have := eqAt_str (A := A.in1) (s := s) ru rv
        rwa [decide_eq_false (fun z => tag_num f z.symm)] at this)
    simpa using r
  | .blk n, .num, A, p, q, ⟨p1, e, h⟩, ⟨q1, e', h'⟩, hu => by
    cases e; cases e'
    have r := rc_tups (A := A) hok (fun _ => false) h h' (by omega) (fun j x y u v h1 h2 ru rv => by
      match j, h1, h2 with
      | 0, h1, h2 =>
        cases (Option.some.inj h1); cases (Option.some.inj h2)
        exact eqAt_str ru rv)
    simpa using r
  | .blk n, .blk m, A, p, q, ⟨p1, e, h⟩, ⟨q1, e', h'⟩, hu => by
    cases e; cases e'
    have r := rc_tups (A := A) hok (fun j => if j = 1 then decide (n = m) else true) h h' (by omega) (fun j x y u v h1 h2 ru rv => by
      match j, h1, h2 with
      | 0, h1, h2 =>
        cases (Option.some.inj h1); cases (Option.some.inj h2)
        exact eqAt_str ru rv
      | 1, h1, h2 =>
        cases (Option.some.inj h1); cases (Option.some.inj h2)
        exact eqAt_int ru rv)
    simpa [List.range_succ] using r
  | .blk n, .two f a b, A, p, q, ⟨p1, e, h⟩, ⟨q1, x1, y1, e', h', ha, hb⟩, hu => by
    cases e; cases e'
    have r := rc_tups (A := A) hok (fun j => false) h h' (by omega) (fun j x y u v h1 h2 ru rv => by
      match j, h1, h2 with
      | 0, h1, h2 =>
        cases (Option.some.inj h1); cases (Option.some.inj h2)
        have := eqAt_str (A := A.in1) (s := s) ru rv
        rwa [decide_eq_false (fun z => tag_blk f z.symm)] at this
      | 1, h1, h2 =>
        cases (Option.some.inj h1); cases (Option.some.inj h2)
        obtain ⟨px, xs, rfl, hx⟩ := ha.ref
        obtain ⟨t, rfl⟩ := ru
        cases rv
        obtain ⟨its, _, ht⟩ := tup_at hok hx
        exact SeqAt.EqAt.int_tuple _ _ ht (by simp only [Kd.deep] at hu ⊢; omega))
    simpa using r
  | .two f a b, .num, A, p, q, ⟨p1, x1, y1, e, h, _⟩, ⟨q1, e', h'⟩, hu => by
    cases e; cases e'
    have r := rc_tups (A := A) hok (fun _ => false) h h' (by omega) (fun j x y u v h1 h2 ru rv => by
      match j, h1, h2 with
      | 0, h1, h2 =>
        cases (Option.some.inj h1); cases (Option.some.inj h2)
        have := eqAt_str (A := A.in1) (s := s) ru rv
        rwa [decide_eq_false (tag_num f)] at this)
    simpa using r
  | .two f a b, .blk m, A, p, q, ⟨p1, x1, y1, e, h, ha, hb⟩, ⟨q1, e', h'⟩, hu => by
    cases e; cases e'
    have r := rc_tups (A := A) hok (fun j => false) h h' (by omega) (fun j x y u v h1 h2 ru rv => by
      match j, h1, h2 with
      | 0, h1, h2 =>
        cases (Option.some.inj h1); cases (Option.some.inj h2)
        have := eqAt_str (A := A.in1) (s := s) ru rv
        rwa [decide_eq_false (tag_blk f)] at this
      | 1, h1, h2 =>
        cases (Option.some.inj h1); cases (Option.some.inj h2)
        obtain ⟨px, xs, rfl, hx⟩ := ha.ref
        obtain ⟨t, rfl⟩ := rv
        cases ru
        obtain ⟨its, _, ht⟩ := tup_at hok hx
        exact SeqAt.EqAt.tuple_int _ _ ht (by simp only [Kd.deep] at hu ⊢; omega))
    simpa using r
  | .two f a b, .two g c d, A, p, q, ⟨p1, x1, y1, e, h, ha, hb⟩, ⟨q1, x2, y2, e', h', hc, hd⟩, hu => by
    cases e; cases e'
    have sub : ∀ (k k' : Kd) {x y : V} {u v : Value}, KAt H x k → KAt H y k' → RelV x u → RelV y v → A.in1.units + k.deep < cLine → (∀ {p q : Addr}, KAt H (.ref p) k → KAt H (.ref q) k' → A.in1.units + k.deep < cLine → SeqAt.RcAt A.in1 s (.ref p) (.ref q) (decide (k = k'))) → SeqAt.EqAt A.in1 s u v (decide (k = k')) := by
      intro k k' x y u v h1 h2 ru rv hu' ih
      obtain ⟨p2, xs, rfl, _⟩ := h1.ref
      obtain ⟨q2, ys, rfl, _⟩ := h2.ref
      cases ru; cases rv
      by_cases z : p2 = q2
      · subst z
        rw [decide_eq_true (h1.inj h2)]
        exact SeqAt.EqAt.same _
      · exact SeqAt.EqAt.of_refs z (ih h1 h2 hu')
    have ua : A.in1.units + a.deep < cLine := by simp only [Kd.deep] at hu ⊢; omega
    have ub : A.in1.units + b.deep < cLine := by simp only [Kd.deep] at hu ⊢; omega
    have r := rc_tups (A := A) hok (fun j => if j = 0 then decide (f = g) else if j = 1 then decide (a = c) else decide (b = d)) h h' (by omega) (fun j x y u v h1 h2 ru rv => by
      match j, h1, h2 with
      | 0, h1, h2 =>
        cases (Option.some.inj h1); cases (Option.some.inj h2)
        have := eqAt_str (A := A.in1) (s := s) ru rv
        by_cases z : f = g
        · subst z; simpa using this
        · rw [decide_eq_false (fun z' => z (tag_inj z'))] at this
          simpa [z] using this
      | 1, h1, h2 =>
        cases (Option.some.inj h1); cases (Option.some.inj h2)
        exact sub a c ha hc ru rv ua fun {p q} h1 h2 h3 => (kd_rc hok a c h1 h2 h3).1
      | 2, h1, h2 =>
        cases (Option.some.inj h1); cases (Option.some.inj h2)
        exact sub b d hb hd ru rv ub fun {p q} h1 h2 h3 => (kd_rc hok b d h1 h2 h3).1)
    have e : ((List.range (min [V.str (tag f), x1, y1].length [V.str (tag g), x2, y2].length)).all (fun j => if j = 0 then decide (f = g) else if j = 1 then decide (a = c) else decide (b = d)) && [V.str (tag f), x1, y1].length == [V.str (tag g), x2, y2].length) = decide (Kd.two f a b = Kd.two g c d) := by
      by_cases z1 : f = g <;> by_cases z2 : a = c <;> by_cases z3 : b = d <;> simp [List.range_succ, z1, z2, z3]
    rw [e] at r
    exact r
end
section
variable {X : Cx}
/-- != of two kinds -/
def rNeK : R2 := fun x y H Q => ∃ k k', KAt H x k ∧ KAt H y k' ∧ k.deep ≤ 3000 ∧ Q (.bl (!decide (k = k'))) H
theorem op_neK (hu : X.A.units + 3000 < cLine) : OpR X (compareOp .NotEq) rNeK := by
  intro pins s σ H x y v u Q I rx ry h
  obtain ⟨k, k', h1, h2, hd, q⟩ := h
  obtain ⟨p, xs, rfl, _⟩ := h1.ref
  obtain ⟨p', ys, rfl, _⟩ := h2.ref
  cases rx; cases ry
  exact (kd_rc I.hok k k' h1 h2 (by omega)).2 _ _ _ _ ⟨.bl _, H, I, rfl, q⟩
end
end L2

set_option Elab.async false
set_option maxRecDepth 100000
namespace L2
open PySem PySem.Spec PyProof.Rows Wk
/-! ### a kind's tuple: its word, what is behind it -/
def hdS : Kd → Str
  | .num => "number"
  | .blk _ => "blank"
  | .two f _ _ => tag f
def Rest (H : Hp) : Kd → List V → Prop
  | .num, xs => xs = []
  | .blk n, xs => xs = [.int n]
  | .two _ a b, xs => ∃ x y, xs = [x, y] ∧ KAt H x a ∧ KAt H y b
theorem KAt.shape {H : Hp} {v : V} {k : Kd} (h : KAt H v k) : ∃ p xs, v = .ref p ∧ H p = some (.tup (.str (hdS k) :: xs)) ∧ Rest H k xs := by
  cases k with
  | num => obtain ⟨p, e, q⟩ := h; exact ⟨p, [], e, q, rfl⟩
  | blk n => obtain ⟨p, e, q⟩ := h; exact ⟨p, _, e, q, rfl⟩
  | two f a b => obtain ⟨p, x, y, e, q, h1, h2⟩ := h; exact ⟨p, [x, y], e, q, x, y, rfl, h1, h2⟩
theorem Rest.mono {H H' : Hp} (t : Tk H H') {k : Kd} {xs : List V} (h : Rest H k xs) : Rest H' k xs := by
  cases k with
  | num => exact h
  | blk n => exact h
  | two f a b => obtain ⟨x, y, e, h1, h2⟩ := h; exact ⟨x, y, e, h1.mono t, h2.mono t⟩
theorem hdS_blank {k : Kd} : hdS k = "blank" ↔ ∃ n, k = .blk n := by
  cases k with
  | num => exact ⟨fun h => absurd h (by decide), fun ⟨n, h⟩ => by cases h⟩
  | blk n => exact ⟨fun _ => ⟨n, rfl⟩, fun _ => rfl⟩
  | two f a b => exact ⟨fun h => absurd h (tag_blk f), fun ⟨n, h⟩ => by cases h⟩
/-- two kinds with one word -/
theorem hdS_same {a b : Kd} (h : hdS a = hdS b) : (a = .num ∧ b = .num) ∨ (∃ n m, a = .blk n ∧ b = .blk m) ∨ ∃ f c d e g, a = .two f c d ∧ b = .two f e g := by
  cases a with
  | num =>
    cases b with
    | num => exact .inl ⟨rfl, rfl⟩
    | blk m => exact absurd (show ("number" : Str) = "blank" from h) (by decide)
    | two g c d => exact absurd h.symm (tag_num g)
  | blk n =>
    cases b with
    | num => exact absurd (show ("blank" : Str) = "number" from h) (by decide)
    | blk m => exact .inr (.inl ⟨n, m, rfl, rfl⟩)
    | two g c d => exact absurd h.symm (tag_blk g)
  | two f c d =>
    cases b with
    | num => exact absurd h (tag_num f)
    | blk m => exact absurd h (tag_blk f)
    | two g e g' =>
      have := tag_inj h
      subst this
      exact .inr (.inr ⟨f, c, d, e, g', rfl, rfl⟩)
theorem rest_length {H : Hp} {k : Kd} {xs : List V} (h : Rest H k xs) : (xs.length = 2) = (∃ f a b, k = .two f a b) := by
  cases k with
  | num => subst h; simp
  | blk n => subst h; simp
  | two f a b => obtain ⟨x, y, rfl, _⟩ := h; simp

/-! ### a pair of kinds -/
def PAt (H : Hp) (v : V) (p : Kd × Kd) : Prop := ∃ a x y, v = .ref a ∧ H a = some (.tup [x, y]) ∧ KAt H x p.1 ∧ KAt H y p.2
theorem PAt.mono {H H' : Hp} (t : Tk H H') {v : V} {p : Kd × Kd} (h : PAt H v p) : PAt H' v p :=
  let ⟨a, x, y, e, q, h1, h2⟩ := h; ⟨a, x, y, e, t _ _ q, h1.mono t, h2.mono t⟩
abbrev Ps (H : Hp) : List V → List (Kd × Kd) → Prop := Paired (PAt H)
theorem Ps.mono {H H' : Hp} (t : Tk H H') {vs : List V} {ks : List (Kd × Kd)} (h : Ps H vs ks) : Ps H' vs ks := Paired.imp' (fun _ _ q => q.mono t) h
theorem while_n {c : TT} {tb : TS} {D : Ends} {σ : St} {H : Hp} (W : Nat → St → Hp → Prop) (m : Nat) (h0 : W m σ H)
    (hs : ∀ m σ H, W m σ H → c σ H fun b H1 => if b = true then ∃ N : St → Hp → Prop, (∀ σ' H', N σ' H' → ∃ m', m' < m ∧ W m' σ' H') ∧ tb { D with nx := N, ct := N, bk := D.nx } σ H1 else D.nx σ H1) : tWhile c tb D σ H := ⟨W, ⟨m, h0⟩, hs⟩
theorem lt_line {n : Nat} (h : n ≤ 1000000) : n < sizeLine := Nat.lt_of_le_of_lt h (by decide)
theorem le_line {n : Nat} (h : n ≤ 1000000) : n ≤ sizeLine := Nat.le_of_lt (lt_line h)
end L2
namespace L2
open PySem PySem.Spec PyProof.Rows Wk
/-! ### a dict from blanks to kinds -/
def DAt (H : Hp) (kvs : List (Key × V)) (φ : Phi) : Prop := ∀ n : Int, (valV kvs (Sum.inl n) = none ∧ φ n = none) ∨ ∃ v t, valV kvs (Sum.inl n) = some v ∧ φ n = some t ∧ KAt H v t
theorem DAt.mono {H H' : Hp} (t : Tk H H') {kvs : List (Key × V)} {φ : Phi} (h : DAt H kvs φ) : DAt H' kvs φ := fun n => (h n).imp id fun ⟨v, k, a, b, c⟩ => ⟨v, k, a, b, c.mono t⟩
theorem DAt.nil (H : Hp) : DAt H [] (fun _ => none) := fun _ => .inl ⟨rfl, rfl⟩
theorem DAt.put {H : Hp} {kvs : List (Key × V)} {φ : Phi} (h : DAt H kvs φ) (n : Int) {v : V} {t : Kd} (hv : KAt H v t) : DAt H (putK kvs (Sum.inl n) v) (Wk.put φ n t) := fun m => by
  by_cases e : m = n
  · subst e
    refine .inr ⟨v, t, ?_, ?_, hv⟩
    · rw [valV_put, if_pos rfl]
    · simp [Wk.put]
  · have e1 : valV (putK kvs (Sum.inl n) v) (Sum.inl m) = valV kvs (Sum.inl m) := by
      rw [valV_put, if_neg (fun z => e (Sum.inl.inj z))]
    have e2 : Wk.put φ n t m = φ m := by simp [Wk.put, e]
    rw [e1, e2]
    exact h m
end L2
namespace L2
open PySem PySem.Spec PyProof.Rows Wk
def isTwo : Kd → Bool
  | .two _ _ _ => true
  | _ => false
theorem inV_hd (k : Kd) : inV (.str (hdS k)) [.str "pair", .str "to"] = isTwo k := by
  cases k with
  | num => decide +kernel
  | blk n => show inV (.str "blank") [.str "pair", .str "to"] = false; decide +kernel
  | two f a b => cases f
                 · show inV (.str "pair") [.str "pair", .str "to"] = true; decide +kernel
                 · show inV (.str "to") [.str "pair", .str "to"] = true; decide +kernel
end L2

set_option Elab.async false
set_option maxRecDepth 100000
namespace K1
open PySem L2 Wk
def top (i : Nat) : Stmt := PySem.Challenge.pw_widekind_k12_lines_read_or_refused.main.body.getD i (.Pass ⟨0, 0, 0, 0⟩)
abbrev sRead : Stmt := top 7
abbrev sMarks : Stmt := top 8
abbrev sAlone : Stmt := top 9
abbrev sWhole : Stmt := top 11
abbrev sAt : Stmt := top 12
abbrev sKindBy : Stmt := top 13
abbrev sIsKind : Stmt := top 14
abbrev sLineOf : Stmt := top 15
abbrev sWell : Stmt := top 16
abbrev sAsked : Stmt := top 17
abbrev sRoom : Stmt := top 18
abbrev sTells : Stmt := top 19
abbrev sAny : Stmt := top 20
abbrev sLaw : Stmt := top 21
end K1

set_option Elab.async false
set_option maxRecDepth 100000
namespace K1
open PySem L2 Wk
section
variable {P : Program} {w : World} {K : PySem.W.Frag} {mg : Str → Option Value} {base : Heap} {f g : Addr} {fd gd : FuncData}
/-! ### _law_any -/
def spAny : Sp := fun vs H Q _ => ∃ i, vs = [.int i] ∧ ∀ (j : Int) H', j.natAbs < 10 ^ 59 → Same H H' → Q (.int j) H'
theorem scAny : FnScope ["_law_cell", "_law_size"] ["_law_cell"] (defScope sAny) := ⟨rfl, rfl, rfl, by decide +kernel, rfl, by decide +kernel, by decide +kernel⟩
theorem any_lt (i : Int) {s : Int} (hs : s = 1 ∨ s = -1) : (i % 10 ^ (59 : Int).toNat * s).natAbs < 10 ^ 59 := by
  have e : (10 : Int) ^ (59 : Int).toNat = 100000000000000000000000000000000000000000000000000000000000 := by decide +kernel
  have e2 : (10 : Nat) ^ 59 = 100000000000000000000000000000000000000000000000000000000000 := by decide +kernel
  rw [e, e2]
  rcases hs with rfl | rfl <;> omega
theorem ok_any (F : Fun K "_law_any" "_law_any" sAny f fd) : FnOk P w K mg base CX0 1 f fd ["_law_cell"] spAny := by
  refine F.ok scAny (fun vs H Q E h => ?_) (fun cdv A outer s H vs Q E hr h => ?_)
  · obtain ⟨i, rfl, _⟩ := h
    rfl
  obtain ⟨i, rfl, q⟩ := h
  have nd := scAny.nd
  refine ⟨_, pss_cons (ps_set (i := 1) nd rfl (Or.inl rfl) (pe_op op_mod (pe_op op_fdiv (pv 0) pe_int) (pe_op op_pow pe_int pe_int)))
    (pss_one (ps_ret (pe_op op_mul (pv 1) (pe_ix ix_list (pe_lst (pa_cons pe_int (pa_cons (pe_un un_neg pe_int) pa_nil))) (pe_op op_mod (pv 0) pe_int) (fun _ _ => rfl))))), ?_⟩
  refine ⟨_, rfl, _, _, rfl, rfl, ⟨by decide, by decide⟩, _, _, rfl, rfl, ⟨by decide, by decide, by decide⟩, _, _, rfl, rfl, ?_, ?_⟩
  · show (0 : Int) < 10 ^ (59 : Int).toNat
    decide +kernel
  refine ⟨_, rfl, _, rfl, (by show 2 ≤ sizeLine; decide), fun l hl => ?_⟩
  refine ⟨_, rfl, _, _, rfl, rfl, (by show (0 : Int) < 2; decide), ?_⟩
  have h2 : i % 2 = 0 ∨ i % 2 = 1 := by omega
  rcases h2 with e | e
  · refine ⟨l, _, _, .int 1, rfl, rfl, SqL.of upd_same, ?_, _, _, rfl, rfl, .inr ⟨by decide, by decide⟩, q _ _ ?_ (Same.new hl)⟩
    · rw [e]; rfl
    · exact any_lt _ (Or.inl rfl)
  · refine ⟨l, _, _, .int (-1), rfl, rfl, SqL.of upd_same, ?_, _, _, rfl, rfl, .inr ⟨by decide, by decide⟩, q _ _ ?_ (Same.new hl)⟩
    · rw [e]; rfl
    · exact any_lt _ (Or.inr rfl)

/-! ### _law_whole -/
theorem kit_same (K : PySem.W.Frag) (n : String) : PySem.W.kitOne K (.type n) (.type n) = some true := by
  unfold PySem.W.kitOne
  rw [if_pos (beq_self_eq_true _)]
def spWhole : Sp := fun vs H Q _ => ∃ i, vs = [.int i] ∧ Q (.bl true) H
theorem scWhole : FnScope ["_law_found"] ["_law_found"] (defScope sWhole) := ⟨rfl, rfl, rfl, by decide +kernel, rfl, by decide +kernel, by decide +kernel⟩
theorem ok_whole (F : Fun K "_law_whole" "_law_whole" sWhole f fd) (mi : mg "isinstance" = none) (mn : mg "int" = none) (mb : mg "bool" = none) : FnOk P w K mg base CX0 1 f fd ["_law_found"] spWhole := by
  refine F.ok scWhole (fun vs H Q E h => ?_) (fun cdv A outer s H vs Q E hr h => ?_)
  · obtain ⟨i, rfl, _⟩ := h
    rfl
  obtain ⟨i, rfl, q⟩ := h
  refine ⟨_, pss_one (ps_ret (pe_and (pe_callB call_isi rfl mi PyProof.Rows.boot_isinstance (pa_cons (pv 0) (pa_cons (pe_bltn (v := .ty "int") rfl mn PyProof.Rows.boot_int rfl) pa_nil)))
    (pe_one (pe_not (pe_callB call_isi rfl mi PyProof.Rows.boot_isinstance (pa_cons (pv 0) (pa_cons (pe_bltn (v := .ty "bool") rfl mb PyProof.Rows.boot_bool rfl) pa_nil))))))), ?_⟩
  refine ⟨_, rfl, .int i, "int", _, true, rfl, .int i, kit_same _ _, true, rfl, iteT ?_⟩
  refine ⟨_, rfl, .int i, "bool", _, false, rfl, .int i, ?_, false, rfl, q⟩
  rfl
end
end K1

set_option Elab.async false
set_option maxRecDepth 100000
namespace K1
open PySem L2 Wk
theorem iteB {c : Bool} {A B : Prop} (h : c = true) (x : A) : if c = true then A else B := by rw [if_pos h]; exact x
def sumK (ks : List Kd) : Nat := (ks.map Kd.size).sum
theorem sumK_nil : sumK [] = 0 := rfl
theorem sumK_snoc (ks : List Kd) (k : Kd) : sumK (ks ++ [k]) = sumK ks + k.size := by simp [sumK]
theorem sumK_length (ks : List Kd) : ks.length ≤ sumK ks := by
  induction ks with
  | nil => exact Nat.le_refl _
  | cons k r ih =>
    have := Kd.size_pos k
    have e : sumK (k :: r) = k.size + sumK r := by simp [sumK]
    rw [e, List.length_cons]; omega
theorem paired_snoc_inv' {α β : Type} {F : α → β → Prop} : ∀ {a : List α} {b : List β} {x : α}, Paired F (a ++ [x]) b → ∃ b' y, b = b' ++ [y] ∧ Paired F a b' ∧ F x y
  | [], _, x, .cons h .nil => ⟨[], _, rfl, .nil, h⟩
  | a :: as, _, x, .cons h r => by
    obtain ⟨b', y, e, p, q⟩ := paired_snoc_inv' r
    subst e
    exact ⟨_ :: b', y, rfl, .cons h p, q⟩
section
variable {P : Program} {w : World} {K : PySem.W.Frag} {mg : Str → Option Value} {base : Heap} {f g : Addr} {fd gd : FuncData}
/-! ### _law_kind_by -/
def spKindBy (K : PySem.W.Frag) : Sp := fun vs H Q _ => ∃ (a : Addr) (ns : List Int), vs = [.ref a] ∧ SqL K H a (ns.map V.int) ∧ ns.length ≤ 1000 ∧ ∀ v k H', Same H H' → KAt H' v k → (k.ok ∧ k.few) → k.size ≤ 2 * ns.length + 1 → Q v H'
theorem scKindBy : FnScope ["_law_cells", "_law_pile", "_law_cell", "_law_way", "_law_one", "_law_kind"] ["_law_cells"] (defScope sKindBy) := ⟨rfl, rfl, rfl, by decide +kernel, rfl, by decide +kernel, by decide +kernel⟩
theorem pick2 {i : Int} (h : i = 0 ∨ i = 1) : ∃ b : Bool, atI [V.str "pair", V.str "to"] i = some (.str (tag b)) := by
  rcases h with e | e
  · subst e; exact ⟨false, rfl⟩
  · subst e; exact ⟨true, rfl⟩
theorem pick4 {i j : Int} (h0 : 0 ≤ i) (h1 : i < 4) (hj : 0 ≤ j) (hf : j.natAbs < 10 ^ 59) : ∃ m : Int, 0 ≤ m ∧ m.natAbs < 10 ^ 59 ∧ atI [V.int 0, V.int 1, V.int 2, V.int j] i = some (.int m) := by
  have : i = 0 ∨ i = 1 ∨ i = 2 ∨ i = 3 := by omega
  rcases this with e | e | e | e
  · subst e; exact ⟨0, by omega, by decide +kernel, rfl⟩
  · subst e; exact ⟨1, by omega, by decide +kernel, rfl⟩
  · subst e; exact ⟨2, by omega, by decide +kernel, rfl⟩
  · subst e; exact ⟨j, hj, hf, rfl⟩
set_option maxHeartbeats 4000000 in
theorem ok_kindBy (F : Fun K "_law_kind_by" "_law_kind_by" sKindBy f fd) (G : FnOk P w K mg base CX0 1 g gd ["_law_cell"] spAny) (bG : Binds K gd ["_law_cell"] []) (kG : PySem.W.keepIn K (.ref g) = true) (mG : mg "_law_any" = some (.ref g)) (ml : mg "len" = none) (ma : mg "abs" = none) :
    FnOk P w K mg base CX0 2 f fd ["_law_cells"] (spKindBy K) := by
  refine F.ok scKindBy (fun vs H Q E h => ?_) (fun cdv A outer s H vs Q E hr h => ?_)
  · obtain ⟨a, ns, rfl, _⟩ := h
    rfl
  obtain ⟨a, ns, rfl, hA, hn, q⟩ := h
  have nd := scKindBy.nd
  have hu := hu_of hr
  refine ⟨_, pss_cons (ps_set (i := 1) nd rfl (Or.inl rfl) (pe_lst pa_nil))
    (pss_cons (ps_for PassesOwn.never rfl (pi_list (pv 0)) (pg_name (i := 2) nd rfl (Or.inl rfl))
      (pss_cons (ps_set (i := 3) nd rfl (Or.inl rfl) (pe_op op_mod (pv 2) pe_int))
      (pss_one (ps_if (PW.pt (pw_and (pt_cmpR op_gt (pv 3) pe_int (nomark _)) (pw_and1 (pt_cmpR op_gt (pe_callB call_len_seq rfl ml PySem.boot_len (pa_cons (pv 1) pa_nil)) pe_int (nomark _)))))
        (pss_cons (ps_set (i := 4) nd rfl (Or.inl rfl) (pe_bm0 PySem.F.plainAttrs_list PySem.F.slot_list_pop PySem.F.type_list_pop mt_pop (pv 1)))
          (pss_one (ps_expr (pe_bm PySem.F.plainAttrs_list PySem.F.slot_list_append PySem.F.type_list_append mt_append (pv 1) (pa_cons (pe_tup (pa_cons (pe_ix ix_list (pe_lst (pa_cons pe_str (pa_cons pe_str pa_nil))) (pe_op op_sub (pv 3) pe_int) (fun _ _ => rfl)) (pa_cons (pe_bm0 PySem.F.plainAttrs_list PySem.F.slot_list_pop PySem.F.type_list_pop mt_pop (pv 1)) (pa_cons (pv 4) pa_nil)))) pa_nil)))))
        (pss_one (ps_if (pt_cmpR op_eq (pv 3) pe_int (nomark _))
          (pss_one (ps_expr (pe_bm PySem.F.plainAttrs_list PySem.F.slot_list_append PySem.F.type_list_append mt_append (pv 1) (pa_cons (pe_tup (pa_cons pe_str pa_nil)) pa_nil))))
          (pss_one (ps_expr (pe_bm PySem.F.plainAttrs_list PySem.F.slot_list_append PySem.F.type_list_append mt_append (pv 1) (pa_cons (pe_tup (pa_cons pe_str (pa_cons (pe_ix ix_list (pe_lst (pa_cons pe_int (pa_cons pe_int (pa_cons pe_int (pa_cons (pe_callB call_abs rfl ma PyProof.Rows.boot_abs (pa_cons (pe_call G hr rfl mG kG bG .nil pass0 (pa_cons (pe_op op_fdiv (pv 2) pe_int) pa_nil)) pa_nil)) pa_nil))))) (pe_op op_mod (pe_op op_fdiv (pv 2) pe_int) pe_int) (fun _ _ => rfl)) pa_nil))) pa_nil))))))))))
    (pss_cons (ps_set (i := 5) nd rfl (Or.inl rfl) (pe_tup (pa_cons pe_str pa_nil)))
    (pss_cons (ps_while PassesOwn.never (pt_cmpR (op_neE (Nat.lt_of_succ_lt hu)) (pv 1) (pe_lst pa_nil) (nomark _))
      (pss_one (ps_set (i := 5) nd rfl (Or.inl rfl) (pe_tup (pa_cons (pe_ix ix_list (pe_lst (pa_cons pe_str (pa_cons pe_str pa_nil))) (pe_op op_mod (pe_callB call_len_seq rfl ml PySem.boot_len (pa_cons (pv 1) pa_nil)) pe_int) (fun _ _ => rfl)) (pa_cons (pe_bm0 PySem.F.plainAttrs_list PySem.F.slot_list_pop PySem.F.type_list_pop mt_pop (pv 1)) (pa_cons (pv 5) pa_nil)))))))
    (pss_one (ps_ret (pv 5)))))), ?_⟩
  refine ⟨Nat.zero_le _, fun lp hlp => ?_⟩
  have S1 : Same H (upd H lp (.lst [])) := Same.new hlp
  have hlen : (ns.map V.int).length = ns.length := List.length_map ..
  refine ⟨_, rfl, a, rfl, ⟨_, S1.seq hA⟩, for_list (xs := ns.map V.int) (fun i σ H1 => ∃ o w' one kd xs ks, σ = [some (.ref a), some (.ref lp), o, w', one, kd] ∧ Same H H1 ∧ H1 lp = some (.lst xs) ∧ Ks H1 xs ks ∧ (∀ k ∈ ks, k.ok ∧ k.few) ∧ sumK ks ≤ i)
    ⟨none, none, none, none, [], [], rfl, S1, upd_same, .nil, by simp, Nat.le_refl _⟩ (fun i σ H1 hi ⟨_, _, _, _, _, _, _, hS, _⟩ => hS.seq hA) (fun i x σ H1 hx hP => ?_) (fun σ H1 hP => ?_)⟩
  · obtain ⟨o, w', one, kd, xs, ks, rfl, hS, hL, kX, hok, hsum⟩ := hP
    have hi : i < ns.length := by
      have := (List.getElem?_eq_some_iff.mp hx).1
      rwa [hlen] at this
    obtain ⟨c, rfl⟩ : ∃ c, x = .int c := by
      rw [List.getElem?_map] at hx
      cases e : ns[i]? with
      | none => rw [e] at hx; cases hx
      | some c => rw [e] at hx; exact ⟨c, (Option.some.inj hx).symm⟩
    have hxl : xs.length ≤ 1000 := by rw [Paired.length kX]; have := sumK_length ks; omega
    refine ⟨_, rfl, _, _, rfl, rfl, (by show (0 : Int) < 4; decide), ?_⟩
    refine ⟨_, rfl, _, _, rfl, rfl, _, rfl, ?_⟩
    have hc0 : 0 ≤ c % 4 := Int.emod_nonneg _ (by decide)
    have hc4 : c % 4 < 4 := Int.emod_lt_of_pos _ (by decide)
    -- what stands behind the turn with a new kind on the pile
    have done : ∀ (H2 : Hp) (y : V) (kx : Kd) (xs' : List V) (ks' : List Kd) (w2 one2 : Option V), Same H H2 → H2 lp = some (.lst xs') → Ks H2 xs' ks' → KAt H2 y kx → (kx.ok ∧ kx.few) → (∀ k ∈ ks', k.ok ∧ k.few) → sumK ks' + kx.size ≤ i + 1 →
        ∃ o w' one kd' xs ks, [some (V.ref a), some (.ref lp), some (.int c), w2, one2, kd] = [some (.ref a), some (.ref lp), o, w', one, kd'] ∧ Same H (upd H2 lp (.lst (xs' ++ [y]))) ∧ upd H2 lp (.lst (xs' ++ [y])) lp = some (.lst xs) ∧ Ks (upd H2 lp (.lst (xs' ++ [y]))) xs ks ∧ (∀ k ∈ ks, k.ok ∧ k.few) ∧ sumK ks ≤ i + 1 := by
      intro H2 y kx xs' ks' w2 one2 S2 hL2 kX2 ky oky okx hs
      have tk : Tk H2 (upd H2 lp (.lst (xs' ++ [y]))) := Tk.lst hL2
      refine ⟨_, _, _, _, xs' ++ [y], ks' ++ [kx], rfl, S2.upd hlp, upd_same, paired_app (kX2.mono tk) (.cons (ky.mono tk) .nil), fun k hk => ?_, by rw [sumK_snoc]; exact hs⟩
      rcases List.mem_append.mp hk with z | z
      · exact okx k z
      · rw [List.mem_singleton.mp z]; exact oky
    by_cases h1 : 1 < c % 4
    · refine ite2 (fun _ => ?_) fun z => absurd (by simpa using h1) z
      refine ⟨_, rfl, lp, xs, rfl, .inl (SqL.of hL), _, _, rfl, rfl, _, rfl, ?_⟩
      by_cases h2 : (1 : Int) < (xs.length : Int)
      · refine ite2 (fun _ => ?_) fun z => absurd (by simpa using h2) z
        obtain ⟨xs1, y1, rfl⟩ : ∃ xs1 y1, xs = xs1 ++ [y1] := ⟨xs.dropLast, xs.getLast (by intro z; rw [z] at h2; simp at h2), (List.dropLast_concat_getLast _).symm⟩
        obtain ⟨xs2, y2, rfl⟩ : ∃ xs2 y2, xs1 = xs2 ++ [y2] := ⟨xs1.dropLast, xs1.getLast (by intro z; rw [z] at h2; simp at h2), (List.dropLast_concat_getLast _).symm⟩
        obtain ⟨ks1, k1, rfl, kX1, ky1⟩ := paired_snoc_inv' kX
        obtain ⟨ks2, k2, rfl, kX2, ky2⟩ := paired_snoc_inv' kX1
        refine ⟨_, rfl, .inl ⟨rfl, _, SqL.of hL⟩, lp, _, y1, rfl, rfl, hL, by simp, ?_⟩
        rw [List.dropLast_concat]
        have hL1 : upd H1 lp (.lst (xs2 ++ [y2])) lp = some (.lst (xs2 ++ [y2])) := upd_same
        have tk1 : Tk H1 (upd H1 lp (.lst (xs2 ++ [y2]))) := Tk.lst hL
        have S2 : Same H (upd H1 lp (.lst (xs2 ++ [y2]))) := hS.upd hlp
        refine ⟨_, rfl, .inl ⟨rfl, _, SqL.of hL1⟩, ?_⟩
        refine ⟨(by show 2 ≤ sizeLine; decide), fun lc hlc => ?_⟩
        obtain ⟨b, hb⟩ := pick2 (i := c % 4 - 2) (by omega)
        refine ⟨_, rfl, _, _, rfl, rfl, lc, _, _, _, rfl, rfl, SqL.of upd_same, hb, ?_⟩
        have S3 : Same H (upd (upd H1 lp (.lst (xs2 ++ [y2]))) lc (.lst [.str "pair", .str "to"])) := S2.upd (S2.free hlc)
        have tk3 : Tk H1 (upd (upd H1 lp (.lst (xs2 ++ [y2]))) lc (.lst [.str "pair", .str "to"])) := tk1.trans (Tk.new hlc)
        have hL3 : upd (upd H1 lp (.lst (xs2 ++ [y2]))) lc (.lst [.str "pair", .str "to"]) lp = some (.lst (xs2 ++ [y2])) := by rw [upd_ne (ne_of_none hL1 hlc)]; exact hL1
        generalize upd (upd H1 lp (.lst (xs2 ++ [y2]))) lc (.lst [.str "pair", .str "to"]) = H3 at S3 tk3 hL3 ⊢
        refine ⟨_, rfl, .inl ⟨rfl, _, SqL.of hL3⟩, lp, _, y2, rfl, rfl, hL3, by simp, ?_⟩
        rw [List.dropLast_concat]
        have hL4 : upd H3 lp (.lst xs2) lp = some (.lst xs2) := upd_same
        have tk4 : Tk H1 (upd H3 lp (.lst xs2)) := tk3.trans (Tk.lst hL3)
        have S4 : Same H (upd H3 lp (.lst xs2)) := S3.upd hlp
        generalize upd H3 lp (.lst xs2) = H4 at hL4 tk4 S4 ⊢
        refine ⟨_, rfl, (by show 3 ≤ sizeLine; decide), fun tp htp => ?_⟩
        have hL5 : upd H4 tp (.tup [.str (tag b), y2, y1]) lp = some (.lst xs2) := by rw [upd_ne (ne_of_none hL4 htp)]; exact hL4
        have tk5 : Tk H1 (upd H4 tp (.tup [.str (tag b), y2, y1])) := tk4.trans (Tk.new htp)
        refine ⟨lp, xs2, .ref tp, rfl, rfl, hL5, lt_line (by simp at hxl; omega), ?_⟩
        rw [sumK_snoc, sumK_snoc] at hsum
        refine done _ (.ref tp) (.two b k2 k1) xs2 ks2 _ _ (S4.upd (S4.free htp)) hL5 (Ks.mono tk5 kX2) ⟨tp, y2, y1, rfl, upd_same, ky2.mono tk5, ky1.mono tk5⟩ ⟨⟨(hok k2 (by simp)).1, (hok k1 (by simp)).1⟩, ⟨(hok k2 (by simp)).2, (hok k1 (by simp)).2⟩⟩ (fun k hk => hok k (by simp [hk])) (by simp only [Kd.size]; omega)
      · refine ite2 (fun z => absurd (by simpa using z) h2) fun _ => ?_
        refine ⟨_, rfl, rfl, _, rfl, ?_⟩
        by_cases h3 : c % 4 = 1
        · refine ite2 (fun _ => ?_) fun z => absurd (by simp [h3]) z
          refine ⟨_, rfl, .inl ⟨rfl, _, SqL.of hL⟩, (by show 1 ≤ sizeLine; decide), fun tp htp => ?_⟩
          have hL5 : upd H1 tp (.tup [.str "number"]) lp = some (.lst xs) := by rw [upd_ne (ne_of_none hL htp)]; exact hL
          refine ⟨lp, xs, .ref tp, rfl, rfl, hL5, lt_line (by omega), ?_⟩
          exact done _ (.ref tp) .num xs ks _ _ (hS.upd (hS.free htp)) hL5 (kX.mono (Tk.new htp)) ⟨tp, rfl, upd_same⟩ ⟨trivial, trivial⟩ hok (by simp only [Kd.size]; omega)
        · refine ite2 (fun z => absurd (by simpa using z) h3) fun _ => ?_
          refine ⟨_, rfl, .inl ⟨rfl, _, SqL.of hL⟩, ?_⟩
          refine ⟨_, rfl, _, _, rfl, rfl, ⟨by decide, by decide⟩, c / 4, rfl, fun j H2 hjf S2 => ?_⟩
          refine ⟨j, rfl, (by show 4 ≤ sizeLine; decide), fun l4 hl4 => ?_⟩
          refine ⟨_, rfl, _, _, rfl, rfl, ⟨by decide, by decide⟩, _, _, rfl, rfl, (by show (0 : Int) < 4; decide), ?_⟩
          obtain ⟨m, hm0, hmf, hm⟩ := pick4 (i := c / 4 % 4) (j := if j < 0 then -j else j) (Int.emod_nonneg _ (by decide)) (Int.emod_lt_of_pos _ (by decide)) (by split <;> omega) (by split <;> omega)
          refine ⟨l4, _, _, _, rfl, rfl, SqL.of upd_same, hm, (by show 2 ≤ sizeLine; decide), fun tp htp => ?_⟩
          have hL2 : H2 lp = some (.lst xs) := S2 _ _ hL
          have hL3 := (show upd H2 l4 (.lst [.int 0, .int 1, .int 2, .int (if j < 0 then -j else j)]) lp = some (.lst xs) by rw [upd_ne (ne_of_none hL2 hl4)]; exact hL2)
          have S3 : Same H1 (upd H2 l4 (.lst [.int 0, .int 1, .int 2, .int (if j < 0 then -j else j)])) := S2.upd (S2.free hl4)
          have S4 : Same H1 (upd (upd H2 l4 (.lst [.int 0, .int 1, .int 2, .int (if j < 0 then -j else j)])) tp (.tup [.str "blank", .int m])) := S3.upd (S3.free htp)
          have hL5 : upd (upd H2 l4 (.lst [.int 0, .int 1, .int 2, .int (if j < 0 then -j else j)])) tp (.tup [.str "blank", .int m]) lp = some (.lst xs) := by rw [upd_ne (ne_of_none hL3 htp)]; exact hL3
          refine ⟨lp, xs, .ref tp, rfl, rfl, hL5, lt_line (by omega), ?_⟩
          exact done _ (.ref tp) (.blk m) xs ks _ _ (hS.trans S4) hL5 (kX.mono S4.tk) ⟨tp, rfl, upd_same⟩ ⟨hm0, hmf⟩ hok (by simp only [Kd.size]; omega)
    · refine ite2 (fun z => absurd (by simpa using z) h1) fun _ => ?_
      · refine iteF ?_
        refine ⟨_, rfl, rfl, _, rfl, ?_⟩
        by_cases h3 : c % 4 = 1
        · refine ite2 (fun _ => ?_) fun z => absurd (by simp [h3]) z
          refine ⟨_, rfl, .inl ⟨rfl, _, SqL.of hL⟩, (by show 1 ≤ sizeLine; decide), fun tp htp => ?_⟩
          have hL5 : upd H1 tp (.tup [.str "number"]) lp = some (.lst xs) := by rw [upd_ne (ne_of_none hL htp)]; exact hL
          refine ⟨lp, xs, .ref tp, rfl, rfl, hL5, lt_line (by omega), ?_⟩
          exact done _ (.ref tp) .num xs ks _ _ (hS.upd (hS.free htp)) hL5 (kX.mono (Tk.new htp)) ⟨tp, rfl, upd_same⟩ ⟨trivial, trivial⟩ hok (by simp only [Kd.size]; omega)
        · refine ite2 (fun z => absurd (by simpa using z) h3) fun _ => ?_
          refine ⟨_, rfl, .inl ⟨rfl, _, SqL.of hL⟩, ?_⟩
          refine ⟨_, rfl, _, _, rfl, rfl, ⟨by decide, by decide⟩, c / 4, rfl, fun j H2 hjf S2 => ?_⟩
          refine ⟨j, rfl, (by show 4 ≤ sizeLine; decide), fun l4 hl4 => ?_⟩
          refine ⟨_, rfl, _, _, rfl, rfl, ⟨by decide, by decide⟩, _, _, rfl, rfl, (by show (0 : Int) < 4; decide), ?_⟩
          obtain ⟨m, hm0, hmf, hm⟩ := pick4 (i := c / 4 % 4) (j := if j < 0 then -j else j) (Int.emod_nonneg _ (by decide)) (Int.emod_lt_of_pos _ (by decide)) (by split <;> omega) (by split <;> omega)
          refine ⟨l4, _, _, _, rfl, rfl, SqL.of upd_same, hm, (by show 2 ≤ sizeLine; decide), fun tp htp => ?_⟩
          have hL2 : H2 lp = some (.lst xs) := S2 _ _ hL
          have hL3 := (show upd H2 l4 (.lst [.int 0, .int 1, .int 2, .int (if j < 0 then -j else j)]) lp = some (.lst xs) by rw [upd_ne (ne_of_none hL2 hl4)]; exact hL2)
          have S3 : Same H1 (upd H2 l4 (.lst [.int 0, .int 1, .int 2, .int (if j < 0 then -j else j)])) := S2.upd (S2.free hl4)
          have S4 : Same H1 (upd (upd H2 l4 (.lst [.int 0, .int 1, .int 2, .int (if j < 0 then -j else j)])) tp (.tup [.str "blank", .int m])) := S3.upd (S3.free htp)
          have hL5 : upd (upd H2 l4 (.lst [.int 0, .int 1, .int 2, .int (if j < 0 then -j else j)])) tp (.tup [.str "blank", .int m]) lp = some (.lst xs) := by rw [upd_ne (ne_of_none hL3 htp)]; exact hL3
          refine ⟨lp, xs, .ref tp, rfl, rfl, hL5, lt_line (by omega), ?_⟩
          exact done _ (.ref tp) (.blk m) xs ks _ _ (hS.trans S4) hL5 (kX.mono S4.tk) ⟨tp, rfl, upd_same⟩ ⟨hm0, hmf⟩ hok (by simp only [Kd.size]; omega)
  · obtain ⟨o, w', one, kd, xs, ks, rfl, hS, hL, kX, hok, hsum⟩ := hP
    rw [hlen] at hsum
    refine ⟨(by show 1 ≤ sizeLine; decide), fun tn htn => ?_⟩
    have hL1 : upd H1 tn (.tup [.str "number"]) lp = some (.lst xs) := by rw [upd_ne (ne_of_none hL htn)]; exact hL
    have hks := sumK_length ks
    refine ⟨(fun m σ H2 => ∃ o w' one kv xs ks k, σ = [some (.ref a), some (.ref lp), o, w', one, some kv] ∧ m = xs.length ∧ Same H H2 ∧ H2 lp = some (.lst xs) ∧ Ks H2 xs ks ∧ (∀ k ∈ ks, k.ok ∧ k.few) ∧ KAt H2 kv k ∧ (k.ok ∧ k.few) ∧ k.size + sumK ks + ks.length ≤ 2 * ns.length + 1),
      ⟨xs.length, o, w', one, .ref tn, xs, ks, .num, rfl, rfl, hS.upd (hS.free htn), hL1, kX.mono (Tk.new htn), hok, ⟨tn, rfl, upd_same⟩, ⟨trivial, trivial⟩, by simp only [Kd.size]; omega⟩, ?_⟩
    rintro m σ H2 ⟨o, w', one, kv, xs, ks, k, rfl, rfl, hS, hL, kX, hok, kk, okk, hsz⟩
    refine ⟨_, rfl, Nat.zero_le _, fun le hle => ?_⟩
    have S1 : Same H (upd H2 le (.lst [])) := hS.upd (hS.free hle)
    have tk0 : Tk H2 (upd H2 le (.lst [])) := Tk.new hle
    have hL0 : upd H2 le (.lst []) lp = some (.lst xs) := by rw [upd_ne (ne_of_none hL hle)]; exact hL
    refine ⟨lp, le, xs, rfl, rfl, SqL.of hL0, SqL.of upd_same, _, rfl, ?_⟩
    have kX0 := kX.mono tk0
    have kk0 := kk.mono tk0
    generalize upd H2 le (.lst []) = H3 at S1 hL0 kX0 kk0 ⊢
    rcases List.eq_nil_or_concat xs with rfl | ⟨xs', y, rfl⟩
    · cases kX0
      exact iteF ⟨_, rfl, q kv k H3 S1 kk0 okk (by simp [sumK] at hsz; omega)⟩
    · rw [List.concat_eq_append] at hL0 kX0 ⊢
      obtain ⟨ks', ky, rfl, kX1, ky1⟩ := paired_snoc_inv' kX0
      have he : (!(xs' ++ [y]).isEmpty) = true := by simp
      refine iteB he ?_
      refine ⟨_, fun _ _ z => z, ?_⟩
      refine ⟨(by show 2 ≤ sizeLine; decide), fun lc hlc => ?_⟩
      have S2 : Same H (upd H3 lc (.lst [.str "pair", .str "to"])) := S1.upd (S1.free hlc)
      have tk2 : Tk H3 (upd H3 lc (.lst [.str "pair", .str "to"])) := Tk.new hlc
      have hL2 : upd H3 lc (.lst [.str "pair", .str "to"]) lp = some (.lst (xs' ++ [y])) := by rw [upd_ne (ne_of_none hL0 hlc)]; exact hL0
      obtain ⟨b, hb⟩ := pick2 (i := (((xs' ++ [y]).length : Nat) : Int) % 2) (by omega)
      refine ⟨_, rfl, lp, _, rfl, .inl (SqL.of hL2), _, _, rfl, rfl, (by show (0 : Int) < 2; decide), lc, _, _, _, rfl, rfl, SqL.of upd_same, hb, ?_⟩
      refine ⟨_, rfl, .inl ⟨rfl, _, SqL.of hL2⟩, lp, _, y, rfl, rfl, hL2, by simp, ?_⟩
      rw [List.dropLast_concat]
      have tk3 : Tk H3 (upd (upd H3 lc (.lst [.str "pair", .str "to"])) lp (.lst xs')) := tk2.trans (Tk.lst hL2)
      have S3 : Same H (upd (upd H3 lc (.lst [.str "pair", .str "to"])) lp (.lst xs')) := S2.upd hlp
      refine ⟨_, rfl, (by show 3 ≤ sizeLine; decide), fun tp htp => ?_⟩
      have hL4 : upd (upd (upd H3 lc (.lst [.str "pair", .str "to"])) lp (.lst xs')) tp (.tup [.str (tag b), y, kv]) lp = some (.lst xs') := by rw [upd_ne (ne_of_none upd_same htp), upd_same]
      have tk4 := tk3.trans (Tk.new (o := .tup [.str (tag b), y, kv]) htp)
      rw [sumK_snoc, List.length_append] at hsz
      have hl1 : [ky].length = 1 := rfl
      refine ⟨xs'.length, by simp, _, _, _, .ref tp, xs', ks', .two b ky k, rfl, rfl, S3.upd (S3.free htp), hL4, Ks.mono tk4 kX1, fun k hk => hok k (by simp [hk]), ⟨tp, y, kv, rfl, upd_same, ky1.mono tk4, kk0.mono tk4⟩, ⟨⟨(hok ky (by simp)).1, okk.1⟩, ⟨(hok ky (by simp)).2, okk.2⟩⟩, by simp only [Kd.size]; omega⟩
end
end K1

set_option Elab.async false
set_option maxRecDepth 100000
namespace K1
open PySem L2 Wk
def klen : Kd → Nat
  | .num => 1
  | .blk _ => 2
  | .two _ _ _ => 3
abbrev szs : List (Key × V) := [(Sum.inr "number", .int 1), (Sum.inr "blank", .int 2), (Sum.inr "pair", .int 3), (Sum.inr "to", .int 3)]
theorem valV_szs (k : Kd) : valV (mergeK [] szs) (Sum.inr (hdS k)) = some (.int (klen k)) := by
  cases k with
  | num => show valV (mergeK [] szs) (Sum.inr "number") = some (.int 1); decide +kernel
  | blk n => show valV (mergeK [] szs) (Sum.inr "blank") = some (.int 2); decide +kernel
  | two f a b =>
    cases f
    · show valV (mergeK [] szs) (Sum.inr "pair") = some (.int 3); decide +kernel
    · show valV (mergeK [] szs) (Sum.inr "to") = some (.int 3); decide +kernel
theorem rest_klen {H : Hp} {k : Kd} {xs : List V} (h : Rest H k xs) (y : V) : (y :: xs).length = klen k := by
  cases k with
  | num => cases h; rfl
  | blk n => cases h; rfl
  | two f a b => obtain ⟨x, y, rfl, _⟩ := h; rfl
section
variable {P : Program} {w : World} {K : PySem.W.Frag} {mg : Str → Option Value} {base : Heap} {f g : Addr} {fd gd : FuncData}
/-! ### _law_is_kind -/
def spIsKind : Sp := fun vs H Q _ => ∃ v k, vs = [v] ∧ KAt H v k ∧ k.ok ∧ k.size ≤ 100000 ∧ ∀ H', Same H H' → Q (.bl true) H'
theorem scIsKind : FnScope ["_law_found", "_law_todo", "_law_part", "_law_sizes"] ["_law_found"] (defScope sIsKind) := ⟨rfl, rfl, rfl, by decide +kernel, rfl, by decide +kernel, by decide +kernel⟩
set_option maxHeartbeats 4000000 in
theorem ok_isKind (F : Fun K "_law_is_kind" "_law_is_kind" sIsKind f fd) (G : FnOk P w K mg base CX0 1 g gd ["_law_found"] spWhole) (bG : Binds K gd ["_law_found"] []) (kG : PySem.W.keepIn K (.ref g) = true) (mG : mg "_law_whole" = some (.ref g)) (ml : mg "len" = none)
    (mi : mg "isinstance" = none) (mt : mg "tuple" = none) (ms : mg "str" = none) : FnOk P w K mg base CX0 2 f fd ["_law_found"] spIsKind := by
  refine F.ok scIsKind (fun vs H Q E h => ?_) (fun cdv A outer s H vs Q E hr h => ?_)
  · obtain ⟨v, k, rfl, _⟩ := h
    rfl
  obtain ⟨v, k, rfl, hk, hok, hB, q⟩ := h
  have nd := scIsKind.nd
  have hu := hu_of hr
  refine ⟨_, pss_cons (ps_set (i := 1) nd rfl (Or.inl rfl) (pe_lst (pa_cons (pv 0) pa_nil)))
    (pss_cons (ps_while PassesOwn.never (pt_cmpR (op_neE (Nat.lt_of_succ_lt hu)) (pv 1) (pe_lst pa_nil) (nomark _))
      (pss_cons (ps_set (i := 2) nd rfl (Or.inl rfl) (pe_bm0 PySem.F.plainAttrs_list PySem.F.slot_list_pop PySem.F.type_list_pop mt_pop (pv 1)))
      (pss_cons (ps_if (PW.pt (pw_or (pt_not (pt_truth (pe_callB call_isi rfl mi PyProof.Rows.boot_isinstance (pa_cons (pv 2) (pa_cons (pe_bltn (v := .ty "tuple") rfl mt PyProof.Rows.boot_tuple rfl) pa_nil))) (fun _ => rfl)))
          (pw_or (pt_cmpR op_eq (pe_callB call_len_seq rfl ml PySem.boot_len (pa_cons (pv 2) pa_nil)) pe_int (nomark _))
            (pw_or1 (pt_not (pt_truth (pe_callB call_isi rfl mi PyProof.Rows.boot_isinstance (pa_cons (pe_ix ix_tup (pv 2) pe_int (fun _ _ => rfl)) (pa_cons (pe_bltn (v := .ty "str") rfl ms PyProof.Rows.boot_str rfl) pa_nil))) (fun _ => rfl)))))))
          (pss_one (ps_ret pe_bl)) pss_nil)
      (pss_cons (ps_set (i := 3) nd rfl (Or.inl rfl) (pe_disp (pps_cons pe_str pe_int (pps_cons pe_str pe_int (pps_cons pe_str pe_int (pps_cons pe_str pe_int pps_nil)))) rfl rfl (by simp) (by decide)))
      (pss_cons (ps_if (pt_cmpR op_ne (pe_dget2 hu (pv 3) (pe_ix ix_tup (pv 2) pe_int (fun _ _ => rfl)) pe_int ⟨rfl, rfl, rfl, rfl⟩) (pe_callB call_len_seq rfl ml PySem.boot_len (pa_cons (pv 2) pa_nil)) (nomark _)) (pss_one (ps_ret pe_bl)) pss_nil)
      (pss_cons (ps_if (PW.pt (pw_and (pt_cmpR op_eq (pe_ix ix_tup (pv 2) pe_int (fun _ _ => rfl)) pe_str (nomark _))
          (pw_and1 (PW.pt (pw_or (pt_not (pt_truth (pe_call G hr rfl mG kG bG .nil pass0 (pa_cons (pe_ix ix_tup (pv 2) pe_int (fun _ _ => rfl)) pa_nil)) (fun _ => rfl))) (pw_or1 (pt_cmpR op_lt (pe_ix ix_tup (pv 2) pe_int (fun _ _ => rfl)) pe_int (nomark _))))))))
          (pss_one (ps_ret pe_bl)) pss_nil)
      (pss_one (ps_if (pt_cmpR op_eq (pe_callB call_len_seq rfl ml PySem.boot_len (pa_cons (pv 2) pa_nil)) pe_int (nomark _))
        (pss_one (ps_set (i := 1) nd rfl (Or.inl rfl) (pe_op op_cat (pv 1) (pe_lst (pa_cons (pe_ix ix_tup (pv 2) pe_int (fun _ _ => rfl)) (pa_cons (pe_ix ix_tup (pv 2) pe_int (fun _ _ => rfl)) pa_nil))))))
        pss_nil))))))))
    (pss_one (ps_ret pe_bl))), ?_⟩
  refine ⟨_, rfl, (by show 1 ≤ sizeLine; decide), fun lw0 hlw0 => ?_⟩
  have S0 : Same H (upd H lw0 (.lst [v])) := Same.new hlw0
  refine ⟨(fun m σ H1 => ∃ p z ws ks lw, σ = [some v, some (.ref lw), p, z] ∧ H lw = none ∧ m = sumK ks ∧ Same H H1 ∧ H1 lw = some (.lst ws) ∧ Ks H1 ws ks ∧ (∀ k ∈ ks, k.ok) ∧ sumK ks ≤ 100000),
    ⟨sumK [k], none, none, [v], [k], lw0, rfl, hlw0, rfl, S0, upd_same, .cons (hk.mono S0.tk) .nil, by simpa using hok, by simpa [sumK] using hB⟩, ?_⟩
  rintro m σ H1 ⟨p, z, ws, ks, lw, rfl, hlw, rfl, hS, hW, kW, okW, hZ⟩
  have hlen : ws.length ≤ 100000 := by rw [Paired.length kW]; exact Nat.le_trans (sumK_length ks) hZ
  refine ⟨_, rfl, Nat.zero_le _, fun le hle => ?_⟩
  have S1 : Same H (upd H1 le (.lst [])) := hS.upd (hS.free hle)
  have tk0 : Tk H1 (upd H1 le (.lst [])) := Tk.new hle
  have hW0 : upd H1 le (.lst []) lw = some (.lst ws) := by rw [upd_ne (ne_of_none hW hle)]; exact hW
  refine ⟨lw, le, ws, rfl, rfl, SqL.of hW0, SqL.of upd_same, _, rfl, ?_⟩
  have kW0 := kW.mono tk0
  generalize upd H1 le (.lst []) = H2 at S1 hW0 kW0 ⊢
  rcases List.eq_nil_or_concat ws with rfl | ⟨ws', x, rfl⟩
  · exact iteF (q H2 S1)
  · rw [List.concat_eq_append] at hW0 kW0 hlen ⊢
    obtain ⟨ks', t, rfl, kW1, kx⟩ := paired_snoc_inv' kW0
    have he : (!(ws' ++ [x]).isEmpty) = true := by simp
    refine iteB he ?_
    refine ⟨_, fun _ _ z => z, ?_⟩
    refine ⟨_, rfl, .inl ⟨rfl, _, SqL.of hW0⟩, lw, ws' ++ [x], x, rfl, rfl, hW0, by simp, ?_⟩
    rw [List.dropLast_concat]
    have tk1 : Tk H2 (upd H2 lw (.lst ws')) := Tk.lst hW0
    have S2 : Same H (upd H2 lw (.lst ws')) := S1.upd hlw
    have hW2 : upd H2 lw (.lst ws') lw = some (.lst ws') := upd_same
    have kW2 := Ks.mono tk1 kW1
    have kx2 := kx.mono tk1
    generalize upd H2 lw (.lst ws') = H3 at S2 hW2 kW2 kx2 ⊢
    obtain ⟨px, xs, rfl, hx, rx⟩ := kx2.shape
    refine ⟨_, rfl, .ref px, "tuple", _, true, rfl, .tup hx, kit_same _ _, true, rfl, iteF ?_⟩
    refine ⟨_, rfl, px, _, rfl, .inr (SqT.of hx), rfl, _, rfl, ?_⟩
    refine ite2 (fun z => absurd z (by simp; omega)) fun _ => ?_
    refine ⟨_, rfl, px, _, 0, _, rfl, rfl, SqT.of hx, atI_nat (j := 0) rfl, .str _, "str", _, true, rfl, .str _, kit_same _ _, true, rfl, iteF ?_⟩
    intro ld hld
    refine ⟨upd_same, szs, rfl, by decide, ?_⟩
    rw [upd_upd]
    have S4 : Same H (upd H3 ld (.dK (mergeK [] szs))) := S2.upd (S2.free hld)
    have tk4 : Tk H3 (upd H3 ld (.dK (mergeK [] szs))) := Tk.new hld
    have hW4 : upd H3 ld (.dK (mergeK [] szs)) lw = some (.lst ws') := by rw [upd_ne (ne_of_none hW2 hld)]; exact hW2
    have hx4 := tk4 _ _ hx
    have rx4 := rx.mono tk4
    have kW4 := kW2.mono tk4
    have hd4 : upd H3 ld (.dK (mergeK [] szs)) ld = some (.dK (mergeK [] szs)) := upd_same
    generalize upd H3 ld (.dK (mergeK [] szs)) = H4 at S4 hW4 hx4 rx4 kW4 hd4 ⊢
    refine ⟨_, rfl, ld, rfl, .inl ⟨_, .inl hd4⟩, ?_⟩
    refine ⟨_, rfl, px, _, 0, _, rfl, rfl, SqT.of hx4, atI_nat (j := 0) rfl, some (.int (klen t)), by rw [← valV_szs]; exact DGet.k (k := Sum.inr (hdS t)) hd4, ?_⟩
    refine ⟨_, rfl, px, _, rfl, .inr (SqT.of hx4), rfl, _, rfl, ?_⟩
    refine ite2 (fun z => absurd z (by rw [rest_klen rx4]; simp)) fun _ => ?_
    refine ⟨_, rfl, px, _, 0, _, rfl, rfl, SqT.of hx4, atI_nat (j := 0) rfl, rfl, _, rfl, ?_⟩
    have okt : t.ok := okW t (by simp)
    have okW' : ∀ k ∈ ks', k.ok := fun k hk => okW k (by simp [hk])
    rw [sumK_snoc] at hZ
    cases t with
    | num =>
      refine ite2 (fun z => absurd z (by simp [hdS]; decide)) fun _ => ?_
      refine iteF ?_
      refine ⟨_, rfl, px, _, rfl, .inr (SqT.of hx4), rfl, _, rfl, ?_⟩
      refine ite2 (fun z => absurd z (by rw [rest_klen rx4]; simp [klen])) fun _ => ?_
      exact ⟨sumK ks', by rw [sumK_snoc]; simp only [Kd.size]; omega, _, _, ws', ks', lw, rfl, hlw, rfl, S4, hW4, kW4, okW', by omega⟩
    | blk n =>
      refine ite2 (fun _ => ?_) fun z => absurd (by simp [hdS]) z
      cases rx4
      refine ⟨_, rfl, px, _, 1, _, rfl, rfl, SqT.of hx4, atI_nat (j := 1) rfl, n, rfl, true, rfl, iteF ?_⟩
      refine ⟨_, rfl, px, _, 1, _, rfl, rfl, SqT.of hx4, atI_nat (j := 1) rfl, _, _, rfl, rfl, _, rfl, ?_⟩
      have hn : 0 ≤ n := okt
      refine ite2 (fun z => absurd z (by simpa using hn)) fun _ => ?_
      refine ⟨_, rfl, px, _, rfl, .inr (SqT.of hx4), rfl, _, rfl, ?_⟩
      refine ite2 (fun z => absurd z (by simp)) fun _ => ?_
      exact ⟨sumK ks', by rw [sumK_snoc]; simp only [Kd.size]; omega, _, _, ws', ks', lw, rfl, hlw, rfl, S4, hW4, kW4, okW', by omega⟩
    | two g' a b =>
      refine ite2 (fun z => absurd z (by simp [hdS, tag_blk])) fun _ => ?_
      refine iteF ?_
      refine ⟨_, rfl, px, _, rfl, .inr (SqT.of hx4), rfl, _, rfl, ?_⟩
      obtain ⟨xa, xb, rfl, ka, kb⟩ := rx4
      refine ite2 (fun _ => ?_) fun z => absurd (by simp) z
      refine ⟨_, rfl, _, rfl, px, _, 1, xa, rfl, rfl, SqT.of hx4, atI_nat (j := 1) rfl, _, rfl, px, _, 2, xb, rfl, rfl, SqT.of hx4, atI_nat (j := 2) rfl, (by show 2 ≤ sizeLine; decide), fun l2 hl2 => ?_⟩
      have hW5 : upd H4 l2 (.lst [xa, xb]) lw = some (.lst ws') := by rw [upd_ne (ne_of_none hW4 hl2)]; exact hW4
      refine ⟨lw, l2, ws', [xa, xb], rfl, rfl, hW5, upd_same, le_line (by simp at hlen ⊢; omega), fun l3 hl3 => ?_⟩
      have S5 : Same H (upd H4 l2 (.lst [xa, xb])) := S4.upd (S4.free hl2)
      have S6 : Same H (upd (upd H4 l2 (.lst [xa, xb])) l3 (.lst (ws' ++ [xa, xb]))) := S5.upd (S5.free hl3)
      have tk6 : Tk H4 (upd (upd H4 l2 (.lst [xa, xb])) l3 (.lst (ws' ++ [xa, xb]))) := (Tk.new hl2).trans (Tk.new hl3)
      have e1 : sumK (ks' ++ [a, b]) = sumK ks' + a.size + b.size := by simp [sumK]; omega
      refine ⟨sumK (ks' ++ [a, b]), by rw [sumK_snoc, e1]; simp only [Kd.size]; omega, _, _, ws' ++ [xa, xb], ks' ++ [a, b], l3, rfl, S5.free hl3, rfl, S6, upd_same, paired_app (kW4.mono tk6) (.cons (ka.mono tk6) (.cons (kb.mono tk6) .nil)), fun k hk => ?_, by rw [e1]; simp only [Kd.size] at hZ; omega⟩
      rcases List.mem_append.mp hk with z | z
      · exact okW' k z
      · rcases List.mem_cons.mp z with z | z
        · rw [z]; exact okt.1
        · rw [List.mem_singleton.mp z]; exact okt.2
end
end K1

set_option Elab.async false
set_option maxRecDepth 100000
namespace K1
open PySem L2 Wk
/-! ### lines, as the codes of their signs -/
def digs (n : Int) : List Nat := (Str.ofString (toString n)).cps.toList
def sign (f : Bool) : Str := if f then ">" else ","
def lineC : Kd → List Nat
  | .num => [110]
  | .blk n => 63 :: digs n
  | .two f a b => 40 :: (lineC a ++ ((sign f).cps.toList ++ (lineC b ++ [41])))
theorem digs_length {n : Int} (h : n.natAbs < 10 ^ 59) : (digs n).length ≤ 60 := by
  unfold digs
  have h1 : (Str.ofString (toString n)).cps.toList.length = (Str.ofString (toString n)).length := by simp [Str.length]
  rw [h1, PySem.ofString_length]
  exact PySem.int_text_length_le10 (by decide) h
theorem lineC_length : ∀ {k : Kd}, k.few → (lineC k).length ≤ 61 * k.size
  | .num, _ => by simp [lineC, Kd.size]
  | .blk n, h => by have := digs_length h; simp only [lineC, List.length_cons, Kd.size]; omega
  | .two f a b, h => by
    have h1 := lineC_length h.1
    have h2 := lineC_length h.2
    have h3 : (sign f).cps.toList.length = 1 := by cases f <;> decide +kernel
    simp only [lineC, List.length_cons, List.length_append, List.length_nil, Kd.size, h3]
    omega
/-- what is on the pile: a sign, or a kind -/
inductive Tok' where
  | s (x : Str)
  | k (kd : Kd)
def Tok'.codes : Tok' → List Nat
  | .s x => x.cps.toList
  | .k kd => lineC kd
def Tok'.w : Tok' → Nat
  | .s _ => 1
  | .k kd => 3 * kd.size
def TokAt (H : Hp) (v : V) : Tok' → Prop
  | .s x => v = .str x
  | .k kd => KAt H v kd
abbrev Toks (H : Hp) : List V → List Tok' → Prop := Paired (TokAt H)
theorem TokAt.mono {H H' : Hp} (t : Tk H H') {v : V} {i : Tok'} (h : TokAt H v i) : TokAt H' v i := by
  cases i with
  | s x => exact h
  | k kd => exact KAt.mono t h
theorem Toks.mono {H H' : Hp} (t : Tk H H') {vs : List V} {ks : List Tok'} (h : Toks H vs ks) : Toks H' vs ks := Paired.imp' (fun _ _ q => q.mono t) h
def allC (ts : List Tok') : List Nat := ts.flatMap Tok'.codes
def sumW (ts : List Tok') : Nat := (ts.map Tok'.w).sum
theorem sumW_length (ts : List Tok') (h : ∀ t ∈ ts, 1 ≤ t.w) : ts.length ≤ sumW ts := by
  induction ts with
  | nil => exact Nat.le_refl _
  | cons t r ih =>
    have h1 := h t List.mem_cons_self
    have h2 := ih fun t ht => h t (List.mem_cons_of_mem _ ht)
    have e : sumW (t :: r) = t.w + sumW r := by simp [sumW]
    rw [e, List.length_cons]; omega
theorem w_pos (t : Tok') : 1 ≤ t.w := by
  cases t with
  | s x => exact Nat.le_refl _
  | k kd => have := Kd.size_pos kd; show 1 ≤ 3 * kd.size; omega
theorem str_len (x : Str) : x.length = x.cps.toList.length := by simp [Str.length]
theorem app_codes (a y : Str) : (a ++ y).cps.toList = a.cps.toList ++ y.cps.toList := Array.toList_append
theorem log_ok {n : Int} (h : n.natAbs < 10 ^ 59) : n.natAbs.log2 < 1920 := by
  by_cases h0 : n.natAbs = 0
  · rw [h0]; decide
  · rw [Nat.log2_lt h0]
    exact Nat.lt_of_lt_of_le h (by decide +kernel)
theorem pick_sign (f : Bool) : atI [V.str ",", V.str ">"] (if decide (V.str (tag f) = V.str "to") = true then 1 else 0) = some (.str (sign f)) := by
  cases f
  · have e : decide (V.str (tag false) = V.str "to") = false := by decide +kernel
    rw [e]; rfl
  · have e : decide (V.str (tag true) = V.str "to") = true := by decide +kernel
    rw [e]; rfl
def few3 : Kd → Prop
  | .num => True
  | .blk n => n.natAbs < 10 ^ 500
  | .two _ a b => few3 a ∧ few3 b
theorem few_3 : ∀ {k : Kd}, k.few → few3 k
  | .num, _ => trivial
  | .blk n, h => Nat.lt_of_lt_of_le (show n.natAbs < 10 ^ 59 from h) (by decide +kernel)
  | .two _ a b, h => ⟨few_3 h.1, few_3 h.2⟩
theorem log_ok3 {n : Int} (h : n.natAbs < 10 ^ 500) : n.natAbs.log2 < 1920 := by
  by_cases h0 : n.natAbs = 0
  · rw [h0]; decide
  · rw [Nat.log2_lt h0]
    exact Nat.lt_of_lt_of_le h (by decide +kernel)
def fewT : Tok' → Prop
  | .s _ => True
  | .k kd => few3 kd
section
variable {P : Program} {w : World} {K : PySem.W.Frag} {mg : Str → Option Value} {base : Heap} {f g : Addr} {fd gd : FuncData}
/-! ### _law_line_of -/
def spLine : Sp := fun vs H Q _ => ∃ v k, vs = [v] ∧ KAt H v k ∧ few3 k ∧ k.size ≤ 20000 ∧ (lineC k).length ≤ 60000 ∧ ∀ x H', Same H H' → x.cps.toList = lineC k → Q (.str x) H'
theorem scLineOf : FnScope ["_law_kind", "_law_line", "_law_todo", "_law_part", "_law_sign"] ["_law_kind"] (defScope sLineOf) := ⟨rfl, rfl, rfl, by decide +kernel, rfl, by decide +kernel, by decide +kernel⟩
set_option maxHeartbeats 4000000 in
theorem ok_lineOf (F : Fun K "_law_line_of" "_law_line_of" sLineOf f fd) (mi : mg "isinstance" = none) (ms : mg "str" = none) (mn : mg "int" = none) : FnOk P w K mg base CX0 1 f fd ["_law_kind"] spLine := by
  refine F.ok scLineOf (fun vs H Q E h => ?_) (fun cdv A outer s H vs Q E hr h => ?_)
  · obtain ⟨v, k, rfl, _⟩ := h
    rfl
  obtain ⟨v, k, rfl, hk, hfw, hB, hLn, q⟩ := h
  have nd := scLineOf.nd
  have hu := hu_of hr
  refine ⟨_, pss_cons (ps_set (i := 1) nd rfl (Or.inl rfl) pe_str)
    (pss_cons (ps_set (i := 2) nd rfl (Or.inl rfl) (pe_lst (pa_cons (pv 0) pa_nil)))
    (pss_cons (ps_while PassesOwn.never (pt_cmpR (op_neE (Nat.lt_of_succ_lt hu)) (pv 2) (pe_lst pa_nil) (nomark _))
      (pss_cons (ps_set (i := 3) nd rfl (Or.inl rfl) (pe_bm0 PySem.F.plainAttrs_list PySem.F.slot_list_pop PySem.F.type_list_pop mt_pop (pv 2)))
      (pss_one (ps_if (pt_truth (pe_callB call_isi rfl mi PyProof.Rows.boot_isinstance (pa_cons (pv 3) (pa_cons (pe_bltn (v := .ty "str") rfl ms PyProof.Rows.boot_str rfl) pa_nil))) (fun _ => rfl))
        (pss_one (ps_set (i := 1) nd rfl (Or.inl rfl) (pe_op op_add_str (pv 1) (pv 3))))
        (pss_one (ps_if (pt_cmpR op_eq (pe_ix ix_tup (pv 3) pe_int (fun _ _ => rfl)) pe_str (nomark _))
          (pss_one (ps_set (i := 1) nd rfl (Or.inl rfl) (pe_op op_add_str (pv 1) pe_str)))
          (pss_one (ps_if (pt_cmpR op_eq (pe_ix ix_tup (pv 3) pe_int (fun _ _ => rfl)) pe_str (nomark _))
            (pss_one (ps_set (i := 1) nd rfl (Or.inl rfl) (pe_op op_add_str (pe_op op_add_str (pv 1) pe_str) (pe_callTy call_str_int rfl ms PyProof.Rows.boot_str (pa_cons (pe_ix ix_tup (pv 3) pe_int (fun _ _ => rfl)) pa_nil)))))
            (pss_cons (ps_set (i := 4) nd rfl (Or.inl rfl) (pe_ix ix_list (pe_lst (pa_cons pe_str (pa_cons pe_str pa_nil))) (pe_callTy call_int1 rfl mn PyProof.Rows.boot_int (pa_cons (pe_cmpR op_eq (pe_ix ix_tup (pv 3) pe_int (fun _ _ => rfl)) pe_str (nomark _)) pa_nil)) (fun _ _ => rfl)))
            (pss_cons (ps_set (i := 1) nd rfl (Or.inl rfl) (pe_op op_add_str (pv 1) pe_str))
              (pss_one (ps_set (i := 2) nd rfl (Or.inl rfl) (pe_op op_cat (pv 2) (pe_lst (pa_cons pe_str (pa_cons (pe_ix ix_tup (pv 3) pe_int (fun _ _ => rfl)) (pa_cons (pv 4) (pa_cons (pe_ix ix_tup (pv 3) pe_int (fun _ _ => rfl)) pa_nil))))))))))))))))))
    (pss_one (ps_ret (pv 1))))), ?_⟩
  refine ⟨_, rfl, (by show 1 ≤ sizeLine; decide), fun lw0 hlw0 => ?_⟩
  have S0 : Same H (upd H lw0 (.lst [v])) := Same.new hlw0
  refine ⟨(fun m σ H1 => ∃ p sg x ws ts lw, σ = [some v, some (.str x), some (.ref lw), p, sg] ∧ H lw = none ∧ m = sumW ts ∧ Same H H1 ∧ H1 lw = some (.lst ws) ∧ Toks H1 ws ts.reverse ∧ x.cps.toList ++ allC ts = lineC k ∧ (∀ t ∈ ts, fewT t) ∧ sumW ts ≤ 60000),
    ⟨sumW [.k k], none, none, "", [v], [.k k], lw0, rfl, hlw0, rfl, S0, upd_same, .cons (hk.mono S0.tk) .nil, by simp [allC, Tok'.codes]; rfl, fun t ht => by rw [List.mem_singleton.mp ht]; exact hfw, by simp [sumW, Tok'.w]; omega⟩, ?_⟩
  rintro m σ H1 ⟨p, sg, x, ws, ts, lw, rfl, hlw, rfl, hS, hW, kW, hC, hF, hZ⟩
  have hlen : ws.length ≤ 60000 := by rw [Paired.length kW, List.length_reverse]; exact Nat.le_trans (sumW_length ts fun t _ => w_pos t) hZ
  refine ⟨_, rfl, Nat.zero_le _, fun le hle => ?_⟩
  have S1 : Same H (upd H1 le (.lst [])) := hS.upd (hS.free hle)
  have hW0 : upd H1 le (.lst []) lw = some (.lst ws) := by rw [upd_ne (ne_of_none hW hle)]; exact hW
  refine ⟨lw, le, ws, rfl, rfl, SqL.of hW0, SqL.of upd_same, _, rfl, ?_⟩
  have kW0 := kW.mono (Tk.new (o := .lst []) hle)
  generalize upd H1 le (.lst []) = H2 at S1 hW0 kW0 ⊢
  cases ts with
  | nil =>
    cases kW0
    refine iteF ⟨_, rfl, q x H2 S1 ?_⟩
    rw [← hC]; simp [allC]
  | cons t r =>
    rw [List.reverse_cons] at kW0
    obtain ⟨ws', y, rfl, kW', ky⟩ := paired_snoc_inv kW0
    have he : (!(ws' ++ [y]).isEmpty) = true := by simp
    refine iteB he ?_
    refine ⟨_, fun _ _ z => z, ?_⟩
    refine ⟨_, rfl, .inl ⟨rfl, _, SqL.of hW0⟩, lw, ws' ++ [y], y, rfl, rfl, hW0, by simp, ?_⟩
    rw [List.dropLast_concat]
    have tk1 : Tk H2 (upd H2 lw (.lst ws')) := Tk.lst hW0
    have S2 : Same H (upd H2 lw (.lst ws')) := S1.upd hlw
    have hW2 : upd H2 lw (.lst ws') lw = some (.lst ws') := upd_same
    have kW2 := Toks.mono tk1 kW'
    have ky2 := TokAt.mono tk1 ky
    generalize upd H2 lw (.lst ws') = H3 at S2 hW2 kW2 ky2 ⊢
    have eC : allC (t :: r) = t.codes ++ allC r := by simp [allC]
    have eW : sumW (t :: r) = t.w + sumW r := by simp [sumW]
    have hF' : ∀ t ∈ r, fewT t := fun t ht => hF t (List.mem_cons_of_mem _ ht)
    have hFt : fewT t := hF t List.mem_cons_self
    have hwt := w_pos t
    have hxl : ∀ ys zs : List Nat, x.cps.toList ++ (ys ++ zs) = lineC k → x.length + ys.length ≤ 61000 := fun ys zs e => by
      have h1 := congrArg List.length e
      rw [List.length_append, List.length_append] at h1
      rw [str_len]
      omega
    have step : ∀ (z : Str) (p' sg' : Option V), (x ++ z).cps.toList ++ allC r = lineC k → ∃ m', m' < sumW (t :: r) ∧ ∃ p sg x' ws ts lw', [some v, some (.str (x ++ z)), some (.ref lw), p', sg'] = [some v, some (.str x'), some (.ref lw'), p, sg] ∧ H lw' = none ∧ m' = sumW ts ∧ Same H H3 ∧ H3 lw' = some (.lst ws) ∧ Toks H3 ws ts.reverse ∧ x'.cps.toList ++ allC ts = lineC k ∧ (∀ t ∈ ts, fewT t) ∧ sumW ts ≤ 60000 :=
      fun z p' sg' e => ⟨sumW r, by omega, _, _, _, ws', r, lw, rfl, hlw, rfl, S2, hW2, kW2, e, hF', by omega⟩
    cases t with
    | s z =>
      have ez : y = .str z := ky2
      subst ez
      refine ⟨_, rfl, .str z, "str", _, true, rfl, .str z, kit_same _ _, true, rfl, iteT ?_⟩
      have hC2 : x.cps.toList ++ (z.cps.toList ++ allC r) = lineC k := by rw [← hC, eC]; rfl
      have hl2 := hxl _ _ hC2
      refine ⟨_, rfl, _, rfl, x, z, rfl, rfl, le_line (by rw [str_len z]; omega), step z _ _ ?_⟩
      rw [app_codes, List.append_assoc]; exact hC2
    | k kd =>
      have ky3 : KAt H3 y kd := ky2
      obtain ⟨px, xs, rfl, hx, rx⟩ := ky3.shape
      refine ⟨_, rfl, .ref px, "str", _, false, rfl, .tup hx, rfl, false, rfl, iteF ?_⟩
      have hC2 : x.cps.toList ++ (lineC kd ++ allC r) = lineC k := by rw [← hC, eC]; rfl
      have hl2 := hxl _ _ hC2
      refine ⟨_, rfl, px, _, 0, _, rfl, rfl, SqT.of hx, atI_nat (j := 0) rfl, rfl, _, rfl, ?_⟩
      cases kd with
      | num =>
        refine ite2 (fun _ => ?_) fun z => absurd (by simp [hdS]) z
        have hq1 : (Str.ofString "n").length = 1 := by decide +kernel
        refine ⟨_, rfl, x, "n", rfl, rfl, le_line (by omega), step "n" _ _ ?_⟩
        rw [app_codes, List.append_assoc]; exact hC2
      | blk n =>
        refine ite2 (fun z => absurd z (by simp [hdS]; decide)) fun _ => ?_
        refine ⟨_, rfl, px, _, 0, _, rfl, rfl, SqT.of hx, atI_nat (j := 0) rfl, rfl, _, rfl, ?_⟩
        refine ite2 (fun _ => ?_) fun z => absurd (by simp [hdS]) z
        cases rx
        have hq1 : (Str.ofString "?").length = 1 := by decide +kernel
        simp only [lineC, List.length_cons] at hl2
        refine ⟨_, rfl, x, "?", rfl, rfl, le_line (by omega), ?_⟩
        refine ⟨_, rfl, px, _, 1, _, rfl, rfl, SqT.of hx, atI_nat (j := 1) rfl, n, rfl, log_ok3 hFt, x ++ "?", _, rfl, rfl, le_line ?_, ?_⟩
        · rw [str_len (x ++ Str.ofString "?"), app_codes, List.length_append, ← str_len, ← str_len, hq1, str_len (Str.ofString (toString n))]
          show x.length + 1 + (digs n).length ≤ _
          omega
        · have e := step ((Str.ofString "?") ++ Str.ofString (toString n)) (some (.ref px)) sg (by rw [app_codes, app_codes, List.append_assoc, ← hC2]; rfl)
          have e2 : x ++ Str.ofString "?" ++ Str.ofString (toString n) = x ++ (Str.ofString "?" ++ Str.ofString (toString n)) := PyProof.Rows.ext_toList (by rw [app_codes, app_codes, app_codes, app_codes, List.append_assoc])
          rw [← e2] at e
          exact e
      | two g' a b =>
        refine ite2 (fun z => absurd z (by simp [hdS, tag_num])) fun _ => ?_
        refine ⟨_, rfl, px, _, 0, _, rfl, rfl, SqT.of hx, atI_nat (j := 0) rfl, rfl, _, rfl, ?_⟩
        refine ite2 (fun z => absurd z (by simp [hdS, tag_blk])) fun _ => ?_
        obtain ⟨xa, xb, rfl, ka, kb⟩ := rx
        refine ⟨(by show 2 ≤ sizeLine; decide), fun lc hlc => ?_⟩
        have S4 : Same H3 (upd H3 lc (.lst [.str ",", .str ">"])) := Same.new hlc
        have hx4 := S4 _ _ hx
        have hW4 := S4 _ _ hW2
        refine ⟨_, rfl, px, _, 0, _, rfl, rfl, SqT.of hx4, atI_nat (j := 0) rfl, rfl, .inr ⟨_, rfl, lc, _, _, _, rfl, rfl, SqL.of upd_same, pick_sign g', ?_⟩⟩
        generalize upd H3 lc (.lst [.str ",", .str ">"]) = H4 at S4 hx4 hW4 ⊢
        have hq1 : (Str.ofString "(").length = 1 := by decide +kernel
        refine ⟨_, rfl, x, "(", rfl, rfl, le_line (by omega), ?_⟩
        refine ⟨_, rfl, _, rfl, px, _, 2, xb, rfl, rfl, SqT.of hx4, atI_nat (j := 2) rfl, _, rfl, _, rfl, px, _, 1, xa, rfl, rfl, SqT.of hx4, atI_nat (j := 1) rfl, (by show 4 ≤ sizeLine; decide), fun l2 hl2 => ?_⟩
        have S5 : Same H3 (upd H4 l2 (.lst [.str ")", xb, .str (sign g'), xa])) := S4.upd (S4.free hl2)
        refine ⟨lw, l2, ws', [.str ")", xb, .str (sign g'), xa], rfl, rfl, S5 _ _ hW2, upd_same, le_line (by simp at hlen ⊢; omega), fun l3 hl3 => ?_⟩
        have S6 : Same H3 (upd (upd H4 l2 (.lst [.str ")", xb, .str (sign g'), xa])) l3 (.lst (ws' ++ [.str ")", xb, .str (sign g'), xa]))) := S5.upd (S5.free hl3)
        have hwk : Tok'.w (.k (.two g' a b)) = 3 * a.size + 3 * b.size + 3 := by simp only [Tok'.w, Kd.size]; omega
        have e1 : sumW (.k a :: .s (sign g') :: .k b :: .s ")" :: r) = 3 * a.size + 3 * b.size + 2 + sumW r := by simp [sumW, Tok'.w]; omega
        refine ⟨sumW (.k a :: .s (sign g') :: .k b :: .s ")" :: r), by omega, _, _, x ++ "(", ws' ++ [.str ")", xb, .str (sign g'), xa], .k a :: .s (sign g') :: .k b :: .s ")" :: r, l3, rfl, (S2.trans S5).free hl3, rfl, S2.trans S6, upd_same, ?_, ?_, ?_, by omega⟩
        · have e : (Tok'.k a :: .s (sign g') :: .k b :: .s ")" :: r).reverse = r.reverse ++ [.s ")", .k b, .s (sign g'), .k a] := by simp
          rw [e]
          exact paired_app (kW2.mono S6.tk) (.cons rfl (.cons (kb.mono S6.tk) (.cons rfl (.cons (ka.mono S6.tk) .nil))))
        · rw [app_codes, List.append_assoc, ← hC2]
          simp only [allC, List.flatMap_cons, Tok'.codes, lineC]
          have e3 : (Str.ofString "(").cps.toList = [40] := by decide +kernel
          have e4 : (Str.ofString ")").cps.toList = [41] := by decide +kernel
          rw [e3, e4]
          simp
        · intro t' ht'
          rcases List.mem_cons.mp ht' with z | ht'
          · rw [z]; exact hFt.1
          · rcases List.mem_cons.mp ht' with z | ht'
            · rw [z]; trivial
            · rcases List.mem_cons.mp ht' with z | ht'
              · rw [z]; exact hFt.2
              · rcases List.mem_cons.mp ht' with z | ht'
                · rw [z]; trivial
                · exact hF' t' ht'
end
end K1

set_option Elab.async false
set_option maxRecDepth 100000
namespace L2
open PySem PySem.Spec PyProof.Rows

/-! ### for c in a text of ASCII -/
def Its (x : Str) : It := ⟨fun i _ => i < x.cps.toList.length, fun i H v H' => H' = H ∧ ∃ c, x.cps.toList[i]? = some c ∧ v = .str ⟨#[c]⟩, fun i _ => x.cps.toList.length ≤ i⟩
theorem turn_str {P : Program} {w : World} {K : PySem.W.Frag} {tg : Expr} (x : Str) (t : Tok) (it : Addr) : Turn P w K tg (Its x) [it] it (fun i h => h.IsStrIter it "str_ascii_iterator" x t i) where
  mem := by simp
  obj := fun i h st b hb => by
    have e : b = it := by simpa using hb
    subst e
    obtain ⟨o, e, c, d⟩ := st
    exact ⟨o, e, fun v z => by rw [d] at z; cases z⟩
  keep := fun i h h' st k => let ⟨o, ho, r⟩ := st; ⟨o, k it (by simp) o ho, r⟩
  item := by
    intro X hP hw hK hc i pins s σ H E I hf st hg
    subst hP hw hK
    have hg : i < x.cps.toList.length := hg
    have hx : x.cps.toList[i]? = some x.cps.toList[i] := List.getElem?_eq_getElem hg
    have hx' : x.cps[i]? = some x.cps.toList[i] := by rw [← hx]; simp
    obtain ⟨f0, f1, f2, f3, f4, f5⟩ := hf it (by simp)
    refine wpAny_pyNext_ascii_item st hx' fun h' st' sb => ?_
    have I1 : Inv X pins σ H { s with heap := h', toks := s.toks + 1 } := I.turned (fun b o hb e => (sb.2 b hb).trans e) f0 f1 f3 f4 f5
    obtain ⟨o, e, c, d⟩ := id st'
    exact ⟨_, rfl, go_of (s := { s with heap := h', toks := s.toks + 1 }) e c d (by decide) ⟨.str ⟨#[x.cps.toList[i]]⟩, H, I1, ⟨_, rfl⟩, ⟨rfl, _, hx, rfl⟩, st', fun b hb => (hf b hb).1⟩⟩
  done := by
    intro X hP hw hK hc i pins s σ H E I hf st hg
    subst hP hw hK
    have hg : x.cps.toList.length ≤ i := hg
    have hx' : x.cps[i]? = none := by
      have h2 : x.cps.toList[i]? = none := List.getElem?_eq_none_iff.mpr hg
      rw [← h2]; simp
    obtain ⟨f0, f1, f2, f3, f4, f5⟩ := hf it (by simp)
    exact wpAny_pyNext_ascii_end (I.ok.hd hc) st hx' fun h' eb => ⟨rfl, I.turned (t' := s.toks) (fun b o hb e => eb b o hb e) f0 f1 f3 f4 f5⟩
  self := fun _ _ _ _ _ st h => wpAny_pyIter_striter_ascii st h
section
variable {X : Cx} {tg : Expr}
def iStr (tl : TE) : TI := fun σ H R => tl σ H fun v H1 => ∃ x, v = .str x ∧ x.cps.all (· < 128) = true ∧ R (Its x) H1
theorem pi_str {l : Expr} {tl : TE} (hl : PE X l tl) : PI X tg l (iStr tl) := by
  intro pins s σ H R I h
  refine thn (hl pins s σ H _ I h) fun v s1 ⟨x, H1, I1, r1, q1⟩ => ?_
  obtain ⟨z, e, ha, q⟩ := q1
  subst e
  obtain ⟨t, rfl⟩ := r1
  refine wpAny_pyIter_ascii ha ?_
  refine ⟨s1.heap.objs.size, [s1.heap.objs.size], _, _, H1, rfl, I1.kept (t' := s1.toks) fun b o e => Heap.get?_push_of_some _ e, turn_str z t _, ⟨_, Heap.get?_push_size _ rfl, rfl, rfl⟩, fun b hb => ?_, q⟩
  have e : b = s1.heap.objs.size := by simpa using hb
  subst e
  exact I1.fpOk (Nat.le_refl _) (I1.hok.fresh (Nat.le_refl _))
end
theorem for_str {x : Str} {g : TG} {tb : TS} {D : Ends} {σ : St} {H : Hp} (Pv : Nat → St → Hp → Prop) (h0 : Pv 0 σ H)
    (hs : ∀ i c σ H, x.cps.toList[i]? = some c → Pv i σ H → g (.str ⟨#[c]⟩) σ H fun σ2 H2 => tb { D with nx := Pv (i + 1), ct := Pv (i + 1), bk := D.nx } σ2 H2) (hd : ∀ σ H, Pv x.cps.toList.length σ H → D.nx σ H) :
    ∃ W : Nat → Nat → St → Hp → Prop, (∃ m, W 0 m σ H) ∧ ∀ i m σ H, W i m σ H →
      ((Its x).stop i H ∧ D.nx σ H) ∨ ((Its x).go i H ∧ ∃ N : St → Hp → Prop, (∀ σ' H', N σ' H' → ∃ m', m' < m ∧ W (i + 1) m' σ' H') ∧ ∀ v H', (Its x).yld i H v H' → g v σ H' fun σ2 H2 => tb { D with nx := N, ct := N, bk := D.nx } σ2 H2) := by
  refine ⟨fun i m σ H => m = x.cps.toList.length - i ∧ i ≤ x.cps.toList.length ∧ Pv i σ H, ⟨x.cps.toList.length, by simp, Nat.zero_le _, h0⟩, ?_⟩
  rintro i m σ H ⟨rfl, hi, p⟩
  by_cases hlt : i < x.cps.toList.length
  · refine .inr ⟨hlt, Pv (i + 1), fun σ' H' p' => ⟨x.cps.toList.length - (i + 1), by omega, rfl, hlt, p'⟩, fun v H' y => ?_⟩
    obtain ⟨e, c, hc, ev⟩ := y
    subst e ev
    exact hs i c σ _ hc p
  · have e : i = x.cps.toList.length := by omega
    subst e
    exact .inl ⟨Nat.le_refl _, hd σ H p⟩

/-! ### methods of texts, slices, int(text) -/
theorem strs_of : ∀ {ts : List Str} {its : List Value}, Vals (ts.map V.str) its → ∃ l : List (Str × Tok), its = strValues l ∧ l.map (·.1) = ts
  | [], _, .nil => ⟨[], rfl, rfl⟩
  | z :: r, _, .cons ⟨t, e⟩ h => by
    obtain ⟨l, e1, e2⟩ := strs_of h
    exact ⟨(z, t) :: l, by rw [e, e1]; rfl, by rw [List.map_cons, e2]⟩
section
variable {X : Cx}
def rJoin (K : PySem.W.Frag) : V → List V → Hp → VK → Prop := fun x vs H Q => ∃ sep p ts, x = .str sep ∧ vs = [.ref p] ∧ SqL K H p (ts.map V.str) ∧ JoinOk sep ts = true ∧ Q (.str (Txt.join sep ts)) H
theorem mt_join : MtR X "str.join" (rJoin X.K) := by
  intro pins s σ H x vs v us Q I rx rv h
  obtain ⟨sep, p, ts, rfl, rfl, hp, hj, q⟩ := h
  obtain ⟨t, rfl⟩ := rx
  obtain ⟨u, rfl, ru⟩ := vals1 rv
  cases ru
  obtain ⟨its, r, pl, hz⟩ := I.list hp
  obtain ⟨l, e1, e2⟩ := strs_of r
  subst e1
  exact SC.join pl.isList e2 hj fun t' k => ⟨.str _, H, I.tok k, ⟨_, rfl⟩, q⟩
def rSw : V → List V → Hp → VK → Prop := fun x vs H Q => ∃ y z, x = .str y ∧ vs = [.str z] ∧ Q (.bl (Txt.startswith y z)) H
theorem mt_sw : MtR X "str.startswith" rSw := by
  intro pins s σ H x vs v us Q I rx rv h
  obtain ⟨y, z, rfl, rfl, q⟩ := h
  obtain ⟨t, rfl⟩ := rx
  obtain ⟨u, rfl, t', rfl⟩ := vals1 rv
  exact call_meets PySem.F.slot_str_startswith (typeIs_str _ _ _) PySem.F.entry_str_startswith (PySem.F.args_str_startswith_2 _ _) (gives_str_startswith y z t t').meets ⟨.bl _, H, I, rfl, q⟩
def rSlS : V → Option Int → Option Int → Hp → VK → Prop := fun x lo hi H Q => ∃ z, x = .str z ∧ z.length ≤ sizeLine ∧ Q (.str (Txt.slice z lo hi)) H
theorem part_of {v : Value} {o : Option Int} (h : IsPart v o) : ∃ p : Option (Int × Tok), v = partValue p ∧ p.map (·.1) = o := by
  cases h with
  | none => exact ⟨none, rfl, rfl⟩
  | int i t => exact ⟨some (i, t), rfl, rfl⟩
theorem sl_str : SlR X rSlS := by
  intro pins s σ H x v vl vu lo hi sl Q I rx hs pl pu h
  obtain ⟨z, rfl, hz, q⟩ := h
  obtain ⟨t, rfl⟩ := rx
  obtain ⟨l, rfl, rfl⟩ := part_of pl
  obtain ⟨u, rfl, rfl⟩ := part_of pu
  refine ⟨"str", _, PySem.F.slot_str_getitem.lookup, typeIs_str _ _ _, wpAny_getItem_str_slice (l := l) (u := u) (st := none) hs rfl ?_⟩
  exact post_val_or_str ⟨Nat.le_trans (Txt.slice_le z _ _) hz, fun t' k => ⟨.str _, H, I.tok k, ⟨_, rfl⟩, q⟩⟩
theorem call_int_text : CallR X (.type "int") (fun xs H Q => ∃ z n, xs = [.str z] ∧ PySem.intText? z = some n ∧ z.length ≤ 640 ∧ Q (.int n) H) := by
  intro pins s σ H xs us Q I r h
  obtain ⟨z, n, rfl, hn, hl, q⟩ := h
  obtain ⟨u, rfl, t, rfl⟩ := vals1 r
  exact PySem.W.KIN.call_text hn hl ⟨.int n, H, I.tok _, ⟨_, rfl⟩, q⟩
end

/-! ### a slice's codes -/
theorem sIx_le (n d : Nat) (hd : d ≤ n) (o : Option Int) : HT.sIx n d o ≤ n := by
  cases o with
  | none => exact hd
  | some i => unfold HT.sIx; simp only []; split <;> omega
theorem clipS (n d : Nat) (o : Option Int) : (match o with | none => ((d : Nat) : Int) | some i => max 0 (min (if i < 0 then i + (n : Int) else i) (n : Int))) = ((HT.sIx n d o : Nat) : Int) := by
  cases o with
  | none => rfl
  | some i =>
    unfold HT.sIx
    by_cases h : i < 0
    · simp only [h, if_true]; omega
    · simp only [h, if_false]; omega
theorem slice_idx (lo hi : Option Int) (n : Nat) : Builtin.Str.strSliceIndices lo hi 1 n = (List.range (HT.sIx n n hi - HT.sIx n 0 lo)).map (HT.sIx n 0 lo + ·) := by
  rw [← sliceRange_one]
  show sliceRange (match lo with | none => (((0 : Nat) : Nat) : Int) | some i => max 0 (min (if i < 0 then i + (n : Int) else i) (n : Int))) (match hi with | none => ((n : Nat) : Int) | some i => max 0 (min (if i < 0 then i + (n : Int) else i) (n : Int))) 1 = _
  rw [clipS, clipS]
theorem slice_codes (x : Str) (lo hi : Option Int) : (Txt.slice x lo hi).cps.toList = (x.cps.toList.drop (HT.sIx x.length 0 lo)).take (HT.sIx x.length x.length hi - HT.sIx x.length 0 lo) := by
  have ha := sIx_le x.length 0 (Nat.zero_le _) lo
  have hb := sIx_le x.length x.length (Nat.le_refl _) hi
  have hl : x.cps.toList.length = x.length := by simp [Str.length]
  unfold Txt.slice
  rw [slice_idx]
  split
  · rename_i h
    have h' : HT.sIx x.length x.length hi - HT.sIx x.length 0 lo = x.length := by simpa using h
    have e0 : HT.sIx x.length 0 lo = 0 ∨ x.length = 0 := by omega
    rcases e0 with e0 | e0
    · rw [h', e0, List.drop_zero, List.take_of_length_le (by omega)]
    · have : x.cps.toList = [] := List.length_eq_zero_iff.mp (by omega)
      rw [this]; simp
  · have hp := StrLaws.picks x.cps.toList (HT.sIx x.length x.length hi - HT.sIx x.length 0 lo) (HT.sIx x.length 0 lo) (by omega)
    rw [← hp]
    simp

/-! ### a dict of the module's top, read -/
structure KD (P : Program) (w : World) (K : PySem.W.Frag) (a : Addr) (kvs : List (Key × V)) : Prop where
  ex : ∃ o vs, K.lookup a = some o ∧ (a == sysModules) = false ∧ KV kvs vs ∧ o.IsDictOf (mixKind P w) vs
def tKGet (kvs : List (Key × V)) (ty : TE) : TE := fun σ H Q => ty σ H fun y H1 => ∃ k v, y = kV k ∧ valV kvs k = some v ∧ Q v H1
def tKIn (kvs : List (Key × V)) (ty : TE) : TE := fun σ H Q => ty σ H fun y H1 => ∃ k, y = kV k ∧ Q (.bl (valV kvs k).isSome) H1
theorem iteF' {c : Bool} {A B : Prop} (h : c = false) (x : B) : if c = true then A else B := by rw [if_neg (by rw [h]; exact Bool.false_ne_true)]; exact x
/-- a written dict of texts -/
def EntAt (w : World) (kv : Key × V) (e : DictEntry) : Prop := ∃ x t, kv.1 = Sum.inr x ∧ e.key = .str x t ∧ e.hash = PyData.keyHash w.params x ∧ RelV kv.2 e.val
theorem ents_of {P : Program} {w : World} : ∀ {kvs : List (Key × V)} {es : List DictEntry}, Paired (EntAt w) kvs es →
    ∃ vs, KV kvs vs ∧ Pairs (mixKind P w) es vs ∧ vs.map (·.1) = kvs.map (·.1) ∧ ∀ e ∈ es, ∃ k, (mixKind P w).is k e.key = true ∧ e.hash = (mixKind P w).hash k
  | [], [], .nil => ⟨[], .nil, .nil, rfl, fun _ h => nomatch h⟩
  | (k, v) :: r, e :: es, .cons ⟨x, t, e1, e2, e3, e4⟩ h => by
    obtain ⟨vs, a, b, c, d⟩ := ents_of h
    have hk : (mixKind P w).is k e.key = true := by
      have e1' : k = Sum.inr x := e1
      rw [e2, e1']; exact mixKind_str P w x t
    refine ⟨(k, e.val) :: vs, .cons ⟨rfl, e4⟩ a, .cons hk rfl b, by rw [List.map_cons, List.map_cons, c], fun e' he => ?_⟩
    rcases List.mem_cons.mp he with rfl | he
    · refine ⟨k, hk, ?_⟩
      have e1' : k = Sum.inr x := e1
      rw [e1', e3]; rfl
    · exact d e' he
theorem KD.of {P : Program} {w : World} {K : PySem.W.Frag} {a : Addr} {kvs : List (Key × V)} {es : Array DictEntry} {n : Nat} (hl : K.lookup a = some ⟨.type "dict", none, .dict es n, #[]⟩) (lo : (a == sysModules) = false)
    (hp : Paired (EntAt w) kvs es.toList) (nd : (kvs.map (·.1)).Nodup) : KD P w K a kvs := by
  obtain ⟨vs, h1, h2, h3, h4⟩ := ents_of (P := P) hp
  exact ⟨⟨_, vs, hl, lo, h1, es, n, ⟨rfl, rfl, rfl⟩, rfl, fun e he => h4 e (Array.mem_toList_iff.mpr he), h2, by rw [h3]; exact nd⟩⟩
section
variable {X : Cx} {i : Expr} {pos p2 : Pos} {ty : TE} {x : Str} {a : Addr} {kvs : List (Key × V)}
theorem KD.at {pins : List (Addr × Obj)} {σ : St} {H : Hp} {s : Shared} (kd : KD X.prog X.w X.K a kvs) (I : Inv X pins σ H s) : (a == sysModules) = false ∧ ∃ vs, KV kvs vs ∧ s.heap.DictOf (mixKind X.prog X.w) a vs := by
  obtain ⟨o, vs, hk, hs, rel, hd⟩ := kd.ex
  exact ⟨hs, vs, rel, Heap.dictOf_iff.mpr ⟨o, I.kIn a o hk, hd⟩⟩
theorem pe_kget (kd : KD X.prog X.w X.K a kvs) (hg : Gl X x) (hm : X.mg x = some (.ref a)) (hi : PE X i ty) (hs : NoSl i) (hdb : (x == ("__debug__" : Str)) = false := by decide) : PE X (.Subscript (.Name x p2) i pos) (tKGet kvs ty) := by
  intro pins s σ H Q I h
  refine subD_of PySem.F.slot_dict_getitem.lookup hs (ld_glob I hg hm (thn (hi pins s σ H _ I h) fun iv s2 ⟨y, H2, I2, ry, k, v, ey, e, q2⟩ => ?_) hdb)
  subst ey
  obtain ⟨hsm, vs, rel, dd⟩ := kd.at I2
  obtain ⟨w', hw, rw'⟩ := RelO.some_of (v := v) (o := valueAt vs k) (by rw [← e]; exact rel.val k)
  exact ⟨dd.typeIs, wpAny_getItem_of (kV_is ry) dd.mapOf hw ⟨v, H2, I2.tok _, rw', q2⟩⟩
theorem pc_kin (kd : KD X.prog X.w X.K a kvs) (hg : Gl X x) (hm : X.mg x = some (.ref a)) (hi : PE X i ty) (hdb : (x == ("__debug__" : Str)) = false := by decide) : PC X .In i (.Name x p2) (tKIn kvs ty) := by
  intro pins s σ H Q I h
  refine thn (hi pins s σ H _ I h) fun iv s1 ⟨y, H1, I1, ry, k, ey, q1⟩ => ld_glob I1 hg hm ?_ hdb
  subst ey
  obtain ⟨hsm, vs, rel, dd⟩ := kd.at I1
  refine wpAny_in_of (kV_is ry) hsm dd.mapOf ?_
  rw [← (rel.val k).isSome_eq]
  exact ⟨.bl _, H1, I1.tok _, rfl, q1⟩
end
end L2

set_option Elab.async false
set_option maxRecDepth 100000
namespace K1
open PySem L2 Wk
open PySem.NumText (digitsVal)
/-! ### texts by their codes -/
def mkS (m : List Nat) : Str := ⟨m.toArray⟩
def mV (m : List Nat) : V := .str (mkS m)
theorem mkS_codes (m : List Nat) : (mkS m).cps.toList = m := by simp [mkS]
theorem mkS_of (x : Str) : mkS x.cps.toList = x := by cases x; simp [mkS]
theorem mkS_eq {m : List Nat} {x : Str} : mkS m = x ↔ m = x.cps.toList := ⟨fun h => by rw [← h, mkS_codes], fun h => by rw [h, mkS_of]⟩
theorem mV_eq {m : List Nat} {x : Str} : mV m = .str x ↔ m = x.cps.toList := ⟨fun h => mkS_eq.mp (by injection h), fun h => by rw [h]; show V.str (mkS _) = _; rw [mkS_of]⟩
theorem mkS_len (m : List Nat) : (mkS m).length = m.length := by rw [str_len, mkS_codes]
theorem mkS_app (a b : List Nat) : mkS a ++ mkS b = mkS (a ++ b) := PyProof.Rows.ext_toList (by rw [app_codes, mkS_codes, mkS_codes, mkS_codes])
theorem mkS_one (c : Nat) : (⟨#[c]⟩ : Str) = mkS [c] := rfl
/-! ### the marks of a line -/
def isDig (c : Nat) : Bool := decide (48 ≤ c) && decide (c ≤ 57)
def mstep (found : List (List Nat)) (c : Nat) : List (List Nat) :=
  match found.getLast? with
  | some m => if isDig c && (m.head? == some 63) then found.dropLast ++ [m ++ [c]] else found ++ [[c]]
  | none => found ++ [[c]]
def marksF (l : List Nat) : List (List Nat) := l.foldl mstep []
def signC (f : Bool) : Nat := if f then 62 else 44
theorem sign_codes (f : Bool) : (sign f).cps.toList = [signC f] := by cases f <;> decide +kernel
def marksK : Kd → List (List Nat)
  | .num => [[110]]
  | .blk n => [63 :: digs n]
  | .two f a b => [40] :: (marksK a ++ ([signC f] :: (marksK b ++ [[41]])))
theorem mstep_non {found : List (List Nat)} {c : Nat} (h : isDig c = false) : mstep found c = found ++ [[c]] := by
  unfold mstep
  cases found.getLast? with
  | none => rfl
  | some m => simp [h]
theorem mstep_dig {found : List (List Nat)} {ds : List Nat} {c : Nat} (h : isDig c = true) : mstep (found ++ [63 :: ds]) c = found ++ [63 :: (ds ++ [c])] := by
  unfold mstep
  simp [h]
theorem msteps_dig : ∀ (es : List Nat) (found : List (List Nat)) (ds : List Nat), (∀ c ∈ es, isDig c = true) → es.foldl mstep (found ++ [63 :: ds]) = found ++ [63 :: (ds ++ es)]
  | [], found, ds, _ => by simp
  | c :: es, found, ds, h => by
    rw [List.foldl_cons, mstep_dig (h c List.mem_cons_self), msteps_dig es found (ds ++ [c]) fun d hd => h d (List.mem_cons_of_mem _ hd)]
    simp
theorem digs_nat (m : Nat) : digs (m : Int) = (Nat.toDigits 10 m).map Char.toNat := PySem.W.KIN.signs_num m
theorem digs_dig {n : Int} (h : 0 ≤ n) : ∀ c ∈ digs n, isDig c = true := by
  obtain ⟨m, rfl⟩ := Int.eq_ofNat_of_zero_le h
  rw [digs_nat]
  intro c hc
  obtain ⟨ch, hch, e⟩ := List.mem_map.mp hc
  have r := PyProof.Rows.digit_range (Nat.isDigit_of_mem_toDigits (by decide) (by decide) hch)
  rw [← e]
  unfold isDig
  simp only [Bool.and_eq_true, decide_eq_true_eq]
  exact r
theorem digs_val {n : Int} (h : 0 ≤ n) : ((digitsVal (digs n) : Nat) : Int) = n := by
  obtain ⟨m, rfl⟩ := Int.eq_ofNat_of_zero_le h
  rw [digs_nat, PySem.W.KIN.val_back]
theorem digs_ne {n : Int} (h : 0 ≤ n) : digs n ≠ [] := by
  obtain ⟨m, rfl⟩ := Int.eq_ofNat_of_zero_le h
  rw [digs_nat]
  intro e
  have h := PySem.toDigits_len_ge 10 m
  rw [List.map_eq_nil_iff.mp e] at h
  exact absurd h (by decide)
theorem head_nz : ∀ m : Nat, 0 < m → ∀ c, ((Nat.toDigits 10 m).map Char.toNat).head? = some c → c ≠ 48 := by
  intro m
  induction m using Nat.strongRecOn with
  | _ m ih =>
    intro hm c hc
    by_cases h : m < 10
    · rw [Nat.toDigits_of_lt_base h] at hc
      have e : (Nat.digitChar m).toNat = c := by simpa using hc
      have e2 := PySem.W.KIN.digit_back m h
      omega
    · have hm' : m % 10 < 10 := Nat.mod_lt m (by decide)
      have t : Nat.toDigits 10 (m / 10) ++ Nat.toDigits 10 (m % 10) = Nat.toDigits 10 (10 * (m / 10) + m % 10) := Nat.toDigits_append_toDigits (by decide) (by omega) hm'
      rw [Nat.div_add_mod] at t
      rw [← t, List.map_append, List.head?_append] at hc
      have hne : ((Nat.toDigits 10 (m / 10)).map Char.toNat).head? ≠ none := by
        intro z
        have h2 := PySem.toDigits_len_ge 10 (m / 10)
        rw [List.map_eq_nil_iff.mp (List.head?_eq_none_iff.mp z)] at h2
        exact absurd h2 (by decide)
      cases e : ((Nat.toDigits 10 (m / 10)).map Char.toNat).head? with
      | none => exact absurd e hne
      | some d =>
        rw [e] at hc
        have : d = c := by simpa using hc
        subst this
        exact ih (m / 10) (by omega) (by omega) d e
theorem marks_line : ∀ (k : Kd) (found : List (List Nat)), k.ok → (lineC k).foldl mstep found = found ++ marksK k
  | .num, found, _ => by
    show mstep found 110 = _
    rw [mstep_non (by decide)]; rfl
  | .blk n, found, h => by
    show (digs n).foldl mstep (mstep found 63) = _
    rw [mstep_non (by decide), msteps_dig _ _ _ (digs_dig h)]; rfl
  | .two f a b, found, h => by
    have h41 : isDig 41 = false := by decide
    have hs : isDig (signC f) = false := by cases f <;> decide
    show (lineC a ++ ((sign f).cps.toList ++ (lineC b ++ [41]))).foldl mstep (mstep found 40) = _
    rw [mstep_non (by decide), List.foldl_append, marks_line a _ h.1, sign_codes, List.foldl_append, List.foldl_append, marks_line b _ h.2]
    show mstep (mstep _ (signC f) ++ marksK b) 41 = _
    rw [mstep_non hs, mstep_non h41]
    simp [marksK]
/-! ### reading -/
def aloneF (m : List Nat) : Option Kd :=
  if m = [110] then some .num else if m = [63, 48] ∨ (1 < m.length ∧ m[1]? ≠ some 48) then some (.blk (digitsVal m.tail : Nat)) else none
abbrev RS := List (Option (Bool × Kd)) × Option Kd
def rstep : RS → List Nat → Option RS
  | (ar, none), m => if m = [40] then some (ar ++ [none], none) else (aloneF m).map fun k => (ar, some k)
  | (ar, some k), m =>
    if (m = [44] ∨ m = [62]) ∧ ar.getLast? = some none then some (ar.dropLast ++ [some (decide (m = [62]), k)], none)
    else if m = [41] then match ar.getLast? with
      | some (some (f, a)) => some (ar.dropLast, some (.two f a k))
      | _ => none
    else none
def rrun : RS → List (List Nat) → Option RS
  | st, [] => some st
  | st, m :: ms => (rstep st m).bind fun st' => rrun st' ms
def readF (l : List Nat) : Option Kd := match rrun ([], none) (marksF l) with
  | some ([], some k) => some k
  | _ => none
theorem alone_num : aloneF [110] = some .num := rfl
theorem alone_blk {n : Int} (h : 0 ≤ n) : aloneF (63 :: digs n) = some (.blk n) := by
  unfold aloneF
  have h1 : ¬ (63 :: digs n = [110]) := by simp
  rw [if_neg h1, if_pos, List.tail_cons, digs_val h]
  by_cases hz : n = 0
  · subst hz
    left
    decide +kernel
  · right
    obtain ⟨m, rfl⟩ := Int.eq_ofNat_of_zero_le h
    have hne := digs_ne h
    refine ⟨?_, ?_⟩
    · have := List.length_pos_iff.mpr hne
      simp only [List.length_cons]; omega
    · intro z
      have z' : (digs (m : Int))[0]? = some 48 := by simpa using z
      rw [← List.head?_eq_getElem?, digs_nat] at z'
      exact head_nz m (by omega) 48 z' rfl
theorem run_marks : ∀ (k : Kd) (ar : List (Option (Bool × Kd))) (ms : List (List Nat)), k.ok → rrun (ar, none) (marksK k ++ ms) = rrun (ar, some k) ms
  | .num, ar, ms, _ => rfl
  | .blk n, ar, ms, h => by
    have e : rstep (ar, none) (63 :: digs n) = some (ar, some (.blk n)) := by
      show (if 63 :: digs n = [40] then some (ar ++ [none], none) else (aloneF (63 :: digs n)).map fun k => (ar, some k)) = _
      rw [if_neg (by simp), alone_blk h]; rfl
    show (rstep (ar, none) (63 :: digs n)).bind _ = _
    rw [e]; rfl
  | .two f a b, ar, ms, h => by
    have e : marksK (.two f a b) ++ ms = [40] :: (marksK a ++ ([signC f] :: (marksK b ++ ([41] :: ms)))) := by simp [marksK]
    rw [e]
    show rrun (ar ++ [none], none) _ = _
    rw [run_marks a _ _ h.1]
    have e1 : rstep (ar ++ [none], some a) [signC f] = some (ar ++ [some (f, a)], none) := by
      cases f <;> simp [rstep, signC]
    show (rstep (ar ++ [none], some a) [signC f]).bind _ = _
    rw [e1]
    show rrun (ar ++ [some (f, a)], none) _ = _
    rw [run_marks b _ _ h.2]
    have e2 : rstep (ar ++ [some (f, a)], some b) [41] = some (ar, some (.two f a b)) := by
      simp [rstep]
    show (rstep (ar ++ [some (f, a)], some b) [41]).bind _ = _
    rw [e2]; rfl
theorem read_line {k : Kd} (h : k.ok) : readF (lineC k) = some k := by
  unfold readF marksF
  rw [marks_line k [] h, List.nil_append]
  have e := run_marks k [] [] h
  rw [List.append_nil] at e
  rw [e]; rfl
/-- signs of a line are of ASCII -/
theorem line_ascii : ∀ {k : Kd}, k.ok → ∀ c ∈ lineC k, c < 128
  | .num, _ => by simp [lineC]
  | .blk n, h => by
    intro c hc
    rcases List.mem_cons.mp hc with rfl | hc
    · decide
    · have := digs_dig h c hc
      unfold isDig at this
      simp only [Bool.and_eq_true, decide_eq_true_eq] at this
      omega
  | .two f a b, h => by
    intro c hc
    have hsg : signC f < 128 := by cases f <;> decide
    simp only [lineC, sign_codes, List.mem_cons, List.mem_append, List.not_mem_nil, or_false, List.cons_append, List.nil_append] at hc
    rcases hc with rfl | hc | rfl | hc | rfl
    · decide
    · exact line_ascii h.1 c hc
    · exact hsg
    · exact line_ascii h.2 c hc
    · decide
end K1

set_option Elab.async false
set_option maxRecDepth 100000
namespace L2
open PySem PySem.Spec PyProof.Rows

/-! ### an exception that flies: what lies round it -/
/-- frames as they were but for their slots -/
def Slots (fs : List Addr) (h h' : Heap) : Prop := ∀ b ∈ fs, ∀ o, h.get? b = some o → ∃ sl, h'.get? b = some { o with slots := sl }
theorem Slots.trans {fs : List Addr} {h h1 h2 : Heap} (a : Slots fs h h1) (b : Slots fs h1 h2) : Slots fs h h2 := fun c hc o e => by
  obtain ⟨sl, e1⟩ := a c hc o e
  obtain ⟨sl2, e2⟩ := b c hc _ e1
  exact ⟨sl2, e2⟩
theorem Slots.up {fs : List Addr} {h h' base : Heap} {l : List Env} (k : h.UpToSlots h') (hl : h.FunFrames base l) (hs : ∀ b ∈ fs, b ∈ frs l) : Slots fs h h' := fun b hb o e => by
  obtain ⟨_, o', e', nf⟩ := hl.mem (hs b hb)
  rw [e] at e'; cases e'
  exact k b o e nf
/-- the heap B: all but the frames; tracked things lie in it -/
structure Sky (P : Program) (w : World) (fs : List Addr) (H H' : Hp) (h B h' : Heap) : Prop where
  hok : HOk P w H' B
  un : Un fs fs H H' h B
  sl : Slots fs h h'
  fr : ∀ b ∈ fs, H' b = none
/-- an exception of the class at C leaves a call -/
def CXC (P : Program) (w : World) (C : Addr) : CXT := fun outer H s E e s' => ∃ x B H' a0, e = .ref x ∧ s'.os = s.os ∧ AllBare s'.gens ∧ Heap.FlyingW B outer x (.ref C) a0 s'.heap ∧ Sky P w (frs outer) H H' s.heap B s'.heap ∧ E (.ref C) none H'
/-- it is met in a body: just made, come from a call, or noted here -/
def Station (X : Cx) (C : Addr) (E : XK) (e : Value) (s' : Shared) : Prop :=
  ∃ x B H', e = .ref x ∧ s'.os = X.s₀.os ∧ AllBare s'.gens ∧ Sky X.prog X.w X.fs X.H₀ H' X.s₀.heap B s'.heap ∧ E (.ref C) none H' ∧
    ((∃ h args, B.StaysIn h ∧ h.FunFrames B X.stack ∧ Heap.MadeExcOf h s'.heap x (.ref C) args) ∨ (∃ a0, Heap.FlyingW B X.stack x (.ref C) a0 s'.heap) ∨ ∃ a0, Heap.HeldW B X.stack x (.ref C) a0 X.env.locals s'.heap)
/-- a def's body: its own frame is the innermost -/
structure Own (X : Cx) : Prop where
  stk : X.stack = X.env :: X.outer
  frm : X.env.frame = some X.env.locals
  ex : X.ex = []
section
variable {X : Cx} {C : Addr} {E : XK} {e : Value} {s' : Shared}
theorem Own.sub (o : Own X) : ∀ b ∈ X.fs, b ∈ frs X.stack := fun b hb => by
  rw [o.stk]; unfold frs; rw [List.filterMap_cons, o.frm]; exact List.mem_cons_of_mem _ hb
theorem made_frames {B h h' : Heap} {l : List Env} {x : Addr} {cls : Value} {args : List Value} (hl : h.FunFrames B l) (hx : Heap.MadeExcOf h h' x cls args) : h'.FunFrames B l := hl.of_keeps fun b o q _ => ⟨o, hx.keeps b o q, rfl⟩
theorem Sky.up {P : Program} {w : World} {fs : List Addr} {H H' : Hp} {h B h1 h2 : Heap} (k : Sky P w fs H H' h B h1) (u : Slots fs h1 h2) : Sky P w fs H H' h B h2 := ⟨k.hok, k.un, k.sl.trans u, k.fr⟩
/-- it leaves the frame -/
theorem Station.leave (o : Own X) (hfr : X.A.frames = some X.stack) {E' : Value → Shared → Prop} (h : Station X C E e s') :
    wpAny (model X.prog X.w) X.A (leaving X.env e) (fun _ s'' => CXC X.prog X.w C X.outer X.H₀ X.s₀ E e s'') E' s' := by
  obtain ⟨x, B, H', rfl, os, bare, sky, q, st⟩ := h
  have hfr' : X.A.frames = some (X.env :: X.outer) := by rw [hfr, o.stk]
  rcases st with ⟨h, args, b1, b2, b3⟩ | ⟨a0, f⟩ | ⟨a0, f⟩
  · have b2' := made_frames b2 b3
    rw [o.stk] at b2
    refine wpAny_leaves_madeW hfr' o.frm b1 b2 b3 fun h' t f _ _ u => ⟨x, B, H', _, rfl, os, bare, f, sky.up (Slots.up u b2' o.sub), q⟩
  · have b2 := f.2.2.1
    rw [o.stk] at f
    exact wpAny_leaves_onW hfr' o.frm f fun h' f' u => ⟨x, B, H', _, rfl, os, bare, f', sky.up (Slots.up u b2 o.sub), q⟩
  · have b2 := f.2.2.1
    unfold leaving
    refine wpAny_bind (wpAny_noteFrame_againW o.frm f.2.2.2 ?_)
    refine wpAny_landsW f fun h' f' u => ?_
    obtain ⟨k1, k2, k3, k4⟩ := f'
    rw [o.stk] at k3
    obtain ⟨_, _, k3⟩ := k3
    exact ⟨x, B, H', _, rfl, os, bare, ⟨k1, k2, k3, k4⟩, sky.up (Slots.up u b2 o.sub), q⟩
/-- its flight is set to this frame -/
theorem setFlight_some {M : Model} {A : Around} {E : Value → Shared → Prop} {s : Shared} {B : Heap} {l : List Env} {x L : Addr} {cls a0 fl : Value} {Q : Unit → Shared → Prop}
    (stays : B.StaysIn s.heap) (frames : s.heap.FunFrames B l) (tr : s.heap.TracedAtW B x cls a0 fl)
    (go : ∀ g, B.StaysIn g → g.FunFrames B l → g.TracedAtW B x cls a0 (rawInt L) → s.heap.UpToSlots g → Q () { s with heap := g }) :
    wpAny M A (do if (← field (.ref x) 1) == .none then unsupported "frame.own-activation:exception-without-traceback"
                  setFlight (.ref x) (some L)) Q E s := by
  obtain ⟨ox, fx, T, oT, fT, gx, cx, dx, x1, bT, neT, gT, dT, t3⟩ := tr
  have lt3 : 3 < fT.size := (Array.getElem?_eq_some_iff.mp t3).1
  let up : Heap := s.heap.update T (Obj.mapFields fun v => v.setIfInBounds 3 (rawInt L))
  have off : ∀ b, b ≠ T → up.get? b = s.heap.get? b := fun b nb => Heap.get?_update_other _ _ (Ne.symm nb)
  have notT : ∀ {b : Addr} {ob : Obj}, s.heap.get? b = some ob → (∀ v, ob.data ≠ .fields v) → up.get? b = some ob := fun {b ob} gb nf => by
    rw [off b fun z => nf fT (by subst z; rw [gT] at gb; cases gb; exact dT)]
    exact gb
  have sB : B.StaysIn up := fun b ob gb => by
    rw [off b fun z => by subst z; rw [bT] at gb; cases gb]
    exact stays b ob gb
  refine wpAny_bind (wpAny_field gx dx x1 ?_)
  rw [if_neg (by simp)]
  unfold setFlight
  refine wpAny_bind (wpAny_field gx dx x1 ?_)
  rw [if_pos (by simp)]
  refine wpAny_setField gT dT lt3 (go up sB (frames.of_keeps fun b ob gb nf => ⟨ob, notT gb nf, rfl⟩) ?_ fun b ob gb nf => ⟨ob.slots, notT gb nf⟩)
  refine ⟨ox, fx, T, _, _, ?_, cx, dx, x1, bT, neT, Heap.get?_update_self _ gT (Obj.isFreed_of_fields (Obj.data_mapFields dT _)), Obj.data_mapFields dT _, by simp [lt3]⟩
  rw [off x (Ne.symm neT)]
  exact gx
/-- noted in this frame -/
theorem Station.note (o : Own X) (hfr : X.A.frames = some X.stack) {E' : Value → Shared → Prop} {Q : Unit → Shared → Prop} (h : Station X C E e s')
    (hQ : ∀ x B H' a0 s'', e = .ref x → s''.os = X.s₀.os → AllBare s''.gens → Sky X.prog X.w X.fs X.H₀ H' X.s₀.heap B s''.heap → E (.ref C) none H' → Heap.HeldW B X.stack x (.ref C) a0 X.env.locals s''.heap → s'.heap.UpToSlots s''.heap → s'' = { s' with heap := s''.heap } → Q () s'') :
    wpAny (model X.prog X.w) X.A (noteFrame e X.env) Q E' s' := by
  obtain ⟨x, B, H', rfl, os, bare, sky, q, st⟩ := h
  have hfr' : X.A.frames = some (X.env :: X.outer) := by rw [hfr, o.stk]
  rcases st with ⟨h, args, b1, b2, b3⟩ | ⟨a0, f⟩ | ⟨a0, f⟩
  · have b2' := made_frames b2 b3
    have b2'' := b2'
    rw [o.stk] at b2''
    obtain ⟨t, he, htn, ht⟩ := b3.there
    have fresh : ∀ b, h.get? b = none → B.get? b = none := fun b hb => by
      cases hq : B.get? b with
      | none => rfl
      | some o' => have := b1 b o' hq; rw [hb] at this; cases this
    unfold noteFrame
    simp only [o.frm]
    refine wpAny_bind (wpAny_field he rfl (x := .none) rfl ?_)
    rw [if_neg (by decide)]
    refine wpAny_entryW (a0 := .ref t) hfr' b2'' o.frm he (fun b ob hb => b3.keeps b ob (b1 b ob hb)) (fresh x b3.new) rfl (by show 1 < 6; decide) rfl fun h' n => ?_
    obtain ⟨k1, k2, k3, k4⟩ := n
    rw [← o.stk] at k2
    exact hQ x B H' (.ref t) { s' with heap := h' } rfl os bare (sky.up (Slots.up k4 b2' o.sub)) q ⟨k1, fresh x b3.new, k2, k3⟩ k4 rfl
  · have b2 := f.2.2.1
    have f' := f
    rw [o.stk] at f'
    refine wpAny_looks_onW hfr' o.frm f' fun h' f'' u => ?_
    rw [← o.stk] at f''
    exact hQ x B H' a0 { s' with heap := h' } rfl os bare (sky.up (Slots.up u b2 o.sub)) q f'' u rfl
  · exact wpAny_noteFrame_againW o.frm f.2.2.2 (hQ x B H' a0 s' rfl os bare sky q f (Heap.UpToSlots.refl _) rfl)
theorem Station.passes (o : Own X) (hfr : X.A.frames = some X.stack) : PassesOwn (model X.prog X.w) X.A X.env (Station X C E) := fun e s' h => by
  refine h.note o hfr fun x B H' a0 s'' ex os bare sky q f u es => ?_
  subst ex
  show wpAny (model X.prog X.w) X.A (do
    if (← field (.ref x) 1) == .none then unsupported "frame.own-activation:exception-without-traceback"
    setFlight (.ref x) X.env.frame) _ _ _
  rw [o.frm]
  obtain ⟨k1, k2, k3, k4⟩ := f
  exact setFlight_some k1 k3 k4 fun h' g1 g2 g3 g4 => ⟨x, B, H', rfl, os, bare, sky.up (Slots.up g4 k3 o.sub), q, .inr (.inr ⟨a0, g1, k2, g2, g3⟩)⟩
/-- a heap without the frames -/
theorem hok_hide {P : Program} {w : World} {H : Hp} {h : Heap} {fs : List Addr} (ok : HOk P w H h) (hf : ∀ b ∈ fs, H b = none) : HOk P w H (PySem.W.hideAll h fs) := fun a o e => by
  refine (ok a o e).stay (fun b u hb q => PySem.W.hideAll_get _ q fun z => ?_) (fun _ q => q) fun _ _ q => q
  rcases hb with rfl | hb
  · rw [hf b z] at e; cases e
  · rw [hf b z] at hb; cases hb
/-- an exception is made in this body -/
theorem Inv.madeX (o : Own X) {pins : List (Addr × Obj)} {σ : St} {H : Hp} {s : Shared} (I : Inv X pins σ H s) {x : Addr} {args : List Value} {h' : Heap} (hm : Heap.MadeExcOf s.heap h' x (.ref C) args) (q : E (.ref C) none H) :
    Station X C E (.ref x) { s with heap := h' } := by
  have hin : ∀ env ∈ X.stack, ∀ b, env.frame = some b → b ∈ frs X.stack := fun env he b hb => List.mem_filterMap.mpr ⟨env, he, hb⟩
  have noL : ∀ b ob, X.s₀.heap.get? b = some ob → b ∉ X.fs → b ∉ frs X.stack := fun b ob e n z => by
    rcases List.mem_cons.mp (I.stkSub b z) with e' | e'
    · have h1 := Heap.lt_size e
      have h2 := I.ok.above
      rw [e'] at h1
      exact absurd (Nat.lt_of_lt_of_le h1 h2) (Nat.lt_irrefl _)
    · exact n e'
  have nex : ∀ b, b ∉ X.ex := fun b z => by rw [o.ex] at z; cases z
  refine ⟨x, PySem.W.hideAll s.heap (frs X.stack), H, rfl, I.os, I.bare, ⟨hok_hide I.hok I.stkFree, ⟨fun b ob e n hf _ => ?_, fun b ob e n hf hx => absurd hf hx, fun b ob e n _ => I.base.free b ob e n (nex b), fun b ob e hx => ?_, I.base.tups, I.base.frzs, I.base.tbls⟩, fun b hb ob e => ?_, fun b hb => I.stkFree b (o.sub b hb)⟩, q, .inl ⟨s.heap, args, fun b ob e => PySem.W.of_hideAll _ e, PySem.W.funFrames_hide I.stack hin, hm⟩⟩
  · exact PySem.W.hideAll_get _ (I.base.keep b ob e n hf (nex b)) (noL b ob e hf)
  · obtain ⟨o', e'⟩ := I.base.there b ob e (nex b)
    exact ⟨o', PySem.W.hideAll_get _ e' (noL b ob e hx)⟩
  · obtain ⟨sl, e1⟩ := I.base.slot b ob e (I.ok.frf b hb) hb (nex b)
    exact ⟨sl, hm.keeps _ _ e1⟩
/-- an exception comes out of a call -/
theorem Inv.came (o : Own X) {pins : List (Addr × Obj)} {σ : St} {H : Hp} {s : Shared} (I : Inv X pins σ H s) (h : CXC X.prog X.w C X.stack H s E e s') : Station X C E e s' := by
  obtain ⟨x, B, H', a0, rfl, os, bare, f, sky, q⟩ := h
  have noL : ∀ b ob, X.s₀.heap.get? b = some ob → b ∉ X.fs → b ∉ frs X.stack := fun b ob e n z => by
    rcases List.mem_cons.mp (I.stkSub b z) with e' | e'
    · have h1 := Heap.lt_size e
      have h2 := I.ok.above
      rw [e'] at h1
      exact absurd (Nat.lt_of_lt_of_le h1 h2) (Nat.lt_irrefl _)
    · exact n e'
  have nex : ∀ b, b ∉ X.ex := fun b z => by rw [o.ex] at z; cases z
  refine ⟨x, B, H', rfl, os.trans I.os, bare, ⟨sky.hok, ⟨fun b ob e n hf _ => ?_, fun b ob e n hf hx => absurd hf hx, fun b ob e n hx => ?_, fun b ob e hx => ?_, fun b xs e => sky.un.tups _ _ (I.base.tups _ _ e), fun b ob u e => sky.un.frzs _ _ _ (I.base.frzs _ _ _ e), fun b ps e => ?_⟩, fun b hb ob e => ?_, fun b hb => sky.fr b (o.sub b hb)⟩, q, .inr (.inl ⟨a0, f⟩)⟩
  · have h1 := noL b ob e hf
    exact sky.un.keep b ob (I.base.keep b ob e n hf (nex b)) (I.base.free b ob e n (nex b)) h1 h1
  · obtain ⟨o', e'⟩ := I.base.there b ob e (nex b)
    exact sky.un.free b o' e' (I.base.free b ob e n (nex b)) (noL b ob e hx)
  · obtain ⟨o', e'⟩ := I.base.there b ob e (nex b)
    exact sky.un.there b o' e' (noL b ob e hx)
  · obtain ⟨m1, e1⟩ := I.base.tbls _ _ e
    obtain ⟨m2, e2⟩ := sky.un.tbls _ _ e1
    exact ⟨m1 ++ m2, by rw [e2, Array.append_assoc]⟩
  · obtain ⟨sl, e1⟩ := I.base.slot b ob e (I.ok.frf b hb) hb (nex b)
    obtain ⟨sl2, e2⟩ := sky.sl b (o.sub b hb) _ e1
    exact ⟨sl2, e2⟩
theorem passC (o : Own X) : Passes (CXC X.prog X.w C) (X.wish (Station X C E)) E := fun pins σ H s e s' I h => I.unwish.came o h
theorem PSs.station {st : List Stmt} {t : TS} (o : Own X) (hfr : X.A.frames = some X.stack) (hx : ∀ e s', wpAny (model X.prog X.w) X.A (leaving X.env e) (fun _ s'' => CXC X.prog X.w C X.outer X.H₀ X.s₀ E e s'') (fun e' s'' => CXC X.prog X.w C X.outer X.H₀ X.s₀ E e' s'') s' → X.xe e s')
    (h : PSs (X.wish (Station X C E)) st t) : PSs X st t := fun pins s σ H D I hw =>
  wpAny_mono (h pins s σ H D (I.wish _) hw) (fun _ _ q => q.unwish) fun e s' z => hx e s' (z.leave o hfr)
end
/-- THE RULE for a def that may refuse with the class at C -/
theorem Fun.okX {P : Program} {w : World} {K : PySem.W.Frag} {mg : Str → Option Value} {base : Heap} {C : Addr} {x qual : Str} {st : Stmt} {f : Addr} {fd : FuncData} {N ps : List Str} {k : Nat} {sp : Sp} (F : Fun K x qual st f fd) (S : FnScope N ps (defScope st)) (len : ∀ vs H Q E, sp vs H Q E → vs.length = ps.length)
    (hbody : ∀ (cdv : Value) (A : Around) (outer : List Env) (s : Shared) (H : Hp) (vs : List V) (Q : VK) (E : XK), Room k (A.deeper (envOfC qual (defScope st) s.heap.objs.size f cdv)) → Own (cxOf (CXC P w C) P w K mg base N qual (defScope st) f cdv A outer s H E) →
      (cxOf (CXC P w C) P w K mg base N qual (defScope st) f cdv A outer s H E).A.frames = some (cxOf (CXC P w C) P w K mg base N qual (defScope st) f cdv A outer s H E).stack → sp vs H Q E →
      ∃ t, PSs ((cxOf (CXC P w C) P w K mg base N qual (defScope st) f cdv A outer s H E).wish (Station (cxOf (CXC P w C) P w K mg base N qual (defScope st) f cdv A outer s H E) C E)) (defBody st) t ∧ t { nx := fun _ H' => Q .non H', rt := Q } (start N vs) H) : FnOk P w K mg base (CXC P w C) (k + 1) f fd ps sp := by
  obtain ⟨oc, od, kV, doc, pm, an, cdv, ct, osl, rfl, lk, hcd⟩ := F.ex
  refine ⟨len, fun A outer s H args us vs Q E hr e0 hb r hsp => ?_⟩
  have own : Own (cxOf (CXC P w C) P w K mg base N qual (defScope st) f cdv A outer s H E) := ⟨rfl, rfl, rfl⟩
  have hfr : (cxOf (CXC P w C) P w K mg base N qual (defScope st) f cdv A outer s H E).A.frames = some (cxOf (CXC P w C) P w K mg base N qual (defScope st) f cdv A outer s H E).stack := Around.frames_deeper e0.frames
  have hl := len _ _ _ _ hsp
  have KX : K.In s.heap := e0.mod.kin.keeps fun b o e => (e0.bs b o e).1
  have lim : s.heap.NoLimit := e0.mod.nolimit.keeps fun b o e => (e0.bs b o e).1
  have hkind : ∀ y ∈ ps.zip us, (defScope st).names.lookup y.1 = some .local ∨ ((defScope st).names.lookup y.1 = some .cell ∧ ((cellsFrom (s.heap.objs.size + 1) (defScope st).names []).lookup y.1).isSome = true) := fun ⟨n, v⟩ hy => by
    rcases S.par n (List.of_mem_zip hy).1 with q | q
    · exact .inl q
    · exact .inr ⟨q, PySem.W.cellsFrom_some _ _ _ (.inl q)⟩
  refine codeAny_call_function hr.depth (KX _ _ lk) rfl S.co S.gen rfl (PySem.W.codeRec_of KX hcd) (hb _ _ _ _ ?_)
  refine wpAny_newFunctionEnv_cells S.kind hkind fun env he s1 x => ?_
  subst he
  refine ⟨lim.keeps x.toInCall.keep, codeAny_func ?_⟩
  obtain ⟨t, ht, hq⟩ := hbody cdv A outer s H vs Q E (hr.deeper _) own hfr hsp
  have I : Inv (cxOf (CXC P w C) P w K mg base N qual (defScope st) f cdv A outer s H E) [] (start N vs) H s1 := inv_start S hr.hd e0 hl r x
  refine wpAny_mono (PSs.station own hfr (fun _ _ z => z) ht [] s1 (start N vs) H _ I hq) (fun fl s' hs => ?_) fun e s' hs => hs
  have fin : ∀ {σ' : St} {H' : Hp} {v : V} {u : Value}, Inv (cxOf (CXC P w C) P w K mg base N qual (defScope st) f cdv A outer s H E) [] σ' H' s' → RelV v u → Q v H' → CE outer P w H s Q u s' :=
    fun {σ' H' v u} J rv q => ⟨v, H', J.os, J.bare, J.base, J.hok, rv, q⟩
  cases fl with
  | ret u =>
    obtain ⟨v, σ', H', J, rv, q⟩ := hs
    exact fin J rv q
  | next =>
    obtain ⟨σ', H', J, q⟩ := hs
    exact fin (v := V.non) (u := Value.none) J rfl q
  | brk =>
    obtain ⟨_, _, _, q⟩ := hs
    exact False.elim q
  | cont =>
    obtain ⟨_, _, _, q⟩ := hs
    exact False.elim q
end L2

set_option Elab.async false
set_option maxRecDepth 100000
namespace L2
open PySem PySem.Spec PyProof.Rows

/-! ### raise C(..) -/
section
variable {X : Cx} {C : Addr} {E : XK}
/-- what is wanted of the class at C, bound to x -/
structure Refuse (X : Cx) (x : Str) (C : Addr) : Prop where
  own : ∃ bm newId, OwnCls x C bm newId X.mg X.base ∧ ∃ B initId, ExcBaseFacts B newId initId bm
def tRaise (E : XK) (C : Addr) (ta : TA) : TS := fun _ σ H => ta σ H fun vs H1 => vs.length ≤ sizeLine ∧ E (.ref C) none H1
theorem ps_raise {x : Str} {np cpos pos : Pos} {e₀ : Expr} {rest : List Expr} {ta : TA} (o : Own X) (R : Refuse X x C) (hc : X.calm = true) (hg : Gl X x) (ha : PA (X.wish (Station X C E)) (e₀ :: rest) ta)
    (he : starEach (e₀ :: rest) X.env = (false, eval e₀ X.env) :: starEach rest X.env := by rfl) (hpl : (backTo cpos (starEach rest X.env)).any (·.1) = false := by rfl) (hdb : (x == ("__debug__" : Str)) = false := by decide) :
    PS (X.wish (Station X C E)) (.Raise (some (.Call (.Name x np) (e₀ :: rest) [] cpos)) none pos) (tRaise E C ta) := by
  intro pins s σ H D I h
  obtain ⟨bmB, newId, O, Bn, initId, FB⟩ := R.own
  obtain ⟨tl, N, nm, qn, bs, hdct, sn, sub, ab, col, dd, k0, k1, k2, k3, k5, mN, hC, hN, hni, T⟩ := O.obj
  have hpl' : (backTo cpos (starEach (e₀ :: rest) X.env)).any (·.1) = false := by
    rw [he]
    show (false || (backTo cpos (starEach rest X.env)).any (·.1)) = false
    rw [hpl]; rfl
  have hA := ha cpos pins s σ H _ I h
  refine wpAny_Raise_call_subT (nm := nm) (q := qn) (C := C) (N := N) (bs := bs) (bm := tl) (hdct := hdct) (sn := sn) (sub := sub) (ab := ab) (col := col) (dd := dd) (k0 := k0) (k1 := k1) (k2 := k2) (k3 := k3) (k5 := k5) (mN := mN) FB
    (T.hasType FB.hasBase) (I.ok.hd hc) hpl' hni (ld_glob I hg O.bound ⟨rfl, ?_⟩ hdb)
  rw [he] at hA
  show wpAny _ _ (evalArgs (.ref C) true (backTo cpos (starEach (e₀ :: rest) X.env)) []) _ _ s
  rw [he]
  exact Calls.evalArgs_plain (thn hA fun us s2 ⟨vs, H1, I1, r, hl, q⟩ => ⟨rfl, by rw [← r.length]; exact hl, I1.bk _ _ hC, hN.keeps I1.bk, T.keeps I1.bk, fun h' x' hm => I1.unwish.madeX o hm q⟩)
/-! ### where it is caught -/
theorem Inv.landed {pins : List (Addr × Obj)} {σ : St} {H1 H' : Hp} {s1 s' : Shared} {B h' : Heap} (I : Inv X pins σ H1 s1) (os : s'.os = s1.os) (bare : AllBare s'.gens) (hok : HOk X.prog X.w H' B) (un : Un (frs X.stack) (frs X.stack) H1 H' s1.heap B)
    (fr : ∀ b ∈ frs X.stack, H' b = none) (sl : Slots (frs X.stack) s1.heap h') (st : B.StaysIn h') : Inv X pins σ H' { s' with heap := h' } := by
  refine I.call' (ch := []) os ⟨fun b ob e n hb _ => st _ _ (un.keep b ob e n hb hb), fun b ob e n hb _ => sl b hb ob e, fun b ob e n _ => ?_, fun b ob e _ => ?_, un.tups, un.frzs, un.tbls⟩ (hok.kept st) bare (fun b z => absurd z (by simp))
  · by_cases hb : b ∈ frs X.stack
    · exact fr b hb
    · exact un.free b ob e n hb
  · by_cases hb : b ∈ frs X.stack
    · obtain ⟨sl', e'⟩ := sl b hb ob e
      exact ⟨_, e'⟩
    · obtain ⟨o', e'⟩ := un.there b ob e hb
      exact ⟨o', st _ _ e'⟩
/-- a handler's suite -/
def Cx.hnd (X : Cx) (x : Addr) : Cx := { X with A := X.A.mark (some (.ref x)), calm := false, xe := fun _ _ => False }
theorem Inv.hnd {pins : List (Addr × Obj)} {σ : St} {H : Hp} {s : Shared} (I : Inv X pins σ H s) (x : Addr) : Inv (X.hnd x) pins σ H s :=
  ⟨⟨I.ok.mod, I.ok.kind, I.ok.glob, I.ok.blt, I.ok.above, I.ok.inj, I.ok.has, I.ok.cab, fun z => absurd (show false = true from z) Bool.false_ne_true, I.ok.frames, I.ok.stk, I.ok.exf, I.ok.bs, I.ok.bsz, I.ok.noex, I.ok.exfs, I.ok.funs, I.ok.frf⟩, I.os, I.bare, I.base, I.loc, I.cell, I.free, I.freeC, I.pin, I.hok, I.len⟩
theorem Inv.unhnd {pins : List (Addr × Obj)} {σ : St} {H : Hp} {s : Shared} {x : Addr} (ok : X.Ok) (I : Inv (X.hnd x) pins σ H s) : Inv X pins σ H s :=
  ⟨ok, I.os, I.bare, I.base, I.loc, I.cell, I.free, I.freeC, I.pin, I.hok, I.len⟩
theorem SP.unhnd {pins : List (Addr × Obj)} {D : Ends} {f : Flow} {s' : Shared} {x : Addr} (ok : X.Ok) (h : SP (X.hnd x) pins D f s') : SP X pins D f s' := by
  cases f with
  | next => obtain ⟨σ', H', I, q⟩ := h; exact ⟨σ', H', I.unhnd ok, q⟩
  | brk => obtain ⟨σ', H', I, q⟩ := h; exact ⟨σ', H', I.unhnd ok, q⟩
  | cont => obtain ⟨σ', H', I, q⟩ := h; exact ⟨σ', H', I.unhnd ok, q⟩
  | ret u => obtain ⟨v, σ', H', I, r, q⟩ := h; exact ⟨v, σ', H', I.unhnd ok, r, q⟩
/-- a block that may refuse -/
def PX (X : Cx) (C : Addr) (body : List Stmt) (t : XK → TS) : Prop := ∀ (pins : List (Addr × Obj)) (s : Shared) (σ : St) (H : Hp) (D : Ends) (E : XK), Inv X pins σ H s → t E D σ H →
  wpAny (model X.prog X.w) X.A (execs body X.env) (SP X pins D) (fun e s' => ∃ H1 s1, Inv X pins σ H1 s1 ∧ CXC X.prog X.w C X.stack H1 s1 E e s') s
section
variable {k : Nat} {f : Addr} {fd : FuncData} {ps : List Str} {sp : Sp} {x fn : Str} {p cpos pos pos' : Pos} {e : Expr} {es : List Expr} {t : TA}
theorem call_x {pins : List (Addr × Obj)} {s : Shared} {σ : St} {H : Hp} {Q : VK} (F : FnOk X.prog X.w X.K X.mg X.base (CXC X.prog X.w C) k f fd ps sp) (hr : Room k X.A) (hg : Gl X fn) (hm : X.mg fn = some (.ref f)) (hk : PySem.W.keepIn X.K (.ref f) = true) (hb : Binds X.K fd ps [])
    (ha : PA X.nox (e :: es) t) (hdb : (fn == ("__debug__" : Str)) = false) (he : starEach (e :: es) X.env = (false, eval e X.env) :: starEach es X.env) (hpl : (backTo cpos (starEach es X.env)).any (·.1) = false)
    (I : Inv X pins σ H s) (h : t σ H fun vs H1 => sp vs H1 Q E) :
    wpAny (model X.prog X.w) X.A (eval (.Call (.Name fn p) (e :: es) [] cpos) X.env) (EP X pins σ Q) (fun e s' => ∃ H1 s1, Inv X pins σ H1 s1 ∧ CXC X.prog X.w C X.stack H1 s1 E e s') s := by
  refine wpAny_Call_Name_kw (ld_glob I hg hm ?_ hdb)
  refine PySem.W.callWith_K (h₀ := X.base) I.ok.mod.kin hk (wpAny_mono (ha cpos pins s σ H _ (I.wish _) h) (fun us s1 ⟨vs, H1, I1, r, q⟩ => ⟨I1.unwish.kIn, ?_⟩) fun _ _ z => False.elim z) he hpl
  have I1' := I1.unwish
  have hl : us.length = ps.length := by rw [← r.length]; exact F.len _ _ _ _ q
  have hb' := hb s1 us I1'.kIn (by rw [List.append_nil]; exact hl)
  rw [List.append_nil] at hb'
  refine wpAny_call (codeAny_mono (F.run X.A X.stack s1 H1 ⟨us, []⟩ us vs Q E hr I1'.env0 hb' r q) fun r' s' hq => ?_)
  cases r' with
  | error e' => exact ⟨H1, s1, I1', hq⟩
  | ok fl =>
    cases fl with
    | ret u => exact I1'.after hq
    | next => exact False.elim hq
    | brk => exact False.elim hq
    | cont => exact False.elim hq
theorem px_set {i : Nat} (hN : X.N.Nodup) (hi : X.N[i]? = some x) (hx : Loc X.env.scope x) (F : FnOk X.prog X.w X.K X.mg X.base (CXC X.prog X.w C) k f fd ps sp) (hr : Room k X.A) (hg : Gl X fn) (hm : X.mg fn = some (.ref f)) (hk : PySem.W.keepIn X.K (.ref f) = true) (hb : Binds X.K fd ps [])
    (ha : PA X.nox (e :: es) t) (hdb : (fn == ("__debug__" : Str)) = false := by decide) (he : starEach (e :: es) X.env = (false, eval e X.env) :: starEach es X.env := by rfl) (hpl : (backTo cpos (starEach es X.env)).any (·.1) = false := by rfl)
    (hs : swapsWith (.Call (.Name fn p) (e :: es) [] cpos) (some (.Name x pos')) pos.line X.env = pure false := by rfl) (hf : X.fn x = true ∨ X.env.scope.names.lookup x = some .local := by first | exact .inl rfl | exact .inr rfl | assumption) :
    PX X C [.Assign [.Name x pos'] (.Call (.Name fn p) (e :: es) [] cpos) pos] (fun E D σ H => t σ H fun vs H1 => sp vs H1 (fun v H2 => D.nx (σ.set i (some v)) H2) E) := by
  intro pins s σ H D E I h
  refine wpAny_execs_cons (thn (Q := SP X pins D) (wpAny_Assign_Name (thn (call_x F hr hg hm hk hb ha hdb he hpl I h) fun v s1 ⟨y, H1, I1, r1, q1⟩ => ?_) hs) fun f s1 q => ?_)
  · exact store_ok I1 hN hi hx r1 (fun s2 I2 => ⟨_, H1, I2, q1⟩) hf
  · cases f with
    | next => exact wpAny_execs_nil q
    | ret v => exact q
    | brk => exact q
    | cont => exact q
theorem px_expr (F : FnOk X.prog X.w X.K X.mg X.base (CXC X.prog X.w C) k f fd ps sp) (hr : Room k X.A) (hg : Gl X fn) (hm : X.mg fn = some (.ref f)) (hk : PySem.W.keepIn X.K (.ref f) = true) (hb : Binds X.K fd ps [])
    (ha : PA X.nox (e :: es) t) (hdb : (fn == ("__debug__" : Str)) = false := by decide) (he : starEach (e :: es) X.env = (false, eval e X.env) :: starEach es X.env := by rfl) (hpl : (backTo cpos (starEach es X.env)).any (·.1) = false := by rfl)
    (hs : swapsWith (.Call (.Name fn p) (e :: es) [] cpos) none pos.line X.env = pure false := by rfl) :
    PX X C [.Expr (.Call (.Name fn p) (e :: es) [] cpos) pos] (fun E D σ H => t σ H fun vs H1 => sp vs H1 (fun _ H2 => D.nx σ H2) E) := by
  intro pins s σ H D E I h
  refine wpAny_execs_cons (thn (Q := SP X pins D) (wpAny_Expr_any (thn (call_x F hr hg hm hk hb ha hdb he hpl I h) fun v s1 ⟨y, H1, I1, r1, q1⟩ => ?_) I.quiet hs) fun f s1 q => ?_)
  · exact ⟨σ, H1, I1, q1⟩
  · cases f with
    | next => exact wpAny_execs_nil q
    | ret v => exact q
    | brk => exact q
    | cont => exact q
end
/-- try: body except x: suite (x is bound to C) -/
theorem ps_try {x : Str} {np hpos pos : Pos} {body suite : List Stmt} {b₀ : Stmt} {t : XK → TS} {th : TS} (o : Own X) (R : Refuse X x C) (hg : Gl X x) (hb : PX X C body t) (hh : ∀ y, PSs (X.hnd y) (b₀ :: suite) th) (hdb : (x == ("__debug__" : Str)) = false := by decide) :
    PS X (.Try body [.ExceptHandler (some (.Name x np)) none (b₀ :: suite) hpos] [] [] pos) (fun D σ H => t (fun _ _ H' => th D σ H') D σ H) := by
  intro pins s σ H D I h
  obtain ⟨bmB, newId, O, Bn, initId, FB⟩ := R.own
  obtain ⟨tl, N, nm, qn, bs, hdct, sn, sub, ab, col, dd, k0, k1, k2, k3, k5, mN, hC, hN, hni, T⟩ := O.obj
  refine wpAny_Try_except (wpAny_mono (hb pins s σ H D _ I h) (fun f s1 q => ?_) fun e s' q => ?_)
  · cases f with
    | next => exact wpAny_execs_nil q
    | ret v => exact q
    | brk => exact q
    | cont => exact q
  · obtain ⟨H1, s1, I1, y, B, H', a0, rfl, os, bare, fl, sky, q⟩ := q
    have hfr : X.A.frames = some (X.env :: X.outer) := by rw [I1.ok.frames, o.stk]
    have fl1 := fl
    rw [o.stk] at fl1
    refine wpAny_looks_onW hfr o.frm fl1 fun h4 held4 up4 => ?_
    refine wpAny_landsW held4 fun h5 fl5 up5 => ?_
    rw [← o.stk] at fl5
    have sl5 : Slots (frs X.stack) s1.heap h5 := sky.sl.trans (Slots.up (up4.trans up5) fl.2.2.1 fun _ z => z)
    have I5 : Inv X pins σ H' { s' with heap := h5 } := I1.landed os bare sky.hok sky.un sky.fr sl5 fl5.1
    obtain ⟨oe, he5, hc5⟩ := fl5.there
    refine wpAny_handleBy_cons (codeAny_handlers_test (ld_glob (X := X.hnd y) (I5.hnd y) hg O.bound ?_ hdb)) (by intro q; cases q)
    refine wpAny_excMatches_sub_self (I5.bk _ _ hC) he5 hc5 (T.hasType FB.hasBase) ?_
    refine codeAny_handlers_suite ?_
    refine lands_againW fl5 fun h6 fl6 up6 => ?_
    have I6 : Inv X pins σ H' { s' with heap := h6 } := I1.landed os bare sky.hok sky.un sky.fr (sl5.trans (Slots.up up6 fl5.2.2.1 fun _ z => z)) fl6.1
    exact wpAny_mono (hh y pins _ σ H' D (I6.hnd y) q) (fun f s7 q7 => q7.unhnd I6.ok) fun _ _ z => False.elim z
end
end L2

set_option Elab.async false
set_option maxRecDepth 100000
namespace L2
open PySem PySem.Spec PyProof.Rows

/-! ### a text with what a value shows as -/
section
variable {X : Cx} {v : Expr} {tv : TE} {a : Str} {k : Nat} {p1 p2 pos : Pos}
def tFr (a : Str) (tv : TE) : TE := fun σ H Q => tv σ H fun x H1 => ∃ y, x = .str y ∧ (∀ c ∈ y.cps.toList, c < 16 ^ 8) ∧ a.length + (10 * y.length + 2) ≤ sizeLine ∧ ∀ z, Q (.str z) H1
theorem pe_fr (hv : PE X v tv) (ha : a.length ≤ sizeLine) : PE X (.JoinedStr [.Constant (.str a) k p1, .FormattedValue v 114 none p2] pos) (tFr a tv) := by
  intro pins s σ H Q I h
  have e0 : ∀ y : Str, Str.empty ++ y = y := fun y => ext_toList (by simp [PySem.Str.cps_append, Str.empty])
  refine wpAny_JoinedStr ?_
  show wpAny _ _ (eval (.Constant (.str a) k p1) X.env) _ _ s
  refine Calls.Constant_str ⟨a, _, rfl, by rw [e0]; exact ha, ?_⟩
  show wpAny _ _ (eval (.FormattedValue v 114 none p2) X.env) _ _ _
  refine wpAny_FormattedValue_repr (thn (hv pins _ σ H _ (I.tok _) h) fun u s1 ⟨x, H1, I1, r, y, ex, hc, hl, q⟩ => ?_)
  subst ex
  obtain ⟨t, rfl⟩ := r
  have hr := PySem.StrLaws.reprText_len y hc
  have hle : (Str.empty ++ a ++ PySem.reprText y).length ≤ sizeLine := by rw [e0, strLen_append]; omega
  refine PySem.wpAny_pyReprObj_str (hsz := by omega) ?_
  refine wpAny_formatField_str ?_ ?_ (by omega)
  · exact ⟨_, _, rfl, hle, hle, .str _, H1, I1.tok _, ⟨_, rfl⟩, q _⟩
  · exact ⟨_, _, rfl, hle, hle, .str _, H1, I1.tok _, ⟨_, rfl⟩, q _⟩
end
/-! ### a handler with a name, which ends its def -/
section
variable {X : Cx} {C W : Addr} {E : XK}
/-- all locals are forgotten -/
theorem Inv.gone {pins : List (Addr × Obj)} {σ : St} {H : Hp} {s : Shared} (I : Inv X pins σ H s) {h' : Heap} {m' : Str → Option Value} {tk : Nat} (hn : h'.Ns X.env.locals m') (hs : Heap.SameBut X.env.locals s.heap h') :
    Inv X pins (List.replicate X.N.length none) H { s with heap := h', toks := tk } := by
  have old : ∀ b ob, X.s₀.heap.get? b = some ob → b ≠ X.env.locals := fun b ob e => Nat.ne_of_lt (Nat.lt_of_lt_of_le (Heap.lt_size e) I.ok.above)
  have cne := I.cne
  obtain ⟨_, ⟨oL, _, _, hoL, _⟩, _⟩ := id I.loc
  refine ⟨I.ok, I.os, I.bare, ⟨fun b ob e n hb hx => ?_, fun b ob e n hb hx => ?_, I.base.free, fun b ob e hx => ?_, I.base.tups, I.base.frzs, I.base.tbls⟩, ⟨m', hn, fun i x v _ h2 _ => ?_⟩, fun y c e => ?_, I.free, I.freeC, fun p hp => ?_, fun b ob e => ?_, by simp⟩
  · rw [hs.2 b (old b ob e)]; exact I.base.keep b ob e n hb hx
  · obtain ⟨sl, e1⟩ := I.base.slot b ob e n hb hx
    exact ⟨sl, by rw [hs.2 b (old b ob e)]; exact e1⟩
  · obtain ⟨o', e1⟩ := I.base.there b ob e hx
    exact ⟨o', by rw [hs.2 b (old b ob e)]; exact e1⟩
  · rw [List.getElem?_replicate] at h2
    split at h2 <;> cases h2
  · obtain ⟨w', z⟩ := I.cell y c e
    exact ⟨w', z.sameBut hs (cne y c e)⟩
  · obtain ⟨e, n, ne, nf, d⟩ := I.pin p hp
    exact ⟨by rw [hs.2 p.1 ne]; exact e, n, ne, nf, d⟩
  · refine (I.hok b ob e).stay (fun c u hc q => ?_) (fun _ q => q) fun _ _ q => q
    rw [hs.2 c fun z => ?_]
    · exact q
    · rw [z] at hc
      rcases hc with hc | hc
      · rw [← hc, I.free] at e; cases e
      · rw [I.free] at hc; cases hc
/-- the class at W, bound to x, is above that at C -/
structure Above (X : Cx) (x : Str) (W C : Addr) : Prop where
  bound : X.mg x = some (.ref W)
  up : ∃ nm q N bs bm hdct sn sub ab col dd k0 k1 k2 k3 k5 newId, X.base.get? W = some (excClassObj nm q W N bs bm hdct sn sub ab col dd k0 k1 k2 k3 k5 newId) ∧ bm.contains (.type "BaseException") = true
  low : ∃ nm q N bs bm hdct sn sub ab col dd k0 k1 k2 k3 k5 newId, X.base.get? C = some (excClassObj nm q C N bs bm hdct sn sub ab col dd k0 k1 k2 k3 k5 newId) ∧ bm.contains (.ref W) = true
theorem matches_up {M : Model} {A : Around} {E : Value → Shared → Prop} {s : Shared} {y : Addr} {oy : Obj} {Q : Bool → Shared → Prop} {x : Str} (L : Above X x W C) (k : ∀ b ob, X.base.get? b = some ob → s.heap.get? b = some ob) (gy : s.heap.get? y = some oy) (cy : oy.cls = .ref C) (hq : Q true s) :
    wpAny M A (excMatches (.ref y) (.ref W)) Q E s := by
  obtain ⟨nm, q, N, bs, bm, hdct, sn, sub, ab, col, dd, k0, k1, k2, k3, k5, newId, gW, bW⟩ := L.up
  obtain ⟨nm', q', N', bs', bm', hdct', sn', sub', ab', col', dd', k0', k1', k2', k3', k5', newId', gC, iC⟩ := L.low
  have gW := k _ _ gW
  have gC := k _ _ gC
  obtain ⟨hp, g, d, tk, os⟩ := s
  have cW : (Value.ref W :: bm).contains (.type "BaseException") = true := by rw [List.contains_cons, bW, Bool.or_true]
  have cC : (Value.ref C :: bm').contains (.ref W) = true := by rw [List.contains_cons, iC, Bool.or_true]
  have nt := tc_notTuple
  unfold excMatches
  repeat (first | (with_reducible refine wpAny_loadPart_at gy ?_; rw [cy]) | with_reducible refine wpAny_loadPart_at gW ?_ | (with_reducible refine wpAny_isSubtype_exc gW ?_; rw [cW]) | (with_reducible refine wpAny_isSubtype_exc gC ?_; rw [cC]) | wp_step)
  exact hq
/-- it lies at y, an untracked record -/
def ExcAt (X : Cx) (C y : Addr) (s : Shared) : Prop := ∃ oy, s.heap.get? y = some oy ∧ oy.cls = .ref C ∧ oy.dict = none
end
end L2

set_option Elab.async false
set_option maxRecDepth 100000
namespace L2
open PySem PySem.Spec PyProof.Rows

/-! ### what an exception's class is, asked by isinstance -/
/-- an exception's record, of the class at C -/
structure ExcOb (C : Addr) (oy : Obj) : Prop where
  cls : oy.cls = .ref C
  data : ∃ vs, oy.data = .fields vs
/-- what the written part says of the class at C -/
structure ExcKit (K : PySem.W.Frag) (C : Addr) : Prop where
  ga : PySem.W.findIn K (.ref C) "__getattribute__" = some (some (.builtin "BaseException.__getattribute__"))
  gt : PySem.W.findIn K (.ref C) "__getattr__" = some none
  ca : PySem.W.findIn K (.ref C) "__class__" = some (some (.builtin "object.__class__"))
  sub : PySem.W.subIn K (.ref C) (.type "BaseException") = some true
  subO : PySem.W.subIn K (.ref C) (.type "object") = some true
  isC : (PySem.W.clsIn K C).isSome = true
section
variable {K : PySem.W.Frag} {C y : Addr} {oy : Obj} {prog : Program} {w : World} {A : Around} {E : Value → Shared → Prop} {h : Heap} {g : Array GenState} {d : Drawn} {t : Nat} {os : OsState}
theorem ExcOb.type {M : Model} (o : ExcOb C oy) (gy : h.get? y = some oy) : PySem.W.Looks M h (typeOf (.ref y)) (.ref C) := o.cls ▸ (PySem.W.Looks.ld gy).andThen .now
theorem exc_get {R : Result → Shared → Prop} (X : K.In h) (G : ExcKit K C) (o : ExcOb C oy) (gy : h.get? y = some oy) (hq : R (.ok (.ret (.ref C))) ⟨h, g, d, t, os⟩) :
    codeAny (model prog w) A (.call (.builtin "getset_descriptor.__get__") ⟨[.builtin "object.__class__", .ref y, .ref C], []⟩) R ⟨h, g, d, t, os⟩ := by
  have cy := o.cls
  have ty : (⟨h, g, d, t, os⟩ : Shared).TypeIs (.builtin "object.__class__") "getset_descriptor" := F.typeOf_object_class
  have ow : (".".intercalate ("object.__class__".cutAt '.').dropLast) = "object" := by
    have e0 : "object.__class__".cutAt '.' = ["object", "__class__"] := by first | rfl | decide +kernel
    rw [e0]; decide +kernel
  have L1 : PySem.W.Looks (model prog w) h (isSubtype (.ref C) (.type (".".intercalate ("object.__class__".cutAt '.').dropLast))) true := by
    rw [ow]; exact PySem.W.looks_subIn X G.subO
  refine codeAny_call_builtin F.slot_gs_get.plain F.entry_gs_get (F.slot_gs_get.check _ _ _ _ _ _ _ _ ty (F.args_gs_get _ _ _) ?_)
  repeat (any_goals (first | assumption | (with_reducible refine wpAny_loadPart_at gy ?_; rw [cy]) | with_reducible refine L1.at ?_ | wp_step))
  refine ⟨Code.quiet_builtin _ (by decide +kernel), codeAny_builtin F.entry_object_class ?_⟩
  repeat (any_goals (first | assumption | (with_reducible refine wpAny_loadPart_at gy ?_; rw [cy]) | wp_step))
theorem exc_entry {tk : Tok} {Q : Fin → Shared → Prop} (X : K.In h) (G : ExcKit K C) (o : ExcOb C oy) (gy : h.get? y = some oy) (hq : Q (.done (.ret (.ref C))) ⟨h, g, d, t, os⟩) :
    wpAny (model prog w) A (Builtin.«object.__getattribute__» ⟨[.ref y, .str "__class__" tk], []⟩) Q E ⟨h, g, d, t, os⟩ := by
  have cy := o.cls
  have L1 := PySem.W.looks_findIn (M := model prog w) X G.ca
  have f5 := F.typeOf_object_class
  have f6 := F.slot_gs_get.lookup
  have f7 := F.slot_gs_set.lookup
  repeat (any_goals (first | assumption | (with_reducible refine wpAny_loadPart_at gy ?_; rw [cy]) | with_reducible refine L1.at ?_ | wp_step))
  refine exc_get X G o gy ?_
  repeat (any_goals (first | assumption | wp_step))
theorem exc_check {M : Model} {v : Value} {Q : Unit → Shared → Prop} (X : K.In h) (G : ExcKit K C) (o : ExcOb C oy) (gy : h.get? y = some oy) (hq : Q () ⟨h, g, d, t, os⟩) : wpAny M A (checkBuiltinCall "BaseException.__getattribute__" ⟨[.ref y, v], []⟩) Q E ⟨h, g, d, t, os⟩ := by
  have cy := o.cls
  have L1 := PySem.W.looks_subIn (M := M) X G.sub
  have kk : builtinKind "BaseException.__getattribute__" = some .slot := by decide +kernel
  have ks : splitId "BaseException.__getattribute__" = some ("BaseException", "__getattribute__") := by decide +kernel
  have ka := F.args_bexc_ga (.ref y) v
  simp only [checkBuiltinCall, kk, ks]
  refine wpAny_bind ?_
  unfold isInstance
  repeat (first | (with_reducible refine wpAny_loadPart_at gy ?_; rw [cy]) | with_reducible refine L1.at ?_ | wp_step)
  exact hq
theorem exc_call {tk : Tok} {R : Result → Shared → Prop} (X : K.In h) (G : ExcKit K C) (o : ExcOb C oy) (gy : h.get? y = some oy) (hq : R (.ok (.ret (.ref C))) ⟨h, g, d, t, os⟩) :
    codeAny (model prog w) A (.call (.builtin "BaseException.__getattribute__") ⟨[.ref y, .str "__class__" tk], []⟩) R ⟨h, g, d, t, os⟩ :=
  codeAny_call_builtin F.attr_ValueError.ga.plain F.entry_bexc_ga (exc_check X G o gy (exc_entry X G o gy hq))
theorem exc_by {tk : Tok} {fill expr : Bool} {Q : Value → Shared → Prop} (X : K.In h) (G : ExcKit K C) (o : ExcOb C oy) (gy : h.get? y = some oy) (hq : Q (.ref C) ⟨h, g, d, t, os⟩) :
    wpAny (model prog w) A (getAttrBy (.ref y) (.str "__class__" tk) fill expr) Q E ⟨h, g, d, t, os⟩ := by
  have cy := o.cls
  have L1 := PySem.W.looks_findIn (M := model prog w) X G.ga
  have L2 := PySem.W.looks_findIn (M := model prog w) X G.gt
  have f3 := F.attr_ValueError.ga.bind (.ref y)
  have x0 : (expr && onTheHeap (Value.builtin "BaseException.__getattribute__")) = false := by cases expr <;> rfl
  have x2 : (Value.builtin "BaseException.__getattribute__" == Value.builtin "object.__getattribute__") = false := by decide +kernel
  have x1 : (onTheHeap (Value.ref C) && Value.builtin "BaseException.__getattribute__" == Value.builtin "object.__getattribute__") = false := by rw [x2]; rfl
  repeat (any_goals (first | assumption | (with_reducible refine wpAny_loadPart_at gy ?_; rw [cy]) | with_reducible refine L1.at ?_ | with_reducible refine L2.at ?_ | wp_step))
  refine exc_call X G o gy ?_
  repeat (any_goals (first | assumption | wp_step))
end
theorem exc_attr {K : PySem.W.Frag} {C y : Addr} {oy : Obj} {prog : Program} {w : World} {A : Around} {E : Value → Shared → Prop} {s : Shared} {Q : Option Value → Shared → Prop} (X : K.In s.heap) (G : ExcKit K C) (o : ExcOb C oy) (gy : s.heap.get? y = some oy) (hq : Q (some (.ref C)) { s with toks := s.toks + 1 }) :
    wpAny (model prog w) A (getAttr? (.ref y) "__class__") Q E s := by
  obtain ⟨h, g, d, t, os⟩ := s
  unfold getAttr? getAttrBy?
  refine wpAny_bind (wpAny_mkText (wpAny_bind (wpAny_attempt ?_)))
  exact exc_by (t := t + 1) X G o gy (wpAny_pure hq)
theorem kit_no {K : PySem.W.Frag} {C : Addr} {cv : V} {c : Value} {b : Bool} (rc : RelV cv c) (e : PySem.W.kitOne K (.ref C) c = some b) : (∃ a, cv = .ref a) ∨ ∃ n, cv = .ty n := by
  cases cv with
  | ref a => exact .inl ⟨a, rfl⟩
  | ty n => exact .inr ⟨n, rfl⟩
  | non => cases rc; cases e
  | bl x => cases rc; cases e
  | int i => obtain ⟨t, rfl⟩ := rc; cases e
  | str x => obtain ⟨t, rfl⟩ := rc; cases e
  | byt x => obtain ⟨t, rfl⟩ := rc; cases e
  | flt x => obtain ⟨t, rfl⟩ := rc; cases e
theorem exc_kit {K : PySem.W.Frag} {C y : Addr} {oy : Obj} (G : ExcKit K C) (o : ExcOb C oy) : PySem.W.KitX K (.ref y) (.ref C) (fun h => h.get? y = some oy) := by
  obtain ⟨cd, hcd⟩ := Option.isSome_iff_exists.mp G.isC
  have cls : ∃ c' d' sl', K.lookup C = some ⟨c', d', .cls cd, sl'⟩ := by
    unfold PySem.W.clsIn at hcd
    split at hcd
    · rename_i c' d' cd' sl' ho
      cases hcd
      exact ⟨c', d', sl', ho⟩
    · cases hcd
  obtain ⟨c', d', sl', ho⟩ := cls
  refine ⟨fun M h _ p => o.type p, fun M h X p A' Q' E' s' k q => ?_, fun h tp dd its n sl X htp => ?_, fun X p k => exc_attr X G o p k⟩
  · unfold isType loadHead
    exact wpAny_bind (wpAny_loadPart (k _ _ (X _ _ ho)) (wpAny_pure q))
  · refine Bool.eq_false_iff.mpr fun q => ?_
    cases beq_iff_eq.mp q
    have z := (X _ _ ho).symm.trans htp
    cases z
section
variable {X : Cx} {C y : Addr} {oy : Obj}
theorem call_isiE (G : ExcKit X.K C) (o : ExcOb C oy) (hp : (y, oy) ∈ X.pn) : CallR X (.builtin "isinstance") (fun xs H Q => ∃ cv c b, xs = [.ref y, cv] ∧ RelV cv c ∧ PySem.W.kitOne X.K (.ref C) c = some b ∧ Q (.bl b) H) := by
  intro pins s σ H xs us Q I r h
  obtain ⟨cv, c, b, rfl, rc, e, q⟩ := h
  obtain ⟨u, w', rfl, ru, rw'⟩ := vals2 r
  cases ru
  have ew : w' = c := by
    rcases kit_no rc e with ⟨a, rfl⟩ | ⟨n, rfl⟩
    · cases rc; cases rw'; rfl
    · cases rc; cases rw'; rfl
  subst ew
  exact PySem.W.kia_one (exc_kit G o) I.kIn (I.pin (y, oy) (List.mem_append_left _ hp)).1 e (fun z => nomatch z) fun tk => ⟨.bl b, H, I.tok tk, rfl, q⟩
end
end L2

set_option Elab.async false
set_option maxRecDepth 100000
namespace L2
open PySem PySem.Spec PyProof.Rows
theorem ObjOk.there {P : Program} {w : World} {H : Hp} {h : Heap} {a : Addr} {o : HO} (x : ObjOk P w H h a o) : ∃ ob, h.get? a = some ob := by
  cases o with
  | lst xs => obtain ⟨_, _, _, _, e⟩ := x; exact ⟨_, e⟩
  | tup xs => obtain ⟨_, _, _, ob, e, _⟩ := x; exact ⟨_, e⟩
  | dK kvs => obtain ⟨_, _, _, _, o, _, _, e, _⟩ := x; exact ⟨_, e⟩
  | dT kvs => obtain ⟨_, _, _, _, o, _, _, e, _⟩ := x; exact ⟨_, e⟩
  | set S n => obtain ⟨o, _, _, _, e, _⟩ := x; exact ⟨_, e⟩
  | ins C dx fs => obtain ⟨_, _, _, e, _⟩ := x; exact ⟨_, e⟩
  | own y => exact x
  | xd fs => obtain ⟨_, ⟨_, _, _, e, _⟩, _⟩ := x; exact ⟨_, e⟩
  | rng lo hi => obtain ⟨_, _, _, e⟩ := x; exact ⟨_, e⟩
  | frz ob u => obtain ⟨e, _⟩ := x; exact ⟨_, e⟩
  | tbl ps => exact ⟨_, x⟩
  | met f y => exact ⟨_, x⟩
  | ext φ => obtain ⟨_, e, _⟩ := x; exact e
section
variable {X : Cx} {C W : Addr}
/-- a handler's suite, with the exception's record -/
def Cx.hndE (X : Cx) (y : Addr) (oy : Obj) : Cx := { X with A := X.A.mark (some (.ref y)), calm := false, pn := X.pn ++ [(y, oy)], xe := fun _ _ => False }
theorem Inv.hndE {pins : List (Addr × Obj)} {σ : St} {H : Hp} {s : Shared} (I : Inv X pins σ H s) {y : Addr} {oy : Obj} (g : s.heap.get? y = some oy) (hy : H y = none) (hL : y ≠ X.env.locals) (hf : y ∉ X.fs) (hd : ∀ v, oy.data ≠ .cell v) : Inv (X.hndE y oy) pins σ H s :=
  ⟨⟨I.ok.mod, I.ok.kind, I.ok.glob, I.ok.blt, I.ok.above, I.ok.inj, I.ok.has, I.ok.cab, fun z => absurd (show false = true from z) Bool.false_ne_true, I.ok.frames, I.ok.stk, I.ok.exf, I.ok.bs, I.ok.bsz, I.ok.noex, I.ok.exfs, I.ok.funs, I.ok.frf⟩, I.os, I.bare, I.base, I.loc, I.cell, I.free, I.freeC, fun p hp => by
    have hp' : p ∈ (X.pn ++ [(y, oy)]) ++ pins := hp
    rcases List.mem_append.mp hp' with z | z
    · rcases List.mem_append.mp z with z | z
      · exact I.pin p (List.mem_append_left _ z)
      · rw [List.mem_singleton.mp z]; exact ⟨g, hy, hL, hf, hd⟩
    · exact I.pin p (List.mem_append_right _ z), I.hok, I.len⟩
theorem Inv.unhndE {pins : List (Addr × Obj)} {σ : St} {H : Hp} {s : Shared} {y : Addr} {oy : Obj} (ok : X.Ok) (I : Inv (X.hndE y oy) pins σ H s) : Inv X pins σ H s :=
  ⟨ok, I.os, I.bare, I.base, I.loc, I.cell, I.free, I.freeC, fun p hp => I.pin p (by
    show p ∈ (X.pn ++ [(y, oy)]) ++ pins
    rcases List.mem_append.mp hp with z | z
    · exact List.mem_append_left _ (List.mem_append_left _ z)
    · exact List.mem_append_right _ z), I.hok, I.len⟩
/-- try: body except x as n: suite, where the suite ends the def -/
theorem ps_tryAs {x n : Str} {i : Nat} {np hpos pos : Pos} {body suite : List Stmt} {b₀ : Stmt} {t : XK → TS} {th : Addr → TS} (o : Own X) (L : Above X x W C) (hg : Gl X x) (hN : X.N.Nodup) (hi : X.N[i]? = some n) (hl : X.env.scope.names.lookup n = some .local)
    (hb : PX X C body t) (hh : ∀ y oy, ExcOb C oy → PSs (X.hndE y oy) (b₀ :: suite) (th y)) (hdb : (x == ("__debug__" : Str)) = false := by decide) :
    PS X (.Try body [.ExceptHandler (some (.Name x np)) (some n) (b₀ :: suite) hpos] [] [] pos) (fun D σ H => t (fun _ _ H' => ∀ y, H' y = none → th y { nx := fun _ _ => False, rt := D.rt } (σ.set i (some (.ref y))) H') D σ H) := by
  intro pins s σ H D I h
  refine wpAny_Try_except (wpAny_mono (hb pins s σ H D _ I h) (fun f s1 q => ?_) fun e s' q => ?_)
  · cases f with
    | next => exact wpAny_execs_nil q
    | ret v => exact q
    | brk => exact q
    | cont => exact q
  · obtain ⟨H1, s1, I1, y, B, H', a0, rfl, os, bare, fl, sky, q⟩ := q
    have hfr : X.A.frames = some (X.env :: X.outer) := by rw [I1.ok.frames, o.stk]
    have fl1 := fl
    rw [o.stk] at fl1
    refine wpAny_looks_onW hfr o.frm fl1 fun h4 held4 up4 => ?_
    refine wpAny_landsW held4 fun h5 fl5 up5 => ?_
    rw [← o.stk] at fl5
    have sl5 : Slots (frs X.stack) s1.heap h5 := sky.sl.trans (Slots.up (up4.trans up5) fl.2.2.1 fun _ z => z)
    have I5 : Inv X pins σ H' { s' with heap := h5 } := I1.landed os bare sky.hok sky.un sky.fr sl5 fl5.1
    obtain ⟨oe, he5, hc5⟩ := fl5.there
    refine wpAny_handleBy_cons (codeAny_handlers_test (ld_glob (X := X.hnd y) (I5.hnd y) hg L.bound ?_ hdb)) (by intro q; cases q)
    refine matches_up (X := X) L I5.bk he5 hc5 ?_
    refine codeAny_handlers_suite_as ?_
    refine lands_againW fl5 fun h6 fl6 up6 => ?_
    have I6 : Inv X pins σ H' { s' with heap := h6 } := I1.landed os bare sky.hok sky.un sky.fr (sl5.trans (Slots.up up6 fl5.2.2.1 fun _ z => z)) fl6.1
    obtain ⟨oy, vs, gy, cy, dy, _⟩ := fl6.first
    have hy : H' y = none := by
      cases e : H' y with
      | none => rfl
      | some ob =>
        obtain ⟨oB, eB⟩ := (sky.hok y ob e).there
        rw [fl6.2.1] at eB; cases eB
    have nfr : ∀ b ∈ frs X.stack, y ≠ b := fun b hb z => by
      obtain ⟨_, ob, gb, nb⟩ := fl6.2.2.1.mem hb
      rw [← z, gy] at gb
      cases gb
      exact nb vs dy
    have hL : y ≠ X.env.locals := nfr _ (by rw [o.stk]; unfold frs; rw [List.filterMap_cons, o.frm]; exact List.mem_cons_self)
    have hf : y ∉ X.fs := fun z => nfr y (o.sub y z) rfl
    have nc : ∀ v, oy.data ≠ .cell v := fun v z => by rw [dy] at z; cases z
    have J6 := (I6.hndE gy hy hL hf nc : Inv (X.hndE y oy) pins σ H' { s' with heap := h6 })
    refine store_ok (X := X.hndE y oy) (v := .ref y) J6 hN hi (Or.inl hl) rfl (fun s7 J7 => ?_) (.inr hl)
    refine wpAny_mono (hh y oy ⟨cy, vs, dy⟩ pins s7 _ H' _ J7 (q y hy)) (fun f s8 q8 => ?_) fun _ _ z => False.elim z
    cases f with
    | next => obtain ⟨_, _, _, z⟩ := q8; exact False.elim z
    | brk => obtain ⟨_, _, _, z⟩ := q8; exact False.elim z
    | cont => obtain ⟨_, _, _, z⟩ := q8; exact False.elim z
    | ret u =>
      obtain ⟨v, σ8, H8, J8, r8, z8⟩ := q8
      have I8 := J8.unhndE I6.ok
      obtain ⟨m8, hn8, _⟩ := id I8.loc
      refine wpAny_nameGoes (m := m8) hl hn8 (by rw [I8.ok.kind]; rfl) fun h9 m9 hn9 hs9 => ?_
      exact ⟨v, _, H8, I8.gone hn9 hs9, r8, z8⟩
end
end L2

set_option Elab.async false
set_option maxRecDepth 100000
namespace K1
open PySem L2 Wk
open PySem.NumText (digitsVal)
theorem figs_in (c : Nat) : (!(Builtin.Str.occurrences "0123456789" (⟨#[c]⟩ : Str) 0 (Str.ofString "0123456789").length 1).isEmpty) = isDig c := by
  rw [PySem.StrLaws.found_one]
  have e : (Str.ofString "0123456789").cps.toList = [48, 49, 50, 51, 52, 53, 54, 55, 56, 57] := by decide +kernel
  show decide (c ∈ (Str.ofString "0123456789").cps.toList) = isDig c
  rw [e, Bool.eq_iff_iff]
  unfold isDig
  simp only [decide_eq_true_eq, Bool.and_eq_true, List.mem_cons, List.not_mem_nil, or_false]
  omega
theorem sw_q (m : List Nat) : Txt.startswith (mkS m) "?" = (m.head? == some 63) := by
  have e : (Str.ofString "?").cps = #[63] := by decide +kernel
  have e1 : (Str.ofString "?").length = 1 := by decide +kernel
  unfold Txt.startswith Builtin.Str.subAt
  rw [mkS_len, e1, e]
  cases m with
  | nil => rfl
  | cons c r =>
    have h1 : (0 + 1 ≤ (c :: r).length) := by simp
    rw [decide_eq_true h1, Bool.true_and]
    show ((mkS (c :: r)).cps.extract 0 1 == #[63]) = _
    have h2 : (mkS (c :: r)).cps.extract 0 1 = #[c] := by simp [mkS]
    rw [h2]
    by_cases h : c = 63
    · subst h; rfl
    · have a1 : ((#[c] : Array Nat) == #[63]) = false := by simpa using h
      have a2 : ((c :: r).head? == some 63) = false := by simpa using h
      rw [a1, a2]
theorem ix_last {α : Type} (xs : List α) (v : α) : ixN (xs ++ [v]).length (-1) = some xs.length := by
  unfold ixN
  have hl : (xs ++ [v]).length = xs.length + 1 := by simp
  rw [hl, if_neg (by decide), if_pos (by omega)]
  congr 1
  omega
section
variable {P : Program} {w : World} {K : PySem.W.Frag} {mg : Str → Option Value} {base : Heap} {f g aH aM aA : Addr} {fd gd dM dA : FuncData}
/-! ### marks -/
def spMarks : Sp := fun vs H Q _ => ∃ x, vs = [.str x] ∧ x.cps.all (· < 128) = true ∧ x.length ≤ 100000 ∧ ∀ p H', Same H H' → H p = none → H' p = some (.lst ((marksF x.cps.toList).map mV)) → Q (.ref p) H'
theorem scMarks : FnScope ["line", "found", "sign"] ["line"] (defScope sMarks) := ⟨rfl, rfl, rfl, by decide +kernel, rfl, by decide +kernel, by decide +kernel⟩
set_option maxHeartbeats 4000000 in
theorem ok_marks {tF : Tok} (F : Fun K "marks" "marks" sMarks f fd) (mF : mg "FIGURES" = some (.str "0123456789" tF)) : FnOk P w K mg base CX0 1 f fd ["line"] spMarks := by
  refine F.ok scMarks (fun vs H Q E h => ?_) (fun cdv A outer s H vs Q E hr h => ?_)
  · obtain ⟨x, rfl, _⟩ := h
    rfl
  obtain ⟨x, rfl, hasc, hB, q⟩ := h
  have nd := scMarks.nd
  refine ⟨_, pss_cons (ps_set (i := 1) nd rfl (Or.inl rfl) (pe_lst pa_nil))
    (pss_cons (ps_for PassesOwn.never rfl (pi_str (pv 0)) (pg_name (i := 2) nd rfl (Or.inl rfl))
      (pss_one (ps_if (PW.pt (pw_and (pt_cmpR op_in_str (pv 2) (pe_glob (v := .str "0123456789") rfl mF ⟨_, rfl⟩) (by with_unfolding_all rfl)) (pw_and (pt_truth (pv 1) (fun _ => rfl))
          (pw_and1 (pt_truth (pe_bm PySem.F.plainAttrs_str PySem.F.slot_str_startswith PySem.F.type_str_startswith mt_sw (pe_ix ix_list (pv 1) (pe_un un_neg pe_int) (fun _ _ => rfl)) (pa_cons pe_str pa_nil)) (fun _ => rfl))))))
        (pss_one (ps_asg (pe_op op_add_str (pe_ix ix_list (pv 1) (pe_un un_neg pe_int) (fun _ _ => rfl)) (pv 2)) (pg_sub (pv 1) (pe_un un_neg pe_int) set_list)))
        (pss_one (ps_expr (pe_bm PySem.F.plainAttrs_list PySem.F.slot_list_append PySem.F.type_list_append mt_append (pv 1) (pa_cons (pv 2) pa_nil)))))))
    (pss_one (ps_ret (pv 1)))), ?_⟩
  refine ⟨Nat.zero_le _, fun lf hlf => ?_⟩
  have S1 : Same H (upd H lf (.lst [])) := Same.new hlf
  have hxl : x.cps.toList.length ≤ 100000 := by rw [← str_len]; exact hB
  refine ⟨_, rfl, x, rfl, hasc, for_str (fun i σ H1 => ∃ sg found, σ = [some (.str x), some (.ref lf), sg] ∧ Same H H1 ∧ H1 lf = some (.lst (found.map mV)) ∧ (x.cps.toList.drop i).foldl mstep found = marksF x.cps.toList ∧ found.length ≤ i ∧ ∀ m ∈ found, m.length ≤ i)
    ⟨none, [], rfl, S1, upd_same, by simp [marksF], Nat.le_refl _, by simp⟩ (fun i c σ H1 hc hP => ?_) (fun σ H1 hP => ?_)⟩
  · obtain ⟨sg, found, rfl, hS, hL, hM, hl, hml⟩ := hP
    have hi : i < x.cps.toList.length := (List.getElem?_eq_some_iff.mp hc).1
    have hdr : x.cps.toList.drop i = c :: x.cps.toList.drop (i + 1) := by
      rw [List.drop_eq_getElem_cons hi]
      congr 1
      exact (List.getElem?_eq_some_iff.mp hc).2
    rw [hdr, List.foldl_cons] at hM
    have app : ∀ (hm : mstep found c = found ++ [[c]]) (H2 : Hp), H2 = upd H1 lf (.lst (found.map mV ++ [.str ⟨#[c]⟩])) → ∃ sg found, [some (V.str x), some (.ref lf), some (.str ⟨#[c]⟩)] = [some (.str x), some (.ref lf), sg] ∧ Same H H2 ∧ H2 lf = some (.lst (found.map mV)) ∧ (x.cps.toList.drop (i + 1)).foldl mstep found = marksF x.cps.toList ∧ found.length ≤ i + 1 ∧ ∀ m ∈ found, m.length ≤ i + 1 := by
      intro hm H2 e
      subst e
      rw [hm] at hM
      refine ⟨_, found ++ [[c]], rfl, hS.upd hlf, by rw [upd_same]; simp [mV, mkS], hM, by simp; omega, fun m hm => ?_⟩
      rcases List.mem_append.mp hm with z | z
      · exact Nat.le_succ_of_le (hml m z)
      · rw [List.mem_singleton.mp z]; simp
    refine ⟨_, rfl, _, _, rfl, rfl, _, rfl, ?_⟩
    rw [figs_in]
    cases hd : isDig c with
    | false =>
      refine iteF ?_
      exact ⟨_, rfl, .inl ⟨rfl, _, SqL.of hL⟩, _, rfl, lf, _, _, rfl, rfl, hL, lt_line (by rw [List.length_map]; omega), app (mstep_non hd) _ rfl⟩
    | true =>
      refine iteT ?_
      refine ⟨_, rfl, _, .inl ⟨_, SqL.of hL, rfl⟩, ?_⟩
      rcases List.eq_nil_or_concat found with rfl | ⟨fs, m, rfl⟩
      · refine iteF ?_
        exact ⟨_, rfl, .inl ⟨rfl, _, SqL.of hL⟩, _, rfl, lf, _, _, rfl, rfl, hL, lt_line (by rw [List.length_map]; omega), app rfl _ rfl⟩
      · rw [List.concat_eq_append] at hL hM hl hml app ⊢
        refine iteB (by simp) ?_
        have hL' : H1 lf = some (.lst (fs.map mV ++ [mV m])) := by rw [hL]; simp
        refine ⟨_, rfl, _, rfl, lf, _, _, mV m, rfl, rfl, SqL.of hL', atI_last _ _, rfl, mkS m, "?", rfl, rfl, _, rfl, ?_⟩
        rw [sw_q]
        cases hq : (m.head? == some 63) with
        | false =>
          refine iteF ?_
          refine ⟨_, rfl, .inl ⟨rfl, _, SqL.of hL⟩, _, rfl, lf, _, _, rfl, rfl, hL, lt_line (by rw [List.length_map]; omega), app ?_ _ rfl⟩
          unfold mstep
          simp [hd, hq]
        | true =>
          refine iteT ?_
          have hmi := hml m (by simp)
          refine ⟨_, rfl, _, rfl, lf, _, _, mV m, rfl, rfl, SqL.of hL', atI_last _ _, _, rfl, mkS m, _, rfl, rfl, le_line (by rw [mkS_len]; show m.length + 1 ≤ _; omega), ?_⟩
          refine ⟨_, rfl, _, rfl, lf, _, _, fs.length, rfl, rfl, hL', ?_, ?_⟩
          · have e := ix_last (fs.map mV) (mV m)
            rw [List.length_map] at e
            exact e
          · have hm : mstep (fs ++ [m]) c = fs ++ [m ++ [c]] := by unfold mstep; simp [hd, hq]
            rw [hm] at hM
            have hset : (fs.map mV ++ [mV m]).set fs.length (.str (mkS m ++ (⟨#[c]⟩ : Str))) = (fs ++ [m ++ [c]]).map mV := by
              rw [mkS_one, mkS_app, List.set_append_right _ _ (by simp)]
              simp [mV]
            rw [hset]
            refine ⟨_, fs ++ [m ++ [c]], rfl, hS.upd hlf, upd_same, hM, by simp at hl ⊢; omega, fun m' hm' => ?_⟩
            rcases List.mem_append.mp hm' with z | z
            · exact Nat.le_succ_of_le (hml m' (by simp [z]))
            · rw [List.mem_singleton.mp z, List.length_append]; simp; exact hmi
  · obtain ⟨sg, found, rfl, hS, hL, hM, hl, hml⟩ := hP
    rw [List.drop_length, List.foldl_nil] at hM
    exact ⟨_, rfl, q lf H1 hS hlf (by rw [← hM]; exact hL)⟩
theorem rstep_41 {ks : List (Option (Bool × Kd))} {k : Kd} {m : List Nat} (h1 : ¬ (m = [44] ∨ m = [62])) (h2 : m = [41]) : rstep (ks, some k) m = match ks.getLast? with
    | some (some (f, a)) => some (ks.dropLast, some (.two f a k))
    | _ => none := by
  show (if (m = [44] ∨ m = [62]) ∧ ks.getLast? = some none then some (ks.dropLast ++ [some (decide (m = [62]), k)], none) else if m = [41] then _ else none) = _
  rw [if_neg (fun z => h1 z.1), if_pos h2]
  all_goals
    cases ks.getLast? with
    | none => rfl
    | some o => cases o with
      | none => rfl
      | some fa => rfl
/-! ### the marks of any line -/
theorem msteps_flat : ∀ (l : List Nat) (found : List (List Nat)), (l.foldl mstep found).flatten = found.flatten ++ l
  | [], found => by simp
  | c :: l, found => by
    rw [List.foldl_cons, msteps_flat l]
    have e : (mstep found c).flatten = found.flatten ++ [c] := by
      unfold mstep
      cases hg : found.getLast? with
      | none => simp
      | some m =>
        obtain ⟨fs, rfl⟩ := List.getLast?_eq_some_iff.mp hg
        by_cases hq : (isDig c && (m.head? == some 63)) = true
        · simp [hq]
        · simp [hq]
    rw [e]; simp
theorem marksF_flat (l : List Nat) : (marksF l).flatten = l := by
  unfold marksF
  rw [msteps_flat]; rfl
theorem msteps_tail : ∀ (l : List Nat) (found : List (List Nat)), (∀ m ∈ found, ∀ c ∈ m.tail, isDig c = true) → ∀ m ∈ l.foldl mstep found, ∀ c ∈ m.tail, isDig c = true
  | [], found, h => h
  | c :: l, found, h => by
    rw [List.foldl_cons]
    refine msteps_tail l _ fun m hm d hd => ?_
    have app : m ∈ found ++ [[c]] → isDig d = true := fun z => by
      rcases List.mem_append.mp z with z | z
      · exact h m z d hd
      · rw [List.mem_singleton.mp z] at hd; cases hd
    unfold mstep at hm
    cases hg : found.getLast? with
    | none => rw [hg] at hm; exact app hm
    | some m0 =>
      rw [hg] at hm
      by_cases hq : (isDig c && (m0.head? == some 63)) = true
      · simp only [hq, if_true] at hm
        obtain ⟨fs, rfl⟩ := List.getLast?_eq_some_iff.mp hg
        rw [List.dropLast_concat] at hm
        rcases List.mem_append.mp hm with z | z
        · exact h m (List.mem_append_left _ z) d hd
        · rw [List.mem_singleton.mp z] at hd
          cases m0 with
          | nil => cases hd
          | cons a r =>
            have hd' : d ∈ r ++ [c] := hd
            rcases List.mem_append.mp hd' with z' | z'
            · exact h (a :: r) (List.mem_append_right _ (List.mem_singleton.mpr rfl)) d z'
            · rw [List.mem_singleton.mp z']
              exact ((Bool.and_eq_true _ _).mp hq).1
      · simp only [if_neg hq] at hm
        exact app hm
theorem marksF_tail (l : List Nat) : ∀ m ∈ marksF l, ∀ c ∈ m.tail, isDig c = true := msteps_tail l [] (by simp)
theorem marks_in {l m : List Nat} (h : m ∈ marksF l) : ∀ c ∈ m, c ∈ l := fun c hc => by
  have : c ∈ (marksF l).flatten := List.mem_flatten.mpr ⟨m, h, hc⟩
  rwa [marksF_flat] at this
theorem marksF_length (l : List Nat) : (marksF l).length ≤ l.length := by
  unfold marksF
  have : ∀ (l : List Nat) (found : List (List Nat)), (l.foldl mstep found).length ≤ found.length + l.length := by
    intro l
    induction l with
    | nil => intro found; simp
    | cons c l ih =>
      intro found
      rw [List.foldl_cons]
      have h1 := ih (mstep found c)
      have h2 : (mstep found c).length ≤ found.length + 1 := by
        unfold mstep
        cases hg : found.getLast? with
        | none => simp
        | some m =>
          by_cases hq : (isDig c && (m.head? == some 63)) = true
          · simp only [hq, if_true, List.length_append, List.length_dropLast, List.length_singleton]; omega
          · simp only [if_neg hq, List.length_append, List.length_singleton]; omega
      rw [List.length_cons]
      omega
  have := this l []
  simpa using this
/-! ### alone -/
def spAlone (C : Addr) : Sp := fun vs H Q E => ∃ m, vs = [mV m] ∧ m.length ≤ 600 ∧ (∀ c ∈ m, c < 128) ∧ (∀ c ∈ m.tail, isDig c = true) ∧ (∀ k, aloneF m = some k → ∀ v H', Same H H' → KAt H' v k → Q v H') ∧ (aloneF m = none → ∀ H', Same H H' → E (.ref C) none H')
theorem scAlone : FnScope ["mark"] ["mark"] (defScope sAlone) := ⟨rfl, rfl, rfl, by decide +kernel, rfl, by decide +kernel, by decide +kernel⟩
theorem codes_n : (Str.ofString "n").cps.toList = [110] := by decide +kernel
theorem codes_q0 : (Str.ofString "?0").cps.toList = [63, 48] := by decide +kernel
theorem codes_0 : (Str.ofString "0").cps.toList = [48] := by decide +kernel
theorem slice_tail (m : List Nat) : Txt.slice (mkS m) (some 1) none = mkS m.tail := by
  refine (mkS_eq.mpr ?_).symm
  rw [slice_codes, mkS_codes, mkS_len]
  cases m with
  | nil => rfl
  | cons c r =>
    have e1 : HT.sIx (c :: r).length 0 (some 1) = 1 := by unfold HT.sIx; simp
    have e2 : HT.sIx (c :: r).length (c :: r).length none = r.length + 1 := rfl
    rw [e1, e2]
    simp

/-- what is wanted of the class that refuses -/
structure Refuses (mg : Str → Option Value) (base : Heap) (x : Str) (C : Addr) : Prop where
  own : ∃ bm newId, PyProof.Rows.OwnCls x C bm newId mg base ∧ ∃ B initId, ExcBaseFacts B newId initId bm
theorem Refuses.at {P : Program} {w : World} {K : PySem.W.Frag} {mg : Str → Option Value} {base : Heap} {C : Addr} {x : Str} (R : Refuses mg base x C) (X : Cx) (h1 : X.mg = mg) (h2 : X.base = base) : Refuse X x C := by
  subst h1 h2
  exact ⟨R.own⟩
set_option maxHeartbeats 4000000 in
theorem ok_alone {C : Addr} (F : Fun K "alone" "alone" sAlone f fd) (R : Refuses mg base "NoKind" C) (ml : mg "len" = none) (mn : mg "int" = none) : FnOk P w K mg base (CXC P w C) 1 f fd ["mark"] (spAlone C) := by
  refine F.okX scAlone (fun vs H Q E h => ?_) (fun cdv A outer s H vs Q E hr own hfr h => ?_)
  · obtain ⟨m, rfl, _⟩ := h
    rfl
  obtain ⟨m, rfl, hl, has, hdg, q, qx⟩ := h
  have nd := scAlone.nd
  refine ⟨_, pss_cons (ps_if (pt_cmpR op_eq (pv 0) pe_str (nomark _)) (pss_one (ps_ret (pe_tup (pa_cons pe_str pa_nil)))) pss_nil)
    (pss_cons (ps_if (PW.pt (pw_or (pt_cmpR op_eq (pv 0) pe_str (nomark _)) (pw_or1 (PW.pt (pw_and (pt_cmpR op_gt (pe_callB call_len_str rfl ml PySem.boot_len (pa_cons (pv 0) pa_nil)) pe_int (nomark _)) (pw_and1 (pt_cmpR op_ne (pe_ix ix_str (pv 0) pe_int (fun _ _ => rfl)) pe_str (nomark _))))))))
      (pss_one (ps_ret (pe_tup (pa_cons pe_str (pa_cons (pe_callTy call_int_text rfl mn PyProof.Rows.boot_int (pa_cons (pe_slice sl_str (pv 0) (po_some pe_int) po_none) pa_nil)) pa_nil))))) pss_nil)
    (pss_one (ps_raise own ⟨R.own⟩ rfl rfl (pa_cons (pe_fr (pv 0) (by decide +kernel)) pa_nil)))), ?_⟩
  refine ⟨_, rfl, rfl, _, rfl, ?_⟩
  unfold aloneF at q qx
  by_cases h1 : m = [110]
  · refine ite2 (fun _ => ?_) fun z => absurd (by rw [decide_eq_true_eq]; exact mV_eq.mpr (h1.trans codes_n.symm)) z
    rw [if_pos h1] at q
    exact ⟨(by show 1 ≤ sizeLine; decide), fun p hp => q _ rfl _ _ (Same.new hp) ⟨p, rfl, upd_same⟩⟩
  · refine ite2 (fun z => absurd ((mV_eq.mp (by simpa using z)).trans codes_n) h1) fun _ => ?_
    rw [if_neg h1] at q qx
    have fin : (m = [63, 48] ∨ 1 < m.length ∧ m[1]? ≠ some 48) → 1 < m.length := fun z => by
      rcases z with rfl | ⟨z, _⟩
      · decide
      · exact z
    by_cases h2 : m = [63, 48] ∨ 1 < m.length ∧ m[1]? ≠ some 48
    · rw [if_pos h2] at q
      have hlen := fin h2
      have hint : PySem.intText? (mkS m.tail) = some ((digitsVal m.tail : Nat) : Int) := by
        have e := PySem.intText_digits (x := mkS m.tail) (by rw [mkS_codes]; intro c hc; have := hdg c hc; unfold isDig at this; simpa using this) (by rw [mkS_codes]; intro z; have := congrArg List.length z; simp at this; omega) (by rw [mkS_len]; simp; omega)
        rw [mkS_codes] at e
        exact e
      refine ⟨_, rfl, rfl, _, rfl, ?_⟩
      by_cases h3 : m = [63, 48]
      · refine ite2 (fun _ => ?_) fun z => absurd (by rw [decide_eq_true_eq]; exact mV_eq.mpr (h3.trans codes_q0.symm)) z
        refine ⟨_, rfl, _, rfl, mkS m, rfl, le_line (by rw [mkS_len]; omega), _, _, rfl, by rw [slice_tail]; exact hint, by rw [slice_tail, mkS_len]; simp; omega, (by show 2 ≤ sizeLine; decide), fun p hp => ?_⟩
        exact q _ rfl _ _ (Same.new hp) ⟨p, rfl, upd_same⟩
      · refine ite2 (fun z => absurd ((mV_eq.mp (by simpa using z)).trans codes_q0) h3) fun _ => ?_
        rcases h2 with z | ⟨h4, h5⟩
        · exact absurd z h3
        · refine ⟨_, rfl, mkS m, rfl, le_line (by rw [mkS_len]; omega), _, _, rfl, rfl, _, rfl, ?_⟩
          refine ite2 (fun _ => ?_) fun z => absurd (by rw [mkS_len]; simp; omega) z
          obtain ⟨c, hc⟩ : ∃ c, m[1]? = some c := ⟨m[1]'h4, List.getElem?_eq_getElem h4⟩
          refine ⟨_, rfl, mkS m, 1, c, rfl, rfl, le_line (by rw [mkS_len]; omega), atI_nat (j := 1) (by rw [mkS_codes]; exact hc), rfl, _, rfl, ?_⟩
          have hne : ¬ (V.str (⟨#[c]⟩ : Str) = V.str "0") := fun z => by
            have z' := (mV_eq (m := [c])).mp z
            rw [codes_0] at z'
            injection z' with z'
            subst z'
            exact h5 hc
          refine ite2 (fun _ => ?_) fun z => absurd (by simpa using hne) z
          refine ⟨_, rfl, _, rfl, mkS m, rfl, le_line (by rw [mkS_len]; omega), _, _, rfl, by rw [slice_tail]; exact hint, by rw [slice_tail, mkS_len]; simp; omega, (by show 2 ≤ sizeLine; decide), fun p hp => ?_⟩
          exact q _ rfl _ _ (Same.new hp) ⟨p, rfl, upd_same⟩
    · rw [if_neg h2] at qx
      refine ⟨_, rfl, rfl, _, rfl, ?_⟩
      have h3 : ¬ m = [63, 48] := fun z => h2 (.inl z)
      refine ite2 (fun z => absurd ((mV_eq.mp (by simpa using z)).trans codes_q0) h3) fun _ => ?_
      have l20 : (Str.ofString "no kind begins with ").length + (10 * (mkS m).length + 2) ≤ sizeLine := by
        have e : (Str.ofString "no kind begins with ").length = 20 := by decide +kernel
        rw [mkS_len, e]
        exact le_line (by omega)
      have c20 : ∀ c ∈ (mkS m).cps.toList, c < 16 ^ 8 := fun c hc => by
        rw [mkS_codes] at hc
        have := has c hc
        omega
      have fin2 : ∃ v, [some (mV m)][0]? = some (some v) ∧ ∃ y, v = .str y ∧ (∀ c ∈ y.cps.toList, c < 16 ^ 8) ∧ (Str.ofString "no kind begins with ").length + (10 * y.length + 2) ≤ sizeLine ∧ ∀ z, ([V.str z] : List V).length ≤ sizeLine ∧ E (.ref C) none H :=
        ⟨mV m, rfl, mkS m, rfl, c20, l20, fun z => ⟨by show 1 ≤ sizeLine; decide, qx rfl H (Same.refl H)⟩⟩
      refine ⟨_, rfl, mkS m, rfl, le_line (by rw [mkS_len]; omega), _, _, rfl, rfl, _, rfl, ?_⟩
      by_cases h4 : 1 < m.length
      · refine ite2 (fun _ => ?_) fun z => absurd (by rw [mkS_len]; simp; omega) z
        obtain ⟨c, hc⟩ : ∃ c, m[1]? = some c := ⟨m[1]'h4, List.getElem?_eq_getElem h4⟩
        have ec : c = 48 := by
          by_cases z : c = 48
          · exact z
          · exact absurd (Or.inr ⟨h4, by rw [hc]; simpa using z⟩) h2
        refine ⟨_, rfl, mkS m, 1, c, rfl, rfl, le_line (by rw [mkS_len]; omega), atI_nat (j := 1) (by rw [mkS_codes]; exact hc), rfl, _, rfl, ?_⟩
        have hz : V.str (⟨#[c]⟩ : Str) = V.str "0" := (mV_eq (m := [c])).mpr (by rw [codes_0, ec])
        refine ite2 (fun z => absurd z (by simpa using hz)) fun _ => ?_
        exact fin2
      · refine ite2 (fun z => absurd z (by rw [mkS_len]; simp; omega)) fun _ => ?_
        exact fin2
/-! ### read -/
abbrev hds : List (Key × V) := [(Sum.inr ",", .str "pair"), (Sum.inr ">", .str "to")]
theorem codes_lp : (Str.ofString "(").cps.toList = [40] := by decide +kernel
theorem codes_rp : (Str.ofString ")").cps.toList = [41] := by decide +kernel
theorem codes_c : (Str.ofString ",").cps.toList = [44] := by decide +kernel
theorem codes_g : (Str.ofString ">").cps.toList = [62] := by decide +kernel
theorem valV_hds (m : List Nat) : valV hds (Sum.inr (mkS m)) = if m = [44] then some (.str (tag false)) else if m = [62] then some (.str (tag true)) else none := by
  by_cases h1 : m = [44]
  · subst h1
    rw [if_pos rfl]
    have e : mkS [44] = "," := mkS_eq.mpr codes_c.symm
    rw [e]
    decide +kernel
  · rw [if_neg h1]
    by_cases h2 : m = [62]
    · subst h2
      rw [if_pos rfl]
      have e : mkS [62] = ">" := mkS_eq.mpr codes_g.symm
      rw [e]
      decide +kernel
    · rw [if_neg h2]
      have a1 : ¬ ((Sum.inr (Str.ofString ",") : Key) = Sum.inr (mkS m)) := fun z => h1 ((mkS_eq.mp (Sum.inr.inj z).symm).trans codes_c)
      have a2 : ¬ ((Sum.inr (Str.ofString ">") : Key) = Sum.inr (mkS m)) := fun z => h2 ((mkS_eq.mp (Sum.inr.inj z).symm).trans codes_g)
      simp [valV, hds, a1, a2]
/-- what is around: None, or the head and the first kind -/
def AAt (H : Hp) (v : V) : Option (Bool × Kd) → Prop
  | none => v = .non
  | some (f, a) => ∃ p x, v = .ref p ∧ H p = some (.tup [.str (tag f), x]) ∧ KAt H x a
theorem AAt.mono {H H' : Hp} (t : Tk H H') {v : V} {o : Option (Bool × Kd)} (h : AAt H v o) : AAt H' v o := by
  cases o with
  | none => exact h
  | some q => obtain ⟨p, x, e, hp, hx⟩ := h; exact ⟨p, x, e, t _ _ hp, hx.mono t⟩
abbrev As (H : Hp) : List V → List (Option (Bool × Kd)) → Prop := Paired (AAt H)
theorem As.mono {H H' : Hp} (t : Tk H H') {vs : List V} {ks : List (Option (Bool × Kd))} (h : As H vs ks) : As H' vs ks := Paired.imp' (fun _ _ q => q.mono t) h
def KO (H : Hp) (v : V) : Option Kd → Prop
  | none => v = .non
  | some k => KAt H v k
theorem KO.mono {H H' : Hp} (t : Tk H H') {v : V} {o : Option Kd} (h : KO H v o) : KO H' v o := by
  cases o with
  | none => exact h
  | some k => exact KAt.mono t h
theorem KAt.non {H : Hp} {k : Kd} (h : KAt H .non k) : False := by obtain ⟨p, xs, e, _⟩ := h.shape; cases e
theorem scRead : FnScope ["line", "around", "kind", "mark"] ["line"] (defScope sRead) := ⟨rfl, rfl, rfl, by decide +kernel, rfl, by decide +kernel, by decide +kernel⟩
/-- read: the kind, or the refusal -/
def spRead (C : Addr) : Sp := fun vs H Q E => ∃ x, vs = [.str x] ∧ x.cps.all (· < 128) = true ∧ x.length ≤ 100000 ∧ (∀ m ∈ marksF x.cps.toList, m.length ≤ 600) ∧ (∀ k, readF x.cps.toList = some k → ∀ v H', Same H H' → KAt H' v k → Q v H') ∧ (readF x.cps.toList = none → ∀ H', Same H H' → E (.ref C) none H')
set_option maxHeartbeats 8000000 in
theorem ok_read {C : Addr} (F : Fun K "read" "read" sRead f fd) (R : Refuses mg base "NoKind" C) (kd : KD P w K aH hds) (mH : mg "HEADS" = some (.ref aH))
    (GM : FnOk P w K mg base CX0 1 aM dM ["line"] spMarks) (bM : Binds K dM ["line"] []) (kM : PySem.W.keepIn K (.ref aM) = true) (mM : mg "marks" = some (.ref aM))
    (GA : FnOk P w K mg base (CXC P w C) 1 aA dA ["mark"] (spAlone C)) (bA : Binds K dA ["mark"] []) (kA : PySem.W.keepIn K (.ref aA) = true) (mA : mg "alone" = some (.ref aA)) : FnOk P w K mg base (CXC P w C) 2 f fd ["line"] (spRead C) := by
  refine F.okX scRead (fun vs H Q E h => ?_) (fun cdv A outer s H vs Q E hr own hfr h => ?_)
  · obtain ⟨x, rfl, _⟩ := h
    rfl
  obtain ⟨x, rfl, hasc, hxl, hm6, q, qx⟩ := h
  have nd := scRead.nd
  have hps := Station.passes (C := C) (E := E) own hfr
  refine ⟨_, pss_cons (ps_set (i := 1) nd rfl (Or.inl rfl) (pe_lst pa_nil))
    (pss_cons (ps_set (i := 2) nd rfl (Or.inl rfl) pe_non)
    (pss_cons (ps_for hps rfl (pi_list (pe_call GM hr rfl mM kM bM .nil pass0 (pa_cons (pv 0) pa_nil))) (pg_name (i := 3) nd rfl (Or.inl rfl))
      (pss_one (ps_if (PW.pt (pw_and (pt_cmpR op_isN (pv 2) pe_non (nomark _)) (pw_and1 (pt_cmpR op_eq (pv 3) pe_str (nomark _)))))
        (pss_one (ps_expr (pe_bm PySem.F.plainAttrs_list PySem.F.slot_list_append PySem.F.type_list_append mt_append (pv 1) (pa_cons pe_non pa_nil))))
        (pss_one (ps_if (pt_cmpR op_isN (pv 2) pe_non (nomark _))
          (pss_one (ps_set (i := 2) nd rfl (Or.inl rfl) (pe_call GA hr rfl mA kA bA .nil (passC own) (pa_cons (pv 3) pa_nil))))
          (pss_one (ps_if (PW.pt (pw_and (pt_cmp (pc_kin kd rfl mH (pv 3)) (by with_unfolding_all rfl)) (pw_and (pt_truth (pv 1) (fun _ => rfl)) (pw_and1 (pt_cmpR op_isN (pe_ix ix_list (pv 1) (pe_un un_neg pe_int) (fun _ _ => rfl)) pe_non (nomark _))))))
            (pss_cons (ps_asg (pe_tup (pa_cons (pe_kget kd rfl mH (pv 3) (fun _ _ => rfl)) (pa_cons (pv 2) pa_nil))) (pg_sub (pv 1) (pe_un un_neg pe_int) set_list))
              (pss_one (ps_set (i := 2) nd rfl (Or.inl rfl) pe_non)))
            (pss_one (ps_if (PW.pt (pw_and (pt_cmpR op_eq (pv 3) pe_str (nomark _)) (pw_and (pt_truth (pv 1) (fun _ => rfl)) (pw_and1 (pt_cmpR op_notN (pe_ix ix_list (pv 1) (pe_un un_neg pe_int) (fun _ _ => rfl)) pe_non (nomark _))))))
              (pss_one (ps_set (i := 2) nd rfl (Or.inl rfl) (pe_op op_catT (pe_bm0 PySem.F.plainAttrs_list PySem.F.slot_list_pop PySem.F.type_list_pop mt_pop (pv 1)) (pe_tup (pa_cons (pv 2) pa_nil)))))
              (pss_one (ps_raise own ⟨R.own⟩ rfl rfl (pa_cons (pe_fr (pv 3) (by decide +kernel)) pa_nil))))))))))))
    (pss_cons (ps_if (PW.pt (pw_or (pt_cmpR op_isN (pv 2) pe_non (nomark _)) (pw_or1 (pt_truth (pv 1) (fun _ => rfl))))) (pss_one (ps_raise own ⟨R.own⟩ rfl rfl (pa_cons pe_str pa_nil))) pss_nil)
    (pss_one (ps_ret (pv 2)))))), ?_⟩
  refine ⟨Nat.zero_le _, fun la hla => ?_⟩
  refine ⟨_, rfl, x, rfl, hasc, hxl, fun lm Hm SM hlm0 hlm => ?_⟩
  have hml := marksF_length x.cps.toList
  have hmt := marksF_tail x.cps.toList
  have hmc : ∀ m ∈ marksF x.cps.toList, ∀ c ∈ m, c < 128 := fun m hm c hc => by
    have z := marks_in hm c hc
    rw [← Array.all_toList, List.all_eq_true] at hasc
    exact of_decide_eq_true (hasc c z)
  have hxl' : x.cps.toList.length ≤ 100000 := by rw [← str_len]; exact hxl
  have qe : readF x.cps.toList = match rrun ([], none) (marksF x.cps.toList) with | some ([], some k) => some k | _ => none := rfl
  rw [qe] at q qx
  generalize marksF x.cps.toList = ms at hlm hml hmt hmc hm6 q qx
  have bad : ∀ H2, rrun ([], none) ms = none → Same H H2 → E (.ref C) none H2 := fun H2 z S2 => by rw [z] at qx; exact qx rfl H2 S2
  have hne : la ≠ lm := fun z => by rw [z, upd_same] at hlm0; cases hlm0
  have S0 : Same H Hm := (Same.new hla).trans SM
  have hA0 : Hm la = some (.lst []) := SM _ _ upd_same
  have hlmH : H lm = none := (Same.new hla).free hlm0
  refine ⟨lm, rfl, ⟨_, SqL.of hlm⟩, for_list (xs := ms.map mV) (fun i σ H1 => ∃ mk ar ks kv ko, σ = [some (.str x), some (.ref la), some kv, mk] ∧ Same H H1 ∧ H1 lm = some (.lst (ms.map mV)) ∧ H1 la = some (.lst ar) ∧ As H1 ar ks ∧ KO H1 kv ko ∧ rrun (ks, ko) (ms.drop i) = rrun ([], none) ms ∧ ar.length ≤ i)
    ⟨none, [], [], .non, none, rfl, S0, hlm, hA0, .nil, rfl, by rw [List.drop_zero], Nat.le_refl _⟩ (fun i σ H1 hi ⟨_, _, _, _, _, _, _, hL, _⟩ => SqL.of hL) (fun i v σ H1 hv hP => ?_) (fun σ H1 hP => ?_)⟩
  · obtain ⟨mk, ar, ks, kv, ko, rfl, hS, hL, hA, kA', kK, hR, hl⟩ := hP
    obtain ⟨m, hm, rfl⟩ : ∃ m, ms[i]? = some m ∧ v = mV m := by
      rw [List.getElem?_map] at hv
      cases e : ms[i]? with
      | none => rw [e] at hv; cases hv
      | some m => rw [e] at hv; exact ⟨m, rfl, (Option.some.inj hv).symm⟩
    have hi : i < ms.length := (List.getElem?_eq_some_iff.mp hm).1
    have hdr : ms.drop i = m :: ms.drop (i + 1) := by
      rw [List.drop_eq_getElem_cons hi]
      congr 1
      exact (List.getElem?_eq_some_iff.mp hm).2
    have hmm : m ∈ ms := List.mem_of_getElem? hm
    rw [hdr] at hR
    have hR' : (rstep (ks, ko) m).bind (fun st' => rrun st' (ms.drop (i + 1))) = rrun ([], none) ms := hR
    have none_bad : rstep (ks, ko) m = none → ∀ H2, Same H H2 → E (.ref C) none H2 := fun z H2 S2 => bad H2 (by rw [← hR', z]; rfl) S2
    have some_go : ∀ st, rstep (ks, ko) m = some st → rrun st (ms.drop (i + 1)) = rrun ([], none) ms := fun st z => by rw [← hR', z]; rfl
    have raise : rstep (ks, ko) m = none → ∃ v, [some (V.str x), some (.ref la), some kv, some (mV m)][3]? = some (some v) ∧ ∃ y, v = .str y ∧ (∀ c ∈ y.cps.toList, c < 16 ^ 8) ∧ (Str.ofString "no kind goes on with ").length + (10 * y.length + 2) ≤ sizeLine ∧ ∀ z, ([V.str z] : List V).length ≤ sizeLine ∧ E (.ref C) none H1 := fun z =>
      ⟨mV m, rfl, mkS m, rfl, fun c hc => by rw [mkS_codes] at hc; have := hmc m hmm c hc; omega, by
        have e : (Str.ofString "no kind goes on with ").length = 21 := by decide +kernel
        have := hm6 m hmm
        rw [mkS_len, e]; exact le_line (by omega), fun _ => ⟨by show 1 ≤ sizeLine; decide, none_bad z H1 hS⟩⟩
    have hroom : ar.length < sizeLine := lt_line (by omega)
    cases ko with
    | none =>
      have ekv : kv = .non := kK
      subst ekv
      refine ⟨_, rfl, rfl, _, rfl, iteT ?_⟩
      refine ⟨_, rfl, rfl, _, rfl, ?_⟩
      by_cases h1 : m = [40]
      · refine ite2 (fun _ => ?_) fun z => absurd (by rw [decide_eq_true_eq]; exact mV_eq.mpr (h1.trans codes_lp.symm)) z
        have hR := some_go (ks ++ [none], none) (by simp only [rstep, if_pos h1])
        refine ⟨_, rfl, .inl ⟨rfl, _, SqL.of hA⟩, la, _, _, rfl, rfl, hA, hroom, ?_⟩
        have tk : Tk H1 (upd H1 la (.lst (ar ++ [.non]))) := Tk.lst hA
        exact ⟨_, ar ++ [.non], ks ++ [none], .non, none, rfl, hS.upd hla, by rw [upd_ne (Ne.symm hne)]; exact hL, upd_same, paired_app (As.mono tk kA') (.cons (show AAt _ V.non none from rfl) .nil), rfl, hR, by simp; omega⟩
      · refine ite2 (fun z => absurd ((mV_eq.mp (by simpa using z)).trans codes_lp) h1) fun _ => ?_
        refine ⟨_, rfl, rfl, _, rfl, iteT ?_⟩
        refine ⟨_, rfl, m, rfl, hm6 m hmm, hmc m hmm, hmt m hmm, fun k1 hk1 v2 H2 S2 kv2 => ?_, fun hk0 H2 S2 => ?_⟩
        · have hR := some_go (ks, some k1) (by simp only [rstep, if_neg h1, hk1]; rfl)
          exact ⟨_, ar, ks, v2, some k1, rfl, hS.trans S2, S2 _ _ hL, S2 _ _ hA, As.mono S2.tk kA', kv2, hR, by omega⟩
        · exact none_bad (by simp only [rstep, if_neg h1, hk0]; rfl) H2 (hS.trans S2)
    | some k1 =>
      have kK1 : KAt H1 kv k1 := kK
      obtain ⟨pk, xk, rfl, hpk, _⟩ := kK1.shape
      refine ⟨_, rfl, rfl, _, rfl, iteF ?_⟩
      refine ⟨_, rfl, rfl, _, rfl, iteF ?_⟩
      refine ⟨_, rfl, Sum.inr (mkS m), rfl, _, rfl, ?_⟩
      by_cases h1 : m = [44] ∨ m = [62]
      · have hval : valV hds (Sum.inr (mkS m)) = some (.str (tag (decide (m = [62])))) := by
          rw [valV_hds]
          rcases h1 with rfl | rfl
          · rfl
          · rfl
        have hsome : (valV hds (Sum.inr (mkS m))).isSome = true := by rw [hval]; rfl
        refine iteB hsome ?_
        have h41 : m ≠ [41] := by rcases h1 with rfl | rfl <;> decide
        by_cases h2 : ks.getLast? = some none
        · obtain ⟨ks', rfl⟩ := List.getLast?_eq_some_iff.mp h2
          obtain ⟨ar', y, rfl, kAr, ky⟩ := paired_snoc_inv kA'
          have ey : y = .non := ky
          subst ey
          have hR := some_go (ks' ++ [some (decide (m = [62]), k1)], none) (by simp only [rstep, if_pos (And.intro h1 h2), List.dropLast_concat])
          refine ⟨_, rfl, _, .inl ⟨_, SqL.of hA, rfl⟩, iteB (by simp) ?_⟩
          refine ⟨_, rfl, _, rfl, la, _, _, .non, rfl, rfl, SqL.of hA, atI_last _ _, rfl, _, rfl, iteT ?_⟩
          refine ⟨_, rfl, Sum.inr (mkS m), _, rfl, hval, _, rfl, (by show 2 ≤ sizeLine; decide), fun tp htp => ?_⟩
          have S2 : Same H1 (upd H1 tp (.tup [.str (tag (decide (m = [62]))), .ref pk])) := Same.new htp
          have hA2 := S2 _ _ hA
          refine ⟨_, rfl, _, rfl, la, _, _, ar'.length, rfl, rfl, hA2, ix_last _ _, ?_⟩
          have hset : (ar' ++ [V.non]).set ar'.length (.ref tp) = ar' ++ [.ref tp] := by rw [List.set_append_right _ _ (Nat.le_refl _)]; simp
          rw [hset]
          have tk : Tk H1 (upd (upd H1 tp (.tup [.str (tag (decide (m = [62]))), .ref pk])) la (.lst (ar' ++ [.ref tp]))) := S2.tk.trans (Tk.lst hA2)
          refine ⟨_, ar' ++ [.ref tp], ks' ++ [some (decide (m = [62]), k1)], .non, none, rfl, (hS.trans S2).upd hla, by rw [upd_ne (Ne.symm hne)]; exact S2 _ _ hL, upd_same, paired_app (As.mono tk kAr) (.cons ⟨tp, .ref pk, rfl, ?_, kK1.mono tk⟩ .nil), rfl, hR, by simp at hl ⊢; omega⟩
          rw [upd_ne (fun z => by rw [z] at htp; rw [htp] at hA; cases hA)]
          exact upd_same
        · have hno : rstep (ks, some k1) m = none := by simp only [rstep, if_neg (fun z : (m = [44] ∨ m = [62]) ∧ ks.getLast? = some none => h2 z.2), if_neg h41]
          rcases List.eq_nil_or_concat ks with rfl | ⟨ks', o', rfl⟩
          · cases kA'
            refine ⟨_, rfl, _, .inl ⟨_, SqL.of hA, rfl⟩, iteF ?_⟩
            refine ⟨_, rfl, rfl, _, rfl, ?_⟩
            refine ite2 (fun z => absurd ((mV_eq.mp (by simpa using z)).trans codes_rp) h41) fun _ => ?_
            exact raise hno
          · rw [List.concat_eq_append] at kA' hno h2 hR' none_bad raise some_go
            obtain ⟨ar', y, rfl, kAr, ky⟩ := paired_snoc_inv kA'
            refine ⟨_, rfl, _, .inl ⟨_, SqL.of hA, rfl⟩, iteB (by simp) ?_⟩
            refine ⟨_, rfl, _, rfl, la, _, _, y, rfl, rfl, SqL.of hA, atI_last _ _, rfl, _, rfl, ?_⟩
            have hy : y ≠ .non := fun z => by
              cases o' with
              | none => exact h2 (by simp)
              | some fa => obtain ⟨p9, x9, e9, _⟩ := ky; rw [z] at e9; cases e9
            refine ite2 (fun z => absurd (by simpa using z) hy) fun _ => ?_
            refine ⟨_, rfl, rfl, _, rfl, ?_⟩
            refine ite2 (fun z => absurd ((mV_eq.mp (by simpa using z)).trans codes_rp) h41) fun _ => ?_
            exact raise hno
      · have hval : valV hds (Sum.inr (mkS m)) = none := by
          rw [valV_hds, if_neg (fun z => h1 (.inl z)), if_neg (fun z => h1 (.inr z))]
        refine iteF' (by rw [hval]; rfl) ?_
        by_cases h41 : m = [41]
        · refine ⟨_, rfl, rfl, _, rfl, ?_⟩
          refine ite2 (fun _ => ?_) fun z => absurd (by rw [decide_eq_true_eq]; exact mV_eq.mpr (h41.trans codes_rp.symm)) z
          rcases List.eq_nil_or_concat ks with rfl | ⟨ks', o', rfl⟩
          · cases kA'
            refine ⟨_, rfl, _, .inl ⟨_, SqL.of hA, rfl⟩, iteF ?_⟩
            exact raise (by rw [rstep_41 h1 h41]; rfl)
          · rw [List.concat_eq_append] at kA' hR' none_bad raise some_go
            obtain ⟨ar', y, rfl, kAr, ky⟩ := paired_snoc_inv kA'
            refine ⟨_, rfl, _, .inl ⟨_, SqL.of hA, rfl⟩, iteB (by simp) ?_⟩
            refine ⟨_, rfl, _, rfl, la, _, _, y, rfl, rfl, SqL.of hA, atI_last _ _, rfl, _, rfl, ?_⟩
            cases o' with
            | none =>
              have ey : y = .non := ky
              subst ey
              refine iteF ?_
              exact raise (by rw [rstep_41 h1 h41]; simp)
            | some fa =>
              obtain ⟨f1, a1⟩ := fa
              have hR := some_go (ks', some (.two f1 a1 k1)) (by rw [rstep_41 h1 h41]; simp)
              obtain ⟨py, xy, rfl, hpy, kxy⟩ := ky
              refine iteT ?_
              refine ⟨_, rfl, .inl ⟨rfl, _, SqL.of hA⟩, la, _, .ref py, rfl, rfl, hA, by simp, ?_⟩
              rw [List.dropLast_concat]
              have tk1 : Tk H1 (upd H1 la (.lst ar')) := Tk.lst hA
              refine ⟨_, rfl, (by show 1 ≤ sizeLine; decide), fun t1 ht1 => ?_⟩
              have tk2 : Tk H1 (upd (upd H1 la (.lst ar')) t1 (.tup [.ref pk])) := tk1.trans (Tk.new ht1)
              refine ⟨py, t1, _, _, rfl, rfl, SqT.of (tk2 _ _ hpy), SqT.of upd_same, by simp, (by show 3 ≤ sizeLine; decide), fun z => absurd z (by simp), fun _ p2 hp2 => ?_⟩
              have tk3 : Tk H1 (upd (upd (upd H1 la (.lst ar')) t1 (.tup [.ref pk])) p2 (.tup ([.str (tag f1), xy] ++ [.ref pk]))) := tk2.trans (Tk.new hp2)
              have hA1 : upd H1 la (.lst ar') la = some (.lst ar') := upd_same
              have S1 : Same H (upd H1 la (.lst ar')) := hS.upd hla
              have S2 : Same (upd H1 la (.lst ar')) (upd (upd (upd H1 la (.lst ar')) t1 (.tup [.ref pk])) p2 (.tup ([.str (tag f1), xy] ++ [.ref pk]))) := (Same.new ht1).trans (Same.new hp2)
              exact ⟨_, ar', ks', .ref p2, some (.two f1 a1 k1), rfl, S1.trans S2, S2 _ _ (by rw [upd_ne (Ne.symm hne)]; exact hL), S2 _ _ hA1, As.mono tk3 kAr, ⟨p2, xy, .ref pk, rfl, upd_same, kxy.mono tk3, kK1.mono tk3⟩, hR, by simp at hl; omega⟩
        · refine ⟨_, rfl, rfl, _, rfl, ?_⟩
          refine ite2 (fun z => absurd ((mV_eq.mp (by simpa using z)).trans codes_rp) h41) fun _ => ?_
          exact raise (by simp only [rstep, if_neg (fun z : (m = [44] ∨ m = [62]) ∧ ks.getLast? = some none => h1 z.1), if_neg h41])
  · obtain ⟨mk, ar, ks, kv, ko, rfl, hS, hL, hA, kA', kK, hR, hl⟩ := hP
    rw [List.length_map, List.drop_length] at hR
    have hR : some (ks, ko) = rrun ([], none) ms := hR
    rw [← hR] at q qx
    cases ko with
    | none =>
      have ekv : kv = .non := kK
      subst ekv
      refine ⟨_, rfl, rfl, _, rfl, iteT ?_⟩
      refine ⟨by show 1 ≤ sizeLine; decide, ?_⟩
      cases ks with
      | nil => exact qx rfl H1 hS
      | cons a b => exact qx rfl H1 hS
    | some k1 =>
      have kK1 : KAt H1 kv k1 := kK
      obtain ⟨pk, xk, rfl, hpk, _⟩ := kK1.shape
      refine ⟨_, rfl, rfl, _, rfl, iteF ?_⟩
      refine ⟨_, rfl, _, .inl ⟨_, SqL.of hA, rfl⟩, ?_⟩
      cases kA' with
      | nil => exact iteF ⟨_, rfl, q k1 rfl _ H1 hS kK1⟩
      | cons a b => exact iteT ⟨by show 1 ≤ sizeLine; decide, qx rfl H1 hS⟩
end
end K1

set_option Elab.async false
namespace Wk
/-! ### which texts of marks come to one K -/
abbrev QS := List Bool × Bool
def qstep : QS → Nat → Option QS
  | (st, false), c => if c = 40 then some (false :: st, false) else if c = 75 then some (st, true) else none
  | (false :: st, true), c => if c = 44 ∨ c = 62 then some (true :: st, false) else none
  | (true :: st, true), c => if c = 41 then some (st, true) else none
  | ([], true), _ => none
def qrun : QS → List Nat → Option QS
  | s, [] => some s
  | s, c :: l => (qstep s c).bind fun s' => qrun s' l
theorem qrun_app : ∀ (a b : List Nat) (s : QS), qrun s (a ++ b) = (qrun s a).bind fun s' => qrun s' b
  | [], b, s => rfl
  | c :: a, b, s => by
    show (qstep s c).bind (fun s' => qrun s' (a ++ b)) = ((qstep s c).bind fun s' => qrun s' a).bind fun s' => qrun s' b
    cases qstep s c with
    | none => rfl
    | some s' => exact qrun_app a b s'
def acc (l : List Nat) : Bool := decide (qrun ([], false) l = some ([], true))
def KcK (c : Nat) : List Nat := [40, 75, c, 75, 41]
theorem qrun_KcK {c : Nat} (hc : c = 44 ∨ c = 62) (s : QS) : qrun s (KcK c) = qrun s [75] := by
  obtain ⟨st, b⟩ := s
  cases b with
  | false =>
    simp [KcK, qrun, qstep, hc]
  | true =>
    cases st with
    | nil => rfl
    | cons x st => cases x <;> simp [KcK, qrun, qstep]
/-- parts with a text between -/
def glue (z : List Nat) : List (List Nat) → List Nat
  | [] => []
  | [p] => p
  | p :: q :: r => p ++ z ++ glue z (q :: r)
theorem qrun_glue {y z : List Nat} (h : ∀ s, qrun s y = qrun s z) : ∀ (ps : List (List Nat)) (s : QS), qrun s (glue y ps) = qrun s (glue z ps)
  | [], s => rfl
  | [p], s => rfl
  | p :: q :: r, s => by
    show qrun s (p ++ y ++ glue y (q :: r)) = qrun s (p ++ z ++ glue z (q :: r))
    rw [qrun_app, qrun_app, qrun_app, qrun_app]
    cases qrun s p with
    | none => rfl
    | some s1 =>
      show ((qrun s1 y).bind _) = ((qrun s1 z).bind _)
      rw [h s1]
      cases qrun s1 z with
      | none => rfl
      | some s2 => exact qrun_glue h (q :: r) s2
theorem acc_glue {c : Nat} (hc : c = 44 ∨ c = 62) (ps : List (List Nat)) : acc (glue (KcK c) ps) = acc (glue [75] ps) := by
  unfold acc
  rw [qrun_glue (qrun_KcK hc) ps]
theorem glue_length (z : List Nat) : ∀ ps : List (List Nat), ps ≠ [] → (glue z ps).length = (ps.map List.length).sum + (ps.length - 1) * z.length
  | [], h => absurd rfl h
  | [p], _ => by simp [glue]
  | p :: q :: r, _ => by
    have ih := glue_length z (q :: r) (by simp)
    simp only [glue, List.length_append, ih, List.map_cons, List.sum_cons, List.length_cons]
    have e : (r.length + 1 + 1 - 1) * z.length = (r.length + 1 - 1) * z.length + z.length := by
      rw [show r.length + 1 + 1 - 1 = (r.length + 1 - 1) + 1 by omega, Nat.add_mul, Nat.one_mul]
    omega
/-! ### trees -/
inductive Sh where
  | leaf
  | node (f : Bool) (a b : Sh)
def sgn (f : Bool) : Nat := if f then 62 else 44
theorem sgn_or (f : Bool) : sgn f = 44 ∨ sgn f = 62 := by cases f <;> simp [sgn]
def tline : Sh → List Nat
  | .leaf => [75]
  | .node f a b => 40 :: (tline a ++ (sgn f :: (tline b ++ [41])))
abbrev TS' := List (Option (Bool × Sh)) × Option Sh
def absT (s : TS') : QS := (s.1.map Option.isSome, s.2.isSome)
def ttext : List (Option (Bool × Sh)) → List Nat
  | [] => []
  | none :: r => ttext r ++ [40]
  | some (f, a) :: r => ttext r ++ (40 :: (tline a ++ [sgn f]))
def ktext : Option Sh → List Nat
  | none => []
  | some t => tline t
def text (s : TS') : List Nat := ttext s.1 ++ ktext s.2
theorem step_text {s : TS'} {c : Nat} {q : QS} (h : qstep (absT s) c = some q) : ∃ s' : TS', absT s' = q ∧ text s' = text s ++ [c] := by
  obtain ⟨ar, k⟩ := s
  cases k with
  | none =>
    have h' : (if c = 40 then some (false :: ar.map Option.isSome, false) else if c = 75 then some (ar.map Option.isSome, true) else none) = some q := h
    by_cases h1 : c = 40
    · rw [if_pos h1] at h'
      cases h'
      exact ⟨(none :: ar, none), rfl, by simp [text, ttext, ktext, h1]⟩
    · rw [if_neg h1] at h'
      by_cases h2 : c = 75
      · rw [if_pos h2] at h'
        cases h'
        exact ⟨(ar, some .leaf), rfl, by simp [text, ktext, tline, h2]⟩
      · rw [if_neg h2] at h'; cases h'
  | some t =>
    cases ar with
    | nil => cases h
    | cons o r =>
      cases o with
      | none =>
        have h' : (if c = 44 ∨ c = 62 then some (true :: r.map Option.isSome, false) else none) = some q := h
        by_cases h1 : c = 44 ∨ c = 62
        · rw [if_pos h1] at h'
          cases h'
          refine ⟨(some (decide (c = 62), t) :: r, none), rfl, ?_⟩
          have e : sgn (decide (c = 62)) = c := by
            rcases h1 with rfl | rfl <;> rfl
          simp [text, ttext, ktext, e]
        · rw [if_neg h1] at h'; cases h'
      | some fa =>
        obtain ⟨f, a⟩ := fa
        have h' : (if c = 41 then some (r.map Option.isSome, true) else none) = some q := h
        by_cases h1 : c = 41
        · rw [if_pos h1] at h'
          cases h'
          exact ⟨(r, some (.node f a t)), rfl, by simp [text, ttext, ktext, tline, h1]⟩
        · rw [if_neg h1] at h'; cases h'
theorem run_text : ∀ (l : List Nat) (s : TS') (q : QS), qrun (absT s) l = some q → ∃ s' : TS', absT s' = q ∧ text s' = text s ++ l
  | [], s, q, h => ⟨s, Option.some.inj h, by simp⟩
  | c :: l, s, q, h => by
    have h' : (qstep (absT s) c).bind (fun s' => qrun s' l) = some q := h
    cases e : qstep (absT s) c with
    | none => rw [e] at h'; cases h'
    | some q1 =>
      rw [e] at h'
      obtain ⟨s1, a1, t1⟩ := step_text e
      obtain ⟨s2, a2, t2⟩ := run_text l s1 q (by rw [a1]; exact h')
      exact ⟨s2, a2, by rw [t2, t1]; simp⟩
theorem acc_tree {l : List Nat} (h : acc l = true) : ∃ t, l = tline t := by
  have h' : qrun (absT ([], none)) l = some ([], true) := of_decide_eq_true h
  obtain ⟨⟨ar, k⟩, a, t⟩ := run_text l _ _ h'
  have e1 : ar = [] := by
    have : ar.map Option.isSome = [] := congrArg Prod.fst a
    exact List.map_eq_nil_iff.mp this
  subst e1
  cases k with
  | none => have : false = true := congrArg Prod.snd a; cases this
  | some t' =>
    refine ⟨t', ?_⟩
    have : text ([], some t') = text ([], none) ++ l := t
    simpa [text, ttext, ktext] using this.symm
theorem tree_acc (t : Sh) : ∀ (st : List Bool), qrun (st, false) (tline t) = some (st, true) := by
  induction t with
  | leaf => intro st; rfl
  | node f a b iha ihb =>
    intro st
    show qrun (false :: st, false) (tline a ++ (sgn f :: (tline b ++ [41]))) = _
    rw [qrun_app, iha]
    show (qstep (false :: st, true) (sgn f)).bind _ = _
    have e : qstep (false :: st, true) (sgn f) = some (true :: st, false) := by
      show (if sgn f = 44 ∨ sgn f = 62 then _ else _) = _
      rw [if_pos (sgn_or f)]
    rw [e]
    show qrun (true :: st, false) (tline b ++ [41]) = _
    rw [qrun_app, ihb]
    rfl
/-- a tree that isn't a leaf has two leaves side by side -/
theorem tree_has : ∀ (t : Sh), (∃ f a b, t = .node f a b) → ∃ u v f, tline t = u ++ (KcK (sgn f) ++ v)
  | .leaf, h => by obtain ⟨f, a, b, e⟩ := h; cases e
  | .node f a b, _ => by
    cases a with
    | node f1 a1 b1 =>
      obtain ⟨u, v, g, e⟩ := tree_has (.node f1 a1 b1) ⟨_, _, _, rfl⟩
      exact ⟨40 :: u, v ++ (sgn f :: (tline b ++ [41])), g, by show 40 :: (tline (.node f1 a1 b1) ++ _) = _; rw [e]; simp⟩
    | leaf =>
      cases b with
      | node f1 a1 b1 =>
        obtain ⟨u, v, g, e⟩ := tree_has (.node f1 a1 b1) ⟨_, _, _, rfl⟩
        exact ⟨40 :: 75 :: sgn f :: u, v ++ [41], g, by show 40 :: ([75] ++ (sgn f :: (tline (.node f1 a1 b1) ++ [41]))) = _; rw [e]; simp⟩
      | leaf => exact ⟨[], [], f, rfl⟩
theorem acc_end {l : List Nat} (h : acc l = true) (hn : ∀ c, c = 44 ∨ c = 62 → ¬ ∃ u v, l = u ++ (KcK c ++ v)) : l = [75] := by
  obtain ⟨t, rfl⟩ := acc_tree h
  cases t with
  | leaf => rfl
  | node f a b =>
    obtain ⟨u, v, g, e⟩ := tree_has (.node f a b) ⟨_, _, _, rfl⟩
    exact absurd ⟨u, v, e⟩ (hn (sgn g) (sgn_or g))
theorem acc_K : acc [75] = true := rfl
theorem acc_pos {l : List Nat} (h : acc l = true) : 0 < l.length := by
  cases l with
  | nil => cases h
  | cons c r => simp
/-- a round: it keeps acc; where the length stays, nothing was there to be put -/
structure Rd1 (R : List Nat → List Nat) : Prop where
  keep : ∀ l, acc (R l) = acc l
  less : ∀ l, (R l).length ≤ l.length
  same : ∀ l, (R l).length = l.length → R l = l ∧ ∀ c, c = 44 ∨ c = 62 → ¬ ∃ u v, l = u ++ (KcK c ++ v)
def iter (R : List Nat → List Nat) : Nat → List Nat → List Nat
  | 0, l => l
  | n + 1, l => R (iter R n l)
theorem iter_acc {R : List Nat → List Nat} (h : Rd1 R) (l : List Nat) : ∀ n, acc (iter R n l) = acc l
  | 0 => rfl
  | n + 1 => by show acc (R (iter R n l)) = _; rw [h.keep, iter_acc h l n]
theorem iter_len {R : List Nat → List Nat} (h : Rd1 R) (l : List Nat) : ∀ n, (iter R n l).length + n ≤ l.length ∨ (R (iter R n l) = iter R n l ∧ ∀ c, c = 44 ∨ c = 62 → ¬ ∃ u v, iter R n l = u ++ (KcK c ++ v))
  | 0 => .inl (Nat.le_refl _)
  | n + 1 => by
    rcases iter_len h l n with a | ⟨a, b⟩
    · by_cases e : (R (iter R n l)).length = (iter R n l).length
      · obtain ⟨e1, e2⟩ := h.same _ e
        refine .inr ?_
        show R (R (iter R n l)) = R (iter R n l) ∧ ∀ c, c = 44 ∨ c = 62 → ¬ ∃ u v, R (iter R n l) = u ++ (KcK c ++ v)
        rw [e1, e1]
        exact ⟨rfl, e2⟩
      · have := h.less (iter R n l)
        refine .inl ?_
        show (R (iter R n l)).length + (n + 1) ≤ l.length
        omega
    · refine .inr ?_
      show R (R (iter R n l)) = R (iter R n l) ∧ ∀ c, c = 44 ∨ c = 62 → ¬ ∃ u v, R (iter R n l) = u ++ (KcK c ++ v)
      rw [a, a]
      exact ⟨rfl, b⟩
theorem well_iff {R : List Nat → List Nat} (h : Rd1 R) (l : List Nat) (n : Nat) (hn : l.length ≤ n) : decide (iter R n l = [75]) = acc l := by
  cases e : acc l with
  | true =>
    have e' : acc (iter R n l) = true := (iter_acc h l n).trans e
    have hp := acc_pos e'
    rcases iter_len h l n with a | ⟨_, b⟩
    · omega
    · exact decide_eq_true (acc_end e' b)
  | false =>
    refine decide_eq_false fun z => ?_
    have e' : acc (iter R n l) = false := (iter_acc h l n).trans e
    rw [z] at e'
    cases e'
end Wk

set_option Elab.async false
set_option maxRecDepth 100000
namespace K1
open PySem L2 Wk
open PySem.NumText (digitsVal)
/-! ### figures back to themselves -/
theorem dig_char : ∀ c : Nat, 48 ≤ c → c ≤ 57 → (Nat.digitChar (c - 48)).toNat = c := by
  intro c h1 h2
  have : c = 48 ∨ c = 49 ∨ c = 50 ∨ c = 51 ∨ c = 52 ∨ c = 53 ∨ c = 54 ∨ c = 55 ∨ c = 56 ∨ c = 57 := by omega
  rcases this with rfl | rfl | rfl | rfl | rfl | rfl | rfl | rfl | rfl | rfl <;> decide
theorem isDig_range {c : Nat} (h : isDig c = true) : 48 ≤ c ∧ c ≤ 57 := by
  unfold isDig at h
  simpa using h
theorem val_pos : ∀ (r : List Nat) (v : Nat), 0 < v → 0 < r.foldl (fun acc c => acc * 10 + (c - 48)) v
  | [], v, h => h
  | c :: r, v, h => by
    rw [List.foldl_cons]
    have h2 : 0 < v * 10 + (c - 48) := by omega
    exact val_pos r _ h2
theorem digs_back : ∀ (n : Nat) (ds : List Nat), ds.length = n → ds ≠ [] → (∀ c ∈ ds, isDig c = true) → (ds = [48] ∨ ds.head? ≠ some 48) → digs ((digitsVal ds : Nat) : Int) = ds := by
  intro n
  induction n with
  | zero => intro ds hl hne; exact absurd (List.length_eq_zero_iff.mp hl) hne
  | succ n ih =>
    intro ds hl hne hd hz
    rw [digs_nat]
    rcases List.eq_nil_or_concat ds with rfl | ⟨es, c, rfl⟩
    · exact absurd rfl hne
    · rw [List.concat_eq_append] at hl hd hz ⊢
      have hc := isDig_range (hd c (by simp))
      rw [PySem.NumText.digitsVal_snoc]
      cases es with
      | nil =>
        have e : digitsVal [] * 10 + (c - 48) = c - 48 := by simp [digitsVal]
        rw [e, Nat.toDigits_of_lt_base (by omega)]
        simp [dig_char c hc.1 hc.2]
      | cons a r =>
        have ha : a ≠ 48 := by
          rcases hz with z | z
          · have := congrArg List.length z
            simp at this
          · intro e
            exact z (by simp [e])
        have har := isDig_range (hd a (by simp))
        have hp : 0 < digitsVal (a :: r) := by
          show 0 < (a :: r).foldl (fun acc c => acc * 10 + (c - 48)) 0
          rw [List.foldl_cons]
          exact val_pos r _ (by omega)
        have hm : c - 48 < 10 := by omega
        have t : Nat.toDigits 10 (digitsVal (a :: r)) ++ Nat.toDigits 10 (c - 48) = Nat.toDigits 10 (10 * digitsVal (a :: r) + (c - 48)) := Nat.toDigits_append_toDigits (by decide) hp hm
        have e2 : digitsVal (a :: r) * 10 + (c - 48) = 10 * digitsVal (a :: r) + (c - 48) := by omega
        rw [e2, ← t, List.map_append, Nat.toDigits_of_lt_base hm]
        have ih2 := ih (a :: r) (by simp at hl ⊢; omega) (by simp) (fun d h => hd d (by simp at h ⊢; rcases h with h | h; exact .inl h; exact .inr (.inl h))) (.inr (by simpa using ha))
        rw [digs_nat] at ih2
        rw [ih2]
        simp [dig_char c hc.1 hc.2]
/-! ### marks as they come -/
def MkOk (m : List Nat) : Prop := m ≠ [] ∧ (1 < m.length → m.head? = some 63) ∧ ∀ c ∈ m.tail, isDig c = true
theorem msteps_ok : ∀ (l : List Nat) (found : List (List Nat)), (∀ m ∈ found, MkOk m) → ∀ m ∈ l.foldl mstep found, MkOk m
  | [], found, h => h
  | c :: l, found, h => by
    rw [List.foldl_cons]
    refine msteps_ok l _ fun m hm => ?_
    have app : m ∈ found ++ [[c]] → MkOk m := fun z => by
      rcases List.mem_append.mp z with z | z
      · exact h m z
      · rw [List.mem_singleton.mp z]; exact ⟨by simp, by simp, by simp⟩
    unfold mstep at hm
    cases hg : found.getLast? with
    | none => rw [hg] at hm; exact app hm
    | some m0 =>
      rw [hg] at hm
      by_cases hq : (isDig c && (m0.head? == some 63)) = true
      · simp only [hq, if_true] at hm
        obtain ⟨fs, rfl⟩ := List.getLast?_eq_some_iff.mp hg
        rw [List.dropLast_concat] at hm
        rcases List.mem_append.mp hm with z | z
        · exact h m (List.mem_append_left _ z)
        · rw [List.mem_singleton.mp z]
          obtain ⟨h1, h2, h3⟩ := h m0 (List.mem_append_right _ (List.mem_singleton.mpr rfl))
          obtain ⟨q1, q2⟩ := (Bool.and_eq_true _ _).mp hq
          cases m0 with
          | nil => exact absurd rfl h1
          | cons a r =>
            have ea : a = 63 := by simpa using q2
            refine ⟨by simp, fun _ => by simp [ea], fun d hd => ?_⟩
            have hd' : d ∈ r ++ [c] := hd
            rcases List.mem_append.mp hd' with z' | z'
            · exact h3 d z'
            · rw [List.mem_singleton.mp z']; exact q1
      · simp only [if_neg hq] at hm
        exact app hm
theorem marksF_ok (l : List Nat) : ∀ m ∈ marksF l, MkOk m := msteps_ok l [] (by simp)
theorem val_lt : ∀ (ds : List Nat), (∀ c ∈ ds, isDig c = true) → digitsVal ds < 10 ^ ds.length := by
  have gen : ∀ (ds : List Nat) (v n : Nat), v < 10 ^ n → (∀ c ∈ ds, isDig c = true) → ds.foldl (fun acc c => acc * 10 + (c - 48)) v < 10 ^ (n + ds.length) := by
    intro ds
    induction ds with
    | nil => intro v n h _; simpa using h
    | cons c r ih =>
      intro v n h hd
      have hc := isDig_range (hd c List.mem_cons_self)
      have h1 : v * 10 + (c - 48) < 10 ^ (n + 1) := by rw [Nat.pow_succ]; omega
      have h2 := ih _ (n + 1) h1 fun d z => hd d (List.mem_cons_of_mem _ z)
      rw [List.foldl_cons, List.length_cons]
      have e : n + (r.length + 1) = n + 1 + r.length := by omega
      rw [e]
      exact h2
  intro ds hd
  have := gen ds 0 0 (by decide) hd
  simpa [digitsVal] using this
/-! ### reading is writing back -/
theorem alone_back {m : List Nat} {k : Kd} (ok : MkOk m) (h : aloneF m = some k) : marksK k = [m] ∧ k.ok ∧ (m.length ≤ 500 → few3 k) := by
  unfold aloneF at h
  by_cases h1 : m = [110]
  · rw [if_pos h1] at h; cases h; exact ⟨by rw [h1]; rfl, trivial, fun _ => trivial⟩
  · rw [if_neg h1] at h
    by_cases h2 : m = [63, 48] ∨ (1 < m.length ∧ m[1]? ≠ some 48)
    · rw [if_pos h2] at h
      cases h
      have hlen : 1 < m.length := by rcases h2 with rfl | ⟨z, _⟩; decide; exact z
      have hh := ok.2.1 hlen
      cases m with
      | nil => exact absurd rfl ok.1
      | cons a ds =>
        have ea : a = 63 := by simpa using hh
        subst ea
        have hne : ds ≠ [] := fun z => by rw [z] at hlen; simp at hlen
        have hz : ds = [48] ∨ ds.head? ≠ some 48 := by
          rcases h2 with z | ⟨_, z⟩
          · injection z with _ z; exact .inl z
          · refine .inr fun q => z ?_
            rw [List.head?_eq_getElem?] at q
            simpa using q
        have hb := digs_back ds.length ds rfl hne ok.2.2 hz
        refine ⟨by show [63 :: digs _] = _; rw [List.tail_cons, hb], Int.natCast_nonneg _, fun hl => ?_⟩
        show ((digitsVal (63 :: ds).tail : Nat) : Int).natAbs < 10 ^ 500
        rw [List.tail_cons, Int.natAbs_natCast]
        refine Nat.lt_of_lt_of_le (val_lt ds ok.2.2) (Nat.pow_le_pow_right (by decide) ?_)
        simp at hl; omega
    · rw [if_neg h2] at h; cases h
def atxt : List (Option (Bool × Kd)) → List (List Nat) := List.flatMap fun
  | none => [[40]]
  | some (f, a) => [40] :: (marksK a ++ [[signC f]])
def ktxt : Option Kd → List (List Nat)
  | none => []
  | some k => marksK k
def okK (k : Kd) : Prop := k.ok ∧ few3 k
def StOk (s : RS) : Prop := (∀ o ∈ s.1, ∀ f a, o = some (f, a) → okK a) ∧ ∀ k, s.2 = some k → okK k
theorem signC_62 {m : List Nat} (h : m = [44] ∨ m = [62]) : [signC (decide (m = [62]))] = m := by
  rcases h with rfl | rfl <;> rfl
theorem rstep_text {s s' : RS} {m : List Nat} (ok : MkOk m) (hl : m.length ≤ 500) (so : StOk s) (h : rstep s m = some s') : atxt s'.1 ++ ktxt s'.2 = atxt s.1 ++ ktxt s.2 ++ [m] ∧ StOk s' := by
  obtain ⟨ar, ko⟩ := s
  cases ko with
  | none =>
    have h' : (if m = [40] then some (ar ++ [none], none) else (aloneF m).map fun k => (ar, some k)) = some s' := h
    by_cases h1 : m = [40]
    · rw [if_pos h1] at h'
      cases h'
      refine ⟨by simp [atxt, ktxt, h1], fun o ho f a e => ?_, fun k e => by cases e⟩
      rcases List.mem_append.mp ho with z | z
      · exact so.1 o z f a e
      · rw [List.mem_singleton.mp z] at e; cases e
    · rw [if_neg h1] at h'
      obtain ⟨k, hk, rfl⟩ := Option.map_eq_some_iff.mp h'
      obtain ⟨b1, b2, b3⟩ := alone_back ok hk
      exact ⟨by simp [ktxt, b1], so.1, fun k' e => by cases e; exact ⟨b2, b3 hl⟩⟩
  | some k =>
    by_cases h1 : m = [44] ∨ m = [62]
    · by_cases h2 : ar.getLast? = some none
      · obtain ⟨ks, rfl⟩ := List.getLast?_eq_some_iff.mp h2
        simp only [rstep, if_pos (And.intro h1 h2), List.dropLast_concat] at h
        cases h
        have e := signC_62 h1
        refine ⟨by simp [atxt, ktxt, e], fun o ho f a e' => ?_, fun k' e' => by cases e'⟩
        rcases List.mem_append.mp ho with z | z
        · exact so.1 o (List.mem_append_left _ z) f a e'
        · rw [List.mem_singleton.mp z] at e'; cases e'; exact so.2 k rfl
      · have h41 : m ≠ [41] := by rcases h1 with rfl | rfl <;> decide
        simp only [rstep, if_neg (fun z : (m = [44] ∨ m = [62]) ∧ ar.getLast? = some none => h2 z.2), if_neg h41] at h
        cases h
    · by_cases h41 : m = [41]
      · rw [rstep_41 h1 h41] at h
        cases hg : ar.getLast? with
        | none => rw [hg] at h; cases h
        | some o =>
          cases o with
          | none => rw [hg] at h; cases h
          | some fa =>
            obtain ⟨f, a⟩ := fa
            rw [hg] at h
            obtain ⟨ks, rfl⟩ := List.getLast?_eq_some_iff.mp hg
            simp only [List.dropLast_concat] at h
            cases h
            have ha := so.1 (some (f, a)) (List.mem_append_right _ (List.mem_singleton.mpr rfl)) f a rfl
            have hk := so.2 k rfl
            refine ⟨by simp [atxt, ktxt, marksK, h41], fun o ho => so.1 o (List.mem_append_left _ ho), fun k' e' => by cases e'; exact ⟨⟨ha.1, hk.1⟩, ⟨ha.2, hk.2⟩⟩⟩
      · simp only [rstep, if_neg (fun z : (m = [44] ∨ m = [62]) ∧ ar.getLast? = some none => h1 z.1), if_neg h41] at h
        cases h
theorem rrun_text : ∀ (ms : List (List Nat)) (s s' : RS), (∀ m ∈ ms, MkOk m ∧ m.length ≤ 500) → StOk s → rrun s ms = some s' → atxt s'.1 ++ ktxt s'.2 = atxt s.1 ++ ktxt s.2 ++ ms ∧ StOk s'
  | [], s, s', _, so, h => by cases h; exact ⟨by simp, so⟩
  | m :: ms, s, s', hm, so, h => by
    have h' : (rstep s m).bind (fun s1 => rrun s1 ms) = some s' := h
    cases e : rstep s m with
    | none => rw [e] at h'; cases h'
    | some s1 =>
      rw [e] at h'
      obtain ⟨t1, o1⟩ := rstep_text (hm m List.mem_cons_self).1 (hm m List.mem_cons_self).2 so e
      obtain ⟨t2, o2⟩ := rrun_text ms s1 s' (fun m' h => hm m' (List.mem_cons_of_mem _ h)) o1 h'
      exact ⟨by rw [t2, t1]; simp, o2⟩
theorem marksK_flat : ∀ k : Kd, (marksK k).flatten = lineC k
  | .num => rfl
  | .blk n => by simp [marksK, lineC]
  | .two f a b => by simp [marksK, lineC, marksK_flat a, marksK_flat b, sign_codes]
theorem read_back {l : List Nat} {k : Kd} (hm : ∀ m ∈ marksF l, m.length ≤ 500) (h : readF l = some k) : lineC k = l ∧ okK k := by
  unfold readF at h
  cases e : rrun ([], none) (marksF l) with
  | none => rw [e] at h; cases h
  | some s =>
    rw [e] at h
    obtain ⟨ar, ko⟩ := s
    obtain ⟨t, o⟩ := rrun_text (marksF l) ([], none) (ar, ko) (fun m hm' => ⟨marksF_ok l m hm', hm m hm'⟩) ⟨fun _ z => (by cases z), fun _ z => (by cases z)⟩ e
    cases ar with
    | cons a b => cases h
    | nil =>
      cases ko with
      | none => cases h
      | some k' =>
        cases h
        have t' : marksK k = marksF l := by simpa [atxt, ktxt] using t
        exact ⟨by rw [← marksK_flat, t', marksF_flat], o.2 k rfl⟩
/-! ### as the law sees marks -/
def tokM (m : List Nat) : Nat := if m = [110] then 75 else if m.head? = some 63 then (if m = [63] ∨ (m[1]? = some 48 ∧ m ≠ [63, 48]) then 33 else 75) else if m = [75] then 33 else m.headD 0
theorem tok_alone {m : List Nat} (ok : MkOk m) : (aloneF m).isSome = decide (tokM m = 75) := by
  unfold aloneF tokM
  by_cases h1 : m = [110]
  · rw [if_pos h1, if_pos h1]; rfl
  · rw [if_neg h1, if_neg h1]
    by_cases hh : m.head? = some 63
    · rw [if_pos hh]
      cases m with
      | nil => cases hh
      | cons a ds =>
        have ea : a = 63 := by simpa using hh
        subst ea
        cases ds with
        | nil => rfl
        | cons d r =>
          by_cases h48 : d = 48
          · subst h48
            by_cases hr : r = []
            · subst hr; rfl
            · have e1 : ¬ ((63 :: 48 :: r : List Nat) = [63, 48] ∨ (1 < (63 :: 48 :: r : List Nat).length ∧ (63 :: 48 :: r : List Nat)[1]? ≠ some 48)) := by
                intro z
                rcases z with z | ⟨_, z⟩
                · injection z with _ z; injection z with _ z; exact hr z
                · exact z rfl
              have e2 : (63 :: 48 :: r : List Nat) = [63] ∨ ((63 :: 48 :: r : List Nat)[1]? = some 48 ∧ (63 :: 48 :: r : List Nat) ≠ [63, 48]) := .inr ⟨rfl, fun z => by injection z with _ z; injection z with _ z; exact hr z⟩
              rw [if_neg e1, if_pos e2]; rfl
          · have e1 : (63 :: d :: r : List Nat) = [63, 48] ∨ (1 < (63 :: d :: r : List Nat).length ∧ (63 :: d :: r : List Nat)[1]? ≠ some 48) := .inr ⟨by simp, by simpa using h48⟩
            have e2 : ¬ ((63 :: d :: r : List Nat) = [63] ∨ ((63 :: d :: r : List Nat)[1]? = some 48 ∧ (63 :: d :: r : List Nat) ≠ [63, 48])) := by
              intro z
              rcases z with z | ⟨z, _⟩
              · simp at z
              · exact h48 (by simpa using z)
            rw [if_pos e1, if_neg e2]; rfl
    · rw [if_neg hh]
      have hl : ¬ 1 < m.length := fun z => hh (ok.2.1 z)
      have e1 : ¬ (m = [63, 48] ∨ (1 < m.length ∧ m[1]? ≠ some 48)) := by
        intro z
        rcases z with z | ⟨z, _⟩
        · rw [z] at hh; exact hh rfl
        · exact hl z
      rw [if_neg e1]
      by_cases h75 : m = [75]
      · rw [if_pos h75]; rfl
      · rw [if_neg h75]
        cases m with
        | nil => exact absurd rfl ok.1
        | cons a r =>
          have hr : r = [] := by cases r with
            | nil => rfl
            | cons b r => exact absurd (by simp) hl
          subst hr
          have ha : a ≠ 75 := fun z => h75 (by rw [z])
          show false = decide (a = 75)
          rw [decide_eq_false ha]
theorem tok_code {m : List Nat} (ok : MkOk m) {c : Nat} (hc : c ≠ 75 ∧ c ≠ 33 ∧ c ≠ 63 ∧ c ≠ 110) : tokM m = c ↔ m = [c] := by
  unfold tokM
  constructor
  · intro h
    by_cases h1 : m = [110]
    · rw [if_pos h1] at h; exact absurd h.symm hc.1
    · rw [if_neg h1] at h
      by_cases hh : m.head? = some 63
      · rw [if_pos hh] at h
        split at h
        · exact absurd h.symm hc.2.1
        · exact absurd h.symm hc.1
      · rw [if_neg hh] at h
        by_cases h75 : m = [75]
        · rw [if_pos h75] at h; exact absurd h.symm hc.2.1
        · rw [if_neg h75] at h
          cases m with
          | nil => exact absurd rfl ok.1
          | cons a r =>
            cases r with
            | nil => have : a = c := h; rw [this]
            | cons b r => exact absurd (ok.2.1 (by simp)) hh
  · intro h
    subst h
    have h1 : ¬ ([c] : List Nat) = [110] := fun z => hc.2.2.2 (by injection z)
    have h2 : ¬ ([c] : List Nat).head? = some 63 := fun z => hc.2.2.1 (by simpa using z)
    have h3 : ¬ ([c] : List Nat) = [75] := fun z => hc.1 (by injection z)
    rw [if_neg h1, if_neg h2, if_neg h3]; rfl
def absR (s : RS) : QS := ((s.1.map Option.isSome).reverse, s.2.isSome)
theorem rstep_abs {s : RS} {m : List Nat} (ok : MkOk m) : (rstep s m).map absR = qstep (absR s) (tokM m) := by
  have t40 := tok_code ok (c := 40) (by decide)
  have t41 := tok_code ok (c := 41) (by decide)
  have t44 := tok_code ok (c := 44) (by decide)
  have t62 := tok_code ok (c := 62) (by decide)
  have ta := tok_alone ok
  obtain ⟨ar, ko⟩ := s
  cases ko with
  | none =>
    show (if m = [40] then some (ar ++ [none], none) else (aloneF m).map fun k => ((ar, some k) : RS)).map absR = (if tokM m = 40 then some (false :: (ar.map Option.isSome).reverse, false) else if tokM m = 75 then some ((ar.map Option.isSome).reverse, true) else none)
    by_cases h1 : m = [40]
    · rw [if_pos h1, if_pos (t40.mpr h1)]; simp [absR]
    · rw [if_neg h1, if_neg (fun z => h1 (t40.mp z))]
      cases e : aloneF m with
      | none =>
        rw [e] at ta
        have : tokM m ≠ 75 := by intro z; rw [z] at ta; cases ta
        rw [if_neg this]; rfl
      | some k =>
        rw [e] at ta
        have : tokM m = 75 := by
          have : decide (tokM m = 75) = true := ta.symm
          exact of_decide_eq_true this
        rw [if_pos this]; rfl
  | some k =>
    rcases List.eq_nil_or_concat ar with rfl | ⟨ks, o, rfl⟩
    · have e : rstep ([], some k) m = none := by
        by_cases h1 : m = [44] ∨ m = [62]
        · have h41 : m ≠ [41] := by rcases h1 with rfl | rfl <;> decide
          simp [rstep, h41]
        · by_cases h41 : m = [41]
          · rw [rstep_41 h1 h41]; rfl
          · simp [rstep, h41]
      rw [e]; rfl
    · rw [List.concat_eq_append]
      have er : ((ks ++ [o]).map Option.isSome).reverse = o.isSome :: (ks.map Option.isSome).reverse := by simp
      cases o with
      | none =>
        show (rstep (ks ++ [none], some k) m).map absR = qstep (((ks ++ [none]).map Option.isSome).reverse, true) (tokM m)
        rw [er]
        show _ = (if tokM m = 44 ∨ tokM m = 62 then some (true :: (ks.map Option.isSome).reverse, false) else none)
        by_cases h1 : m = [44] ∨ m = [62]
        · have h2 : (ks ++ [none]).getLast? = some none := by simp
          rw [if_pos (h1.imp t44.mpr t62.mpr)]
          simp only [rstep, if_pos (And.intro h1 h2)]
          simp [absR]
        · rw [if_neg (fun z => h1 (z.imp t44.mp t62.mp))]
          by_cases h41 : m = [41]
          · rw [rstep_41 h1 h41]; simp
          · simp only [rstep, if_neg (fun z : (m = [44] ∨ m = [62]) ∧ (ks ++ [none]).getLast? = some none => h1 z.1), if_neg h41]; rfl
      | some fa =>
        obtain ⟨f, a⟩ := fa
        show (rstep (ks ++ [some (f, a)], some k) m).map absR = qstep (((ks ++ [some (f, a)]).map Option.isSome).reverse, true) (tokM m)
        rw [er]
        show _ = (if tokM m = 41 then some ((ks.map Option.isSome).reverse, true) else none)
        by_cases h41 : m = [41]
        · have h1 : ¬ (m = [44] ∨ m = [62]) := by rw [h41]; decide
          rw [rstep_41 h1 h41, if_pos (t41.mpr h41)]
          simp [absR]
        · rw [if_neg (fun z => h41 (t41.mp z))]
          have h2 : ¬ ((m = [44] ∨ m = [62]) ∧ (ks ++ [some (f, a)]).getLast? = some none) := fun z => by simp at z
          simp only [rstep, if_neg h2, if_neg h41]; rfl
theorem rrun_abs : ∀ (ms : List (List Nat)) (s : RS), (∀ m ∈ ms, MkOk m) → (rrun s ms).map absR = qrun (absR s) (ms.map tokM)
  | [], s, _ => rfl
  | m :: ms, s, h => by
    show ((rstep s m).bind fun s1 => rrun s1 ms).map absR = (qstep (absR s) (tokM m)).bind fun s1 => qrun s1 (ms.map tokM)
    rw [← rstep_abs (h m List.mem_cons_self)]
    cases rstep s m with
    | none => rfl
    | some s1 => exact rrun_abs ms s1 fun m' h' => h m' (List.mem_cons_of_mem _ h')
theorem read_acc (l : List Nat) : (readF l).isSome = acc ((marksF l).map tokM) := by
  have e := rrun_abs (marksF l) ([], none) (marksF_ok l)
  have e' : qrun ([], false) ((marksF l).map tokM) = (rrun ([], none) (marksF l)).map absR := e.symm
  unfold readF acc
  rw [e']
  cases rrun ([], none) (marksF l) with
  | none => rfl
  | some s =>
    obtain ⟨ar, ko⟩ := s
    rcases List.eq_nil_or_concat ar with rfl | ⟨ks, o, rfl⟩
    · cases ko with
      | none => rfl
      | some k => rfl
    · rw [List.concat_eq_append]
      have : ¬ (some (absR (ks ++ [o], ko)) = some (([], true) : QS)) := fun z => by
        have := congrArg (fun q => q.map (fun p : QS => p.1.length)) z
        simp [absR] at this
      show (match some (ks ++ [o], ko) with | some ([], some k) => some k | _ => none : Option Kd).isSome = decide (some (absR (ks ++ [o], ko)) = some ([], true))
      rw [decide_eq_false this]
      cases ks <;> cases ko <;> rfl
end K1

set_option Elab.async false
set_option maxRecDepth 100000
namespace L2
open PySem PySem.Spec PyProof.Rows

/-! ### tokens never go down -/
theorem Runs.toksUp {M : Model} {Γ : PySem.Ctx} {p : Pos} {t : Sem Fin} {fs : List Frame} {s s' : Shared} {e : End} (h : Runs M Γ p t fs s e s') : s.toks ≤ s'.toks := by
  induction h <;> (try simp only [Shared.setGen] at *) <;> omega
theorem Wakes.toksUp {M : Model} {Γ : PySem.Ctx} {p : Pos} {g : Nat} {r : Resume} {s s' : Shared} {res : GenResult} (h : Wakes M Γ p g r s res s') : s.toks ≤ s'.toks := by
  unfold Wakes at h
  split at h
  · exact h.elim
  · split at h
    · obtain ⟨e1, s1, hr, _, _, rfl⟩ := h
      have := Runs.toksUp hr
      simpa [Shared.setGen] using this
    · obtain ⟨_, rfl⟩ := h; exact Nat.le_refl _
    · obtain ⟨_, rfl⟩ := h; exact Nat.le_refl _
  · obtain ⟨e1, s1, hr, _, _, rfl⟩ := h
    have := Runs.toksUp hr
    simpa [Shared.setGen] using this
  · obtain ⟨_, rfl⟩ := h; exact Nat.le_refl _
  · obtain ⟨_, rfl⟩ := h; exact Nat.le_refl _
theorem wp_up {α : Type} {M : Model} {Γ : PySem.Ctx} {n : Nat} {Q : α → Pos → Shared → Prop} {E : Value → Pos → Shared → Prop} : ∀ (t : Sem α) (p : Pos) (s : Shared), n ≤ s.toks → Sem.wp M Γ t Q E p s →
    Sem.wp M Γ t (fun a p s' => Q a p s' ∧ n ≤ s'.toks) (fun e p s' => E e p s' ∧ n ≤ s'.toks) p s := by
  intro t
  induction t with
  | pure a => intro p s hn h; rw [Sem.wp] at h ⊢; exact ⟨h, hn⟩
  | raise a => intro p s hn h; rw [Sem.wp] at h ⊢; exact ⟨h, hn⟩
  | unsupported a => intro p s hn h; rw [Sem.wp] at h; exact h.elim
  | finish a => intro p s hn h; rw [Sem.wp] at h; exact h.elim
  | rule _ k ih => intro p s hn h; rw [Sem.wp] at h ⊢; exact ih _ _ _ hn h
  | «at» _ k ih => intro p s hn h; rw [Sem.wp] at h ⊢; exact ih _ _ _ hn h
  | load a _ k ih => intro p s hn h; rw [Sem.wp] at h ⊢; obtain ⟨o, e, h⟩ := h; exact ⟨o, e, ih _ _ _ hn h⟩
  | update a _ f k ih => intro p s hn h; rw [Sem.wp] at h ⊢; exact ⟨h.1, ih _ _ _ hn h.2⟩
  | alloc o k ih => intro p s hn h; rw [Sem.wp] at h ⊢; exact ih _ _ _ hn h
  | loadIfAlive a k ih => intro p s hn h; rw [Sem.wp] at h ⊢; exact ih _ _ _ hn h
  | point l k ih => intro p s hn h; rw [Sem.wp] at h ⊢; exact ih _ _ _ hn h
  | register a k ih => intro p s hn h; rw [Sem.wp] at h; exact h.elim
  | fresh k ih => intro p s hn h; rw [Sem.wp] at h ⊢; exact ih _ _ _ (Nat.le_succ_of_le hn) h
  | ask k ih => intro p s hn h; rw [Sem.wp] at h ⊢; exact ih _ _ _ hn h
  | choose src m k ih => intro p s hn h; rw [Sem.wp] at h ⊢; exact ⟨h.1, ih _ _ _ hn h.2⟩
  | os q l k ih => intro p s hn h; rw [Sem.wp] at h ⊢; exact ih _ _ _ hn h
  | call c hh g l k ih =>
    intro p s hn h
    rw [Sem.wp] at h ⊢
    obtain ⟨r, s1, hr, h⟩ := h
    exact ⟨r, s1, hr, ih _ _ _ (Nat.le_trans hn (Runs.toksUp hr)) h⟩
  | handled own k ih => intro p s hn h; rw [Sem.wp] at h ⊢; exact ih _ _ _ hn h
  | newGen c k ih => intro p s hn h; rw [Sem.wp] at h ⊢; exact ih _ _ _ hn h
  | genState g k ih => intro p s hn h; rw [Sem.wp] at h ⊢; obtain ⟨o, e, h⟩ := h; exact ⟨o, e, ih _ _ _ hn h⟩
  | resume g r l k ih =>
    intro p s hn h
    rw [Sem.wp] at h ⊢
    obtain ⟨res, s1, hr, h⟩ := h
    exact ⟨res, s1, hr, ih _ _ _ (Nat.le_trans hn (Wakes.toksUp hr)) h⟩
  | yield v g l k ih => intro p s hn h; rw [Sem.wp] at h; exact h.elim
  | stack k ih => intro p s hn h; rw [Sem.wp] at h ⊢; exact ih _ _ _ hn h
  | fork c k ih => intro p s hn h; rw [Sem.wp] at h; exact h.elim
  | thread k ih => intro p s hn h; rw [Sem.wp] at h ⊢; exact ih _ _ _ hn h
  | await a tk td l k ih => intro p s hn h; rw [Sem.wp] at h; exact h.elim
theorem wpAny_up {α : Type} {M : Model} {A : Around} {t : Sem α} {Q : α → Shared → Prop} {E : Value → Shared → Prop} {s : Shared} (n : Nat) (hn : n ≤ s.toks) (h : wpAny M A t Q E s) :
    wpAny M A t (fun a s' => Q a s' ∧ n ≤ s'.toks) E s := fun Γ p hΓ =>
  Sem.wp_mono M Γ t (fun _ _ _ z => z) (fun _ _ _ z => z.1) p s (wp_up (n := n) (Q := fun a _ s => Q a s) (E := fun e _ s => E e s) t p s hn (h Γ p hΓ))
/-- weaken the end, where a token has been given -/
theorem thnU {α : Type} {t : Sem α} {Q Q' : α → Shared → Prop} {M : Model} {A : Around} {E : Value → Shared → Prop} {s : Shared} (hn : 1 ≤ s.toks) (h : wpAny M A t Q E s) (hQ : ∀ a s, 1 ≤ s.toks → Q a s → Q' a s) : wpAny M A t Q' E s :=
  thn (wpAny_up 1 hn h) fun a s q => hQ a s q.2 q.1

/-! ### the judgements where a token has been given -/
def PEU (X : Cx) (e : Expr) (t : TE) : Prop :=
  ∀ (pins : List (Addr × Obj)) (s : Shared) (σ : St) (H : Hp) (Q : VK), Inv X pins σ H s → 1 ≤ s.toks → t σ H Q → wpAny (model X.prog X.w) X.A (eval e X.env) (EP X pins σ Q) X.xe s
def PSU (X : Cx) (st : Stmt) (t : TS) : Prop :=
  ∀ (pins : List (Addr × Obj)) (s : Shared) (σ : St) (H : Hp) (D : Ends), Inv X pins σ H s → 1 ≤ s.toks → t D σ H → wpAny (model X.prog X.w) X.A (exec st X.env) (SP X pins D) X.xe s
def PSsU (X : Cx) (st : List Stmt) (t : TS) : Prop :=
  ∀ (pins : List (Addr × Obj)) (s : Shared) (σ : St) (H : Hp) (D : Ends), Inv X pins σ H s → 1 ≤ s.toks → t D σ H → wpAny (model X.prog X.w) X.A (execs st X.env) (SP X pins D) X.xe s
section
variable {X : Cx} {st : Stmt} {rest : List Stmt} {t u : TS} {e : Expr} {te : TE} {pos : Pos}
theorem PE.up (h : PE X e te) : PEU X e te := fun pins s σ H Q I _ q => h pins s σ H Q I q
theorem PS.up (h : PS X st t) : PSU X st t := fun pins s σ H Q I _ q => h pins s σ H Q I q
theorem PSs.up (h : PSs X rest t) : PSsU X rest t := fun pins s σ H Q I _ q => h pins s σ H Q I q
theorem pssU_cons (h1 : PSU X st t) (h2 : PSsU X rest u) : PSsU X (st :: rest) (tSeq t u) := by
  intro pins s σ H D I hn h
  refine wpAny_execs_cons (thnU hn (h1 pins s σ H { D with nx := u D } I hn h) fun f s1 hn1 q => ?_)
  cases f with
  | next =>
    obtain ⟨σ', H', I', q⟩ := q
    exact h2 pins s1 σ' H' D I' hn1 q
  | ret v => exact q
  | brk => exact q
  | cont => exact q
theorem pssU_one (h1 : PSU X st t) : PSsU X [st] t := by
  intro pins s σ H D I hn h
  refine wpAny_execs_cons (thn (h1 pins s σ H D I hn h) fun f s1 q => ?_)
  cases f with
  | next => exact wpAny_execs_nil q
  | ret v => exact q
  | brk => exact q
  | cont => exact q
/-- name = "text", then statements that want a token given -/
theorem pss_first {i : Nat} {x : Str} {z : Str} {j} {pe pos' : Pos} (hN : X.N.Nodup) (hi : X.N[i]? = some x) (hx : Loc X.env.scope x) (h2 : PSsU X rest u)
    (hs : swapsWith (.Constant (.str z) j pe) (some (.Name x pos')) pos.line X.env = pure false := by rfl) (hf : X.fn x = true ∨ X.env.scope.names.lookup x = some .local := by first | exact .inl rfl | exact .inr rfl | assumption) :
    PSs X (.Assign [.Name x pos'] (.Constant (.str z) j pe) pos :: rest) (tSeq (tAsg (tC (.str z)) (gName i)) u) := by
  intro pins s σ H D I h
  refine wpAny_execs_cons ?_
  refine wpAny_Assign_Name ?_ hs
  refine Calls.Constant_str ?_
  refine thnU (Nat.succ_le_succ (Nat.zero_le _)) (store_ok (v := .str z) (Q := fun _ s' => ∃ σ' H', Inv X pins σ' H' s' ∧ u D σ' H') (I.tok _) hN hi hx ⟨_, rfl⟩ (fun s2 I2 => ⟨_, H, I2, h⟩) hf) fun f s1 hn1 q => ?_
  obtain ⟨σ', H', I', q⟩ := q
  exact h2 pins s1 σ' H' D I' hn1 q
theorem psU_set {i : Nat} {x : Str} {e : Expr} {te : TE} {pos' : Pos} (hN : X.N.Nodup) (hi : X.N[i]? = some x) (hx : Loc X.env.scope x) (he : PEU X e te) (hs : swapsWith e (some (.Name x pos')) pos.line X.env = pure false := by rfl) (hf : X.fn x = true ∨ X.env.scope.names.lookup x = some .local := by first | exact .inl rfl | exact .inr rfl | assumption) :
    PSU X (.Assign [.Name x pos'] e pos) (tAsg te (gName i)) := by
  intro pins s σ H D I hn h
  refine wpAny_Assign_Name (thn (he pins s σ H _ I hn h) fun v s1 ⟨y, H1, I1, r1, q1⟩ => ?_) hs
  exact store_ok I1 hN hi hx r1 (fun s2 I2 => ⟨_, H1, I2, q1⟩) hf
theorem psU_for {tg iter : Expr} {body : List Stmt} {wi : TI} {g : TG} {tb : TS} {pos : Pos} (hp : PassesOwn (model X.prog X.w) X.A X.env X.xe) (hc : X.calm = true) (hi : PI X tg iter wi) (hg : PG X tg g) (hb : PSsU X body tb)
    (hs : ∀ x, foldedSetIterable iter X.env x = pure x := by intro _; rfl) : PSU X (.For tg iter body [] pos) (tFor wi g tb) := by
  intro pins s σ H D I hn h
  refine wpAny_For (thnU hn (hi pins s σ H _ I h) fun v s1 hn1 h1 => thnU hn1 h1 fun itv s2 hn2 h2 => ?_) hs
  obtain ⟨it, fp, tn, J, H2, e, I2, T, st2, f2, W, ⟨m0, w0⟩, turn⟩ := h2
  subst e
  have stat : ∀ {H' : Hp}, (∀ b ∈ fp, H' b = none) → ∀ b ∈ fp, FpOk X pins H' b := fun hn b hb => ⟨hn b hb, (f2 b hb).2⟩
  refine codeAny_forLoop_any (fun n s' => ∃ i σ' H', Inv X pins σ' H' s' ∧ 1 ≤ s'.toks ∧ tn i s'.heap ∧ (∀ b ∈ fp, H' b = none) ∧ W i n σ' H') ?_ m0 ⟨0, σ, H2, I2, hn2, st2, fun b hb => (f2 b hb).1, w0⟩
  rintro n s3 ⟨i, σ3, H3, I3, hn3, st3, fr3, w3⟩
  rcases turn i n σ3 H3 w3 with ⟨stop, qn⟩ | ⟨go, N, hN, step⟩
  · refine wpAny_passesOwn hp (thn (T.done X rfl rfl rfl hc i pins s3 σ3 H3 X.xe I3 (stat fr3) st3 stop) fun r s4 ⟨hr, I4⟩ => ?_)
    subst hr
    exact wpAny_execs_nil ⟨σ3, H3, I4, qn⟩
  · refine wpAny_passesOwn hp (thnU hn3 (T.item X rfl rfl rfl hc i pins s3 σ3 H3 X.xe I3 (stat fr3) st3 go) fun r s4 hn4 ⟨u, hr, h4⟩ => ?_)
    subst hr
    refine wpAny_passesOwn hp (thnU hn4 h4 fun _ s5 hn5 ⟨x, H5, I5, r5, y5, st5, fr5⟩ => ?_)
    have I5' := I5.pinned (stat fr5) (T.obj _ _ st5)
    refine wpAny_passesOwn hp (thnU hn5 (hg _ s5 σ3 H5 x u _ I5' r5 (step x H5 y5)) fun _ s6 hn6 ⟨σ6, H6, I6, q6⟩ => ?_)
    refine wpAny_passesOwn hp (thnU hn6 (hb _ s6 σ6 H6 _ I6 hn6 q6) fun f s7 hn7 q7 => ?_)
    have again : ∀ {σ7 : St} {H7 : Hp}, Inv X (pins ++ pinsAt fp s5.heap) σ7 H7 s7 → N σ7 H7 → ∃ m, m < n ∧ ∃ i σ' H', Inv X pins σ' H' s7 ∧ 1 ≤ s7.toks ∧ tn i s7.heap ∧ (∀ b ∈ fp, H' b = none) ∧ W i m σ' H' := fun {σ7 H7} I7 n7 => by
      obtain ⟨m', hm, w7⟩ := hN σ7 H7 n7
      refine ⟨m', hm, i + 1, σ7, H7, I7.unpinned, hn7, T.keep _ _ _ st5 fun b hb o e => (I7.pin (b, o) (List.mem_append_right _ (List.mem_append_right _ (mem_pinsAt hb e)))).1, fun b hb => ?_, w7⟩
      obtain ⟨o, e, d⟩ := T.obj _ _ st5 b hb
      exact (I7.pin (b, o) (List.mem_append_right _ (List.mem_append_right _ (mem_pinsAt hb e)))).2.1
    cases f with
    | next => obtain ⟨σ7, H7, I7, n7⟩ := q7; exact again I7 n7
    | cont => obtain ⟨σ7, H7, I7, n7⟩ := q7; exact again I7 n7
    | brk => obtain ⟨σ7, H7, I7, q7⟩ := q7; exact ⟨σ7, H7, I7.unpinned, q7⟩
    | ret v => obtain ⟨x7, σ7, H7, I7, r7, q7⟩ := q7; exact ⟨x7, σ7, H7, I7.unpinned, r7, q7⟩
/-- x.replace("..", "..") -/
def tRepl (to : TE) (y z : Str) : TE := fun σ H Q => to σ H fun x H1 => ∃ a, x = .str a ∧ a.length + (a.length + 1) * z.length ≤ 16777216 ∧ Q (.str (Txt.replace a y z)) H1
theorem peU_repl {o : Expr} {to : TE} {y z : Str} {j1 j2} {p1 p2 apos cpos : Pos} (ho : PEU X o to) (hyz : (y == z) = false)
    (hbase : attributeBase o "replace" X.env (eval o X.env) = eval o X.env := by rfl)
    (hline : (apos.endLine == cpos.line) = true := by rfl) :
    PEU X (.Call (.Attribute o "replace" apos) [.Constant (.str y) j1 p1, .Constant (.str z) j2 p2] [] cpos) (tRepl to y z) := by
  intro pins s σ H Q I hn h
  refine wpAny_Call_method_late hbase rfl hline rfl (thnU hn (ho pins s σ H _ I hn h) fun v s1 hn1 ⟨x, H1, I1, r1, q1⟩ => ?_)
  obtain ⟨a, rfl, hz, q⟩ := q1
  obtain ⟨t, rfl⟩ := r1
  refine ⟨"str", _, PySem.F.plainAttrs_str, PySem.F.slot_str_replace, rfl, typeIs_str _ _ _, (fun _ e => nomatch e), ?_⟩
  refine Calls.callWith_builtin rfl (Calls.evalArgs_plain ?_)
  show wpAny _ _ (spliced [(false, eval (.Constant (.str y) j1 p1) X.env), (false, eval (.Constant (.str z) j2 p2) X.env)]) _ _ _
  refine Calls.spliced_cons (Calls.Constant_str ?_)
  refine Calls.spliced_cons (Calls.Constant_str ?_)
  refine Calls.spliced_nil ?_
  refine SC.replace (u := s1.toks) (v := s1.toks + 1) (Nat.ne_of_gt hn1) (Nat.succ_ne_zero _) (Nat.ne_of_lt (Nat.lt_succ_self _)) hyz hz fun t' k => ⟨.str _, H1, (I1.tok k), ⟨_, rfl⟩, q⟩
end
end L2

set_option Elab.async false
set_option maxRecDepth 100000
namespace K1
open PySem L2 Wk
/-! ### str.replace by its codes -/
theorem glued_codes (y : Str) : ∀ ps : List Str, (Builtin.Str.glued y ps).cps.toList = glue y.cps.toList (ps.map fun p => p.cps.toList) := by
  intro ps
  rw [StrLaws.glued_eq_join]
  induction ps with
  | nil => rfl
  | cons p r ih =>
    cases r with
    | nil => rfl
    | cons q r =>
      show (p ++ y ++ Str.join y (q :: r)).cps.toList = p.cps.toList ++ y.cps.toList ++ glue y.cps.toList ((q :: r).map fun p => p.cps.toList)
      rw [Str.cps_append, Str.cps_append, Array.toList_append, Array.toList_append, ih]
def repF (c : Nat) (l : List Nat) : List Nat := (Txt.replace (mkS l) (mkS (KcK c)) (mkS [75])).cps.toList
theorem KcK_len (c : Nat) : (KcK c).length = 5 := rfl
theorem rep_or (c : Nat) (l : List Nat) :
    (repF c l = l ∧ ¬ ∃ u v, l = u ++ (KcK c ++ v)) ∨ ∃ ps : List (List Nat), l = glue (KcK c) ps ∧ repF c l = glue [75] ps ∧ (repF c l).length < l.length := by
  obtain ⟨f, ch, hf⟩ := StrLaws.occ_tight (mkS l) (mkS (KcK c)) (by rw [mkS_len, KcK_len]; decide)
  cases ho : Builtin.Str.occurrences (mkS l) (mkS (KcK c)) 0 (mkS l).length ((mkS l).length + 1) with
  | nil =>
    refine .inl ⟨?_, ?_⟩
    · unfold repF Txt.replace
      rw [ho]
      exact mkS_codes l
    · rintro ⟨u, v, e⟩
      rw [ho] at ch
      have e0 : f = 0 := ch
      refine hf u.length (by omega) ⟨?_, ?_⟩
      · rw [mkS_len, mkS_len, e, KcK_len, List.length_append, List.length_append, KcK_len]; omega
      · rw [StrLaws.subAt_eq, mkS_codes, mkS_codes, mkS_len, e, List.drop_left, List.take_left]
        exact beq_self_eq_true _
  | cons a r =>
    refine .inr ⟨(Builtin.Str.partsBetween (mkS l) (a :: r) (mkS (KcK c)).length).map fun p => p.cps.toList, ?_, ?_, ?_⟩
    · have h := StrLaws.glued_between_self (mkS l) (mkS (KcK c)) ((mkS l).length + 1)
      rw [ho] at h
      have h2 := congrArg (fun x : Str => x.cps.toList) h
      simp only [glued_codes, mkS_codes] at h2
      exact h2.symm
    · unfold repF Txt.replace
      rw [ho]
      show (Builtin.Str.glued (mkS [75]) (Builtin.Str.partsBetween (mkS l) (a :: r) (mkS (KcK c)).length)).cps.toList = _
      rw [glued_codes, mkS_codes]
    · have h := StrLaws.glued_between_self (mkS l) (mkS (KcK c)) ((mkS l).length + 1)
      rw [ho] at h
      have h1 : (Builtin.Str.glued (mkS (KcK c)) (Builtin.Str.partsBetween (mkS l) (a :: r) (mkS (KcK c)).length)).length = l.length := by rw [h, mkS_len]
      have h2 : (repF c l).length = (Builtin.Str.glued (mkS [75]) (Builtin.Str.partsBetween (mkS l) (a :: r) (mkS (KcK c)).length)).length := by
        unfold repF Txt.replace
        rw [ho, str_len]
        rfl
      rw [h2, ← h1, size_glued, size_glued, length_partsBetween, mkS_len, mkS_len]
      simp only [List.length_cons, List.length_nil, KcK_len]
      omega
theorem rep_acc {c : Nat} (hc : c = 44 ∨ c = 62) (l : List Nat) : acc (repF c l) = acc l := by
  rcases rep_or c l with ⟨e, _⟩ | ⟨ps, e1, e2, _⟩
  · rw [e]
  · rw [e2, e1, acc_glue hc]
theorem rep_le (c : Nat) (l : List Nat) : (repF c l).length ≤ l.length := by
  rcases rep_or c l with ⟨e, _⟩ | ⟨ps, _, _, h⟩
  · rw [e]; exact Nat.le_refl _
  · exact Nat.le_of_lt h
theorem rep_same {c : Nat} {l : List Nat} (h : (repF c l).length = l.length) : repF c l = l ∧ ¬ ∃ u v, l = u ++ (KcK c ++ v) := by
  rcases rep_or c l with e | ⟨ps, _, _, h'⟩
  · exact e
  · omega
def rndF (l : List Nat) : List Nat := repF 62 (repF 44 l)
theorem rd_rnd : Rd1 rndF where
  keep l := by show acc (repF 62 (repF 44 l)) = acc l; rw [rep_acc (.inr rfl), rep_acc (.inl rfl)]
  less l := Nat.le_trans (rep_le 62 _) (rep_le 44 l)
  same l h := by
    have h' : (repF 62 (repF 44 l)).length = l.length := h
    have a := rep_le 62 (repF 44 l)
    have b := rep_le 44 l
    obtain ⟨e1, n1⟩ := rep_same (c := 44) (l := l) (by omega)
    have e2' : (repF 62 l).length = l.length := by rw [e1] at h'; exact h'
    obtain ⟨e2, n2⟩ := rep_same e2'
    refine ⟨by show repF 62 (repF 44 l) = l; rw [e1, e2], fun c hc => ?_⟩
    rcases hc with rfl | rfl
    · exact n1
    · exact n2
/-! ### the marks as the law reads them off -/
/-- from place s on, with what was found -/
structure Sc (l : List Nat) (s : Nat) (found : List (List Nat)) : Prop where
  run : (l.drop s).foldl mstep found = marksF l
  nod : ∀ m, found.getLast? = some m → m.head? = some 63 → ∀ d, l[s]? = some d → isDig d = false
  few : found.length ≤ s
theorem sc_start (l : List Nat) : Sc l 0 [] := ⟨by simp [marksF], fun m h => by simp at h, Nat.le_refl _⟩
theorem drop_at {l : List Nat} {s c : Nat} (h : l[s]? = some c) : l.drop s = c :: l.drop (s + 1) := by
  have hs : s < l.length := (List.getElem?_eq_some_iff.mp h).1
  rw [List.drop_eq_getElem_cons hs]
  congr 1
  exact (List.getElem?_eq_some_iff.mp h).2
theorem mstep_new {found : List (List Nat)} {c : Nat} (h : ∀ m, found.getLast? = some m → m.head? = some 63 → isDig c = false) : mstep found c = found ++ [[c]] := by
  unfold mstep
  cases e : found.getLast? with
  | none => rfl
  | some m =>
    by_cases hm : m.head? = some 63
    · simp [h m e hm]
    · have : (m.head? == some 63) = false := by simpa using hm
      simp [this]
theorem sc_one {l : List Nat} {s c : Nat} {found : List (List Nat)} (S : Sc l s found) (h : l[s]? = some c) (hc : c ≠ 63) : Sc l (s + 1) (found ++ [[c]]) := by
  have r := S.run
  rw [drop_at h, List.foldl_cons, mstep_new fun m a b => S.nod m a b c h] at r
  refine ⟨r, fun m hm hh => ?_, by simp; exact S.few⟩
  rw [List.getLast?_append] at hm
  simp at hm
  subst hm
  simp at hh
  exact absurd hh hc
theorem foldl_split (l : List Nat) {a b : Nat} (hab : a ≤ b) (found : List (List Nat)) : (l.drop a).foldl mstep found = (l.drop b).foldl mstep (((l.drop a).take (b - a)).foldl mstep found) := by
  rw [← List.foldl_append]
  congr 1
  have h := (List.take_append_drop (b - a) (l.drop a)).symm
  rw [List.drop_drop] at h
  rw [show a + (b - a) = b by omega] at h
  exact h
theorem sc_q {l : List Nat} {s e : Nat} {found : List (List Nat)} (S : Sc l s found) (h : l[s]? = some 63) (hse : s + 1 ≤ e) (hel : e ≤ l.length) (hd : ∀ j, s + 1 ≤ j → j < e → ∀ d, l[j]? = some d → isDig d = true)
    (hn : ∀ d, l[e]? = some d → isDig d = false) : Sc l e (found ++ [63 :: (l.drop (s + 1)).take (e - (s + 1))]) := by
  have r := S.run
  rw [drop_at h, List.foldl_cons, mstep_non (by decide : isDig 63 = false), foldl_split l hse] at r
  rw [msteps_dig _ found [] ?_] at r
  · refine ⟨by simpa using r, fun m hm hh => ?_, by simp; have := S.few; omega⟩
    exact hn
  · intro c hc
    obtain ⟨k, hk, e1⟩ := List.mem_iff_getElem.mp hc
    have hk' : k < e - (s + 1) := by
      rw [List.length_take] at hk; omega
    refine hd (s + 1 + k) (by omega) (by omega) c ?_
    rw [← e1, List.getElem_take, List.getElem_drop]
    rw [List.getElem?_eq_getElem (by rw [List.length_take, List.length_drop] at hk; omega)]
theorem sc_end {l : List Nat} {found : List (List Nat)} {s : Nat} (S : Sc l s found) (h : l.length ≤ s) : found = marksF l := by
  have r := S.run
  rw [List.drop_eq_nil_of_le h] at r
  exact r
theorem tok_n : tokM [110] = 75 := rfl
theorem tok_K : tokM [75] = 33 := rfl
theorem tok_one {c : Nat} (h : c ≠ 63) (h1 : c ≠ 110) (h2 : c ≠ 75) : tokM [c] = c := by
  unfold tokM
  simp [h, h1, h2]
theorem tok_q (ds : List Nat) : tokM (63 :: ds) = if ds = [] ∨ (ds[0]? = some 48 ∧ ds ≠ [48]) then 33 else 75 := by
  unfold tokM
  simp
theorem marks_len (l : List Nat) : (marksF l).length ≤ l.length := by
  have : ∀ (r : List Nat) (f : List (List Nat)), (r.foldl mstep f).length ≤ f.length + r.length := by
    intro r
    induction r with
    | nil => intro f; simp
    | cons c r ih =>
      intro f
      rw [List.foldl_cons]
      have h1 := ih (mstep f c)
      have h2 : (mstep f c).length ≤ f.length + 1 := by
        unfold mstep
        cases e : f.getLast? with
        | none => simp
        | some m =>
          have : f ≠ [] := by intro z; rw [z] at e; simp at e
          have hp : 0 < f.length := List.length_pos_iff.mpr this
          dsimp only
          split
          · simp
          · simp
      simp only [List.length_cons]
      omega
  simpa [marksF] using this l []
/-- what the law's rounds come to -/
theorem well_read (l : List Nat) : decide (iter rndF l.length ((marksF l).map tokM) = [75]) = (readF l).isSome := by
  rw [read_acc]
  exact well_iff rd_rnd _ _ (by rw [List.length_map]; exact marks_len l)
end K1

set_option Elab.async false
set_option maxRecDepth 100000
namespace K1
open PySem L2 Wk
theorem rep_str {c : Nat} {y : Str} (hy : y = mkS (KcK c)) (t : Str) : Txt.replace t y "K" = mkS (repF c t.cps.toList) := by
  subst hy
  have e : (Str.ofString "K") = mkS [75] := by decide +kernel
  unfold repF
  rw [mkS_of, mkS_of, ← e]
theorem rep44 (t : Str) : Txt.replace t "(K,K)" "K" = mkS (repF 44 t.cps.toList) := rep_str (by decide +kernel) t
theorem rep62 (t : Str) : Txt.replace t "(K>K)" "K" = mkS (repF 62 t.cps.toList) := rep_str (by decide +kernel) t
theorem nK_in (c : Nat) : (!(Builtin.Str.occurrences "nK" (⟨#[c]⟩ : Str) 0 (Str.ofString "nK").length 1).isEmpty) = decide (c = 110 ∨ c = 75) := by
  rw [PySem.StrLaws.found_one]
  have e : (Str.ofString "nK").cps.toList = [110, 75] := by decide +kernel
  show decide (c ∈ (Str.ofString "nK").cps.toList) = _
  rw [e]
  simp
theorem one_eq {c d : Nat} {y : Str} (hy : y = mkS [d]) : decide (V.str (⟨#[c]⟩ : Str) = .str y) = decide (c = d) := by
  subst hy
  rw [Bool.eq_iff_iff]
  simp [mkS]
theorem slice_mid (x : Str) {a b : Nat} (ha : a ≤ x.length) (hb : b ≤ x.length) : Txt.slice x (some (a : Int)) (some (b : Int)) = mkS ((x.cps.toList.drop a).take (b - a)) := by
  refine (mkS_eq.mpr ?_).symm
  rw [slice_codes]
  have e1 : HT.sIx x.length 0 (some (a : Int)) = a := by unfold HT.sIx; simp only []; split <;> omega
  have e2 : HT.sIx x.length x.length (some (b : Int)) = b := by unfold HT.sIx; simp only []; split <;> omega
  rw [e1, e2]
theorem pick_nK (c : Nat) : atI [V.str "!", V.str "K"] (if decide (c = 110) = true then 1 else 0) = some (.str (if c = 110 then "K" else "!")) := by
  by_cases h : c = 110
  · rw [if_pos (decide_eq_true h), if_pos h]; rfl
  · rw [if_neg (by simpa using h), if_neg h]; rfl
section
variable {P : Program} {w : World} {K : PySem.W.Frag} {mg : Str → Option Value} {base : Heap} {f : Addr} {fd : FuncData}
def spWell : Sp := fun vs H Q _ => ∃ x, vs = [.str x] ∧ x.length ≤ 100000 ∧ ∀ H', Same H H' → Q (.bl (readF x.cps.toList).isSome) H'
theorem scWell : FnScope ["_law_line", "_law_marks", "_law_spot", "_law_end", "_law_mark", "_law_figures", "_law_turn"] ["_law_line"] (defScope sWell) := ⟨rfl, rfl, rfl, by decide +kernel, rfl, by decide +kernel, by decide +kernel⟩
set_option maxHeartbeats 4000000 in
theorem ok_well (F : Fun K "_law_well" "_law_well" sWell f fd) (ml : mg "len" = none) (mr : mg "range" = none) (mn : mg "int" = none) : FnOk P w K mg base CX0 1 f fd ["_law_line"] spWell := by
  refine F.ok scWell (fun vs H Q E h => ?_) (fun cdv A outer s H vs Q E hr h => ?_)
  · obtain ⟨v, rfl, _⟩ := h
    rfl
  obtain ⟨x, rfl, hB, q⟩ := h
  have nd := scWell.nd
  have hu := hu_of hr
  refine ⟨_, pss_first (i := 1) nd rfl (Or.inl rfl)
    (pssU_cons (PS.up (ps_set (i := 2) nd rfl (Or.inl rfl) pe_int))
    (pssU_cons (PS.up (ps_while PassesOwn.never (pt_cmpR op_lt (pv 2) (pe_callB call_len_str rfl ml PySem.boot_len (pa_cons (pv 0) pa_nil)) (nomark _))
      (pss_cons (ps_set (i := 3) nd rfl (Or.inl rfl) (pe_op op_add (pv 2) pe_int))
      (pss_cons (ps_set (i := 4) nd rfl (Or.inl rfl) (pe_ix ix_str (pv 0) (pv 2) (fun _ _ => rfl)))
      (pss_cons (ps_if (pt_cmpR op_eq (pe_ix ix_str (pv 0) (pv 2) (fun _ _ => rfl)) pe_str (nomark _))
        (pss_cons (ps_while PassesOwn.never (PW.pt (pw_and (pt_cmpR op_lt (pv 3) (pe_callB call_len_str rfl ml PySem.boot_len (pa_cons (pv 0) pa_nil)) (nomark _)) (pw_and1 (pt_cmpR op_in_str (pe_ix ix_str (pv 0) (pv 3) (fun _ _ => rfl)) pe_str (by with_unfolding_all rfl)))))
          (pss_one (ps_set (i := 3) nd rfl (Or.inl rfl) (pe_op op_add (pv 3) pe_int))))
        (pss_cons (ps_set (i := 5) nd rfl (Or.inl rfl) (pe_slice sl_str (pv 0) (po_some (pe_op op_add (pv 2) pe_int)) (po_some (pv 3))))
        (pss_cons (ps_set (i := 4) nd rfl (Or.inl rfl) pe_str)
        (pss_one (ps_if (PW.pt (pw_or (pt_cmpR op_eq (pv 5) pe_str (nomark _)) (pw_or1 (PW.pt (pw_and (pt_cmpR op_eq (pe_ix ix_str (pv 5) pe_int (fun _ _ => rfl)) pe_str (nomark _)) (pw_and1 (pt_cmpR op_ne (pv 5) pe_str (nomark _))))))))
          (pss_one (ps_set (i := 4) nd rfl (Or.inl rfl) pe_str)) pss_nil))))) pss_nil)
      (pss_cons (ps_if (pt_cmpR op_in_str (pe_ix ix_str (pv 0) (pv 2) (fun _ _ => rfl)) pe_str (by with_unfolding_all rfl))
        (pss_one (ps_set (i := 4) nd rfl (Or.inl rfl) (pe_ix ix_list (pe_lst (pa_cons pe_str (pa_cons pe_str pa_nil))) (pe_callTy call_int1 rfl mn PyProof.Rows.boot_int (pa_cons (pe_cmpR op_eq (pe_ix ix_str (pv 0) (pv 2) (fun _ _ => rfl)) pe_str (nomark _)) pa_nil)) (fun _ _ => rfl)))) pss_nil)
      (pss_cons (ps_set (i := 1) nd rfl (Or.inl rfl) (pe_op op_add_str (pv 1) (pv 4)))
      (pss_one (ps_set (i := 2) nd rfl (Or.inl rfl) (pv 3))))))))))
    (pssU_cons (psU_for PassesOwn.never rfl (pi_range1 rfl mr (pa_cons (pe_callB call_len_str rfl ml PySem.boot_len (pa_cons (pv 0) pa_nil)) pa_nil)) (pg_name (i := 6) nd rfl (Or.inl rfl))
      (pssU_one (psU_set (i := 1) nd rfl (Or.inl rfl) (peU_repl (peU_repl (PE.up (pv 1)) (by decide +kernel)) (by decide +kernel)))))
    (PSs.up (pss_one (ps_ret (pe_cmpR op_eq (pv 1) pe_str (nomark _)))))))), ?_⟩
  have hxl : x.cps.toList.length ≤ 100000 := by rw [← str_len]; exact hB
  have hzl : x.length ≤ sizeLine := le_line (by omega)
  generalize hl : x.cps.toList = l at hxl ⊢
  have hxL : x.length = l.length := by rw [str_len, hl]
  refine ⟨(fun m σ H1 => ∃ (t : Str) (s : Nat) (e mk fg : Option V) (found : List (List Nat)), σ = [some (.str x), some (.str t), some (.int s), e, mk, fg, none] ∧ m = l.length - s ∧ s ≤ l.length ∧ Sc l s found ∧ t.cps.toList = found.map tokM ∧ Same H H1),
    ⟨l.length, "", 0, none, none, none, [], rfl, rfl, Nat.zero_le _, sc_start l, by decide +kernel, Same.refl H⟩, ?_⟩
  rintro m σ H1 ⟨t, s, e, mk, fg, found, rfl, rfl, hs, S, ht, hS⟩
  have hxs : ∀ (j c : Nat), l[j]? = some c → atI x.cps.toList (j : Int) = some c := fun j c h => atI_nat (by rw [hl]; exact h)
  have htl : t.length ≤ 100000 := by
    rw [str_len, ht, List.length_map]; exact Nat.le_trans S.few (Nat.le_trans hs hxl)
  refine ⟨_, rfl, _, rfl, x, rfl, hzl, _, _, rfl, rfl, _, rfl, ?_⟩
  by_cases hlt : s < l.length
  · refine iteB (by rw [hxL]; exact decide_eq_true (by omega)) ?_
    obtain ⟨c, hc⟩ : ∃ c, l[s]? = some c := ⟨l[s], List.getElem?_eq_getElem hlt⟩
    have fin : ∀ (M : Str) (e' : Nat) (fg' : Option V) (H2 : Hp) (fnd : List (List Nat)), Same H H2 → Sc l e' fnd → s < e' → e' ≤ l.length → fnd.map tokM = found.map tokM ++ M.cps.toList →
        ∃ m', m' < l.length - s ∧ ∃ (t' : Str) (s' : Nat) (e mk fg : Option V) (found : List (List Nat)), [some (V.str x), some (.str (t ++ M)), some (.int e'), some (.int e'), some (.str M), fg', none] = [some (.str x), some (.str t'), some (.int s'), e, mk, fg, none] ∧ m' = l.length - s' ∧ s' ≤ l.length ∧ Sc l s' found ∧ t'.cps.toList = found.map tokM ∧ Same H H2 :=
      fun M e' fg' H2 fnd hS2 S2 h1 h2 h3 => ⟨l.length - e', by omega, t ++ M, e', _, _, _, fnd, rfl, rfl, h2, S2, by rw [app_codes, ht, h3], hS2⟩
    refine ⟨_, fun _ _ z => z, ?_⟩
    refine ⟨_, rfl, _, _, rfl, rfl, ?_⟩
    refine ⟨_, rfl, _, rfl, x, _, c, rfl, rfl, hzl, hxs s c hc, ?_⟩
    refine ⟨_, rfl, _, rfl, x, _, c, rfl, rfl, hzl, hxs s c hc, rfl, _, rfl, ?_⟩
    rw [one_eq (d := 63) (by decide +kernel)]
    by_cases hq : c = 63
    · refine iteB (decide_eq_true hq) ?_
      subst hq
      refine ⟨(fun m σ H1' => H1' = H1 ∧ ∃ e : Nat, σ = [some (.str x), some (.str t), some (.int s), some (.int e), some (.str ⟨#[63]⟩), fg, none] ∧ m = l.length - e ∧ s + 1 ≤ e ∧ e ≤ l.length ∧ ∀ j, s + 1 ≤ j → j < e → ∀ d, l[j]? = some d → isDig d = true),
        ⟨l.length - (s + 1), rfl, s + 1, rfl, rfl, Nat.le_refl _, hlt, fun j h1 h2 => by omega⟩, ?_⟩
      rintro m σ H1' ⟨rfl, e, rfl, rfl, he1, he2, hd⟩
      refine ⟨_, rfl, _, rfl, x, rfl, hzl, _, _, rfl, rfl, _, rfl, ?_⟩
      refine ite2 (fun h1 => ?_) fun h1 => ?_
      rotate_left
      have hn : ∀ d, l[e]? = some d → isDig d = false := fun d hd' => by
        have : e < l.length := (List.getElem?_eq_some_iff.mp hd').1
        exact absurd (by rw [hxL]; exact decide_eq_true (by omega)) h1
      rotate_left
      have h1' : e < l.length := by
        have := of_decide_eq_true h1
        rw [hxL] at this
        omega
      obtain ⟨d, hd'⟩ : ∃ d, l[e]? = some d := ⟨l[e], List.getElem?_eq_getElem h1'⟩
      refine ⟨_, rfl, _, rfl, x, _, d, rfl, rfl, hzl, hxs e d hd', _, _, rfl, rfl, _, rfl, ?_⟩
      rw [figs_in]
      refine ite2 (fun h2 => ?_) fun h2 => ?_
      · refine ⟨_, fun _ _ z => z, ?_⟩
        refine ⟨_, rfl, _, _, rfl, rfl, ?_⟩
        refine ⟨l.length - (e + 1), by omega, rfl, e + 1, rfl, rfl, by omega, h1', fun j j1 j2 d2 hd2 => ?_⟩
        by_cases ej : j = e
        · subst ej; rw [hd'] at hd2; cases hd2; exact h2
        · exact hd j j1 (by omega) d2 hd2
      have hn : ∀ d, l[e]? = some d → isDig d = false := fun d2 hd2 => by
        rw [hd'] at hd2; cases hd2
        simpa using h2
      all_goals
        refine ⟨_, rfl, _, rfl, _, _, rfl, rfl, _, rfl, _, rfl, _, rfl, x, rfl, hzl, ?_⟩
        have hsl : Txt.slice x (some ((s : Int) + 1)) (some (e : Int)) = mkS ((l.drop (s + 1)).take (e - (s + 1))) := by
          rw [← hl]
          exact slice_mid x (a := s + 1) (b := e) (by omega) (by omega)
        rw [hsl]
        have S2 := sc_q S hc he1 he2 hd hn
        have hdl : ((l.drop (s + 1)).take (e - (s + 1))).length ≤ l.length := by rw [List.length_take, List.length_drop]; omega
        generalize (l.drop (s + 1)).take (e - (s + 1)) = ds at S2 hdl ⊢
        have hT := tok_q ds
        refine ⟨_, rfl, rfl, _, rfl, ?_⟩
        by_cases h5 : ds = []
        · refine iteB (decide_eq_true (by rw [h5]; rfl)) ?_
          rw [if_pos (.inl h5)] at hT
          refine ⟨_, rfl, _, rfl, x, _, 63, rfl, rfl, hzl, hxs s 63 hc, _, _, rfl, rfl, _, rfl, ?_⟩
          rw [nK_in]
          refine iteF' rfl ⟨_, rfl, _, rfl, t, _, rfl, rfl, le_line (by show t.length + 1 ≤ _; omega), _, rfl, ?_⟩
          exact fin "!" e _ _ _ hS S2 (by omega) he2 (by rw [List.map_append, List.map_singleton, hT]; rfl)
        · obtain ⟨d0, r, rfl⟩ : ∃ d0 r, ds = d0 :: r := by cases ds with | nil => exact absurd rfl h5 | cons a b => exact ⟨a, b, rfl⟩
          refine iteF' (decide_eq_false (fun z => by have z2 := mV_eq.mp z; rw [show (Str.ofString "").cps.toList = [] from by decide +kernel] at z2; cases z2)) ?_
          refine ⟨_, rfl, mkS (d0 :: r), 0, d0, rfl, rfl, le_line (by rw [mkS_len]; omega), atI_nat (j := 0) (by rw [mkS_codes]; rfl), rfl, _, rfl, ?_⟩
          rw [one_eq (d := 48) (by decide +kernel)]
          by_cases h6 : d0 = 48
          · refine iteB (decide_eq_true h6) ?_
            refine ⟨_, rfl, rfl, _, rfl, ?_⟩
            by_cases h7 : d0 :: r = [48]
            · refine iteF' (by rw [Bool.not_eq_false', decide_eq_true_eq]; exact mV_eq.mpr (by rw [h7]; decide +kernel)) ?_
              rw [if_neg (by rw [h7]; simp)] at hT
              refine ⟨_, rfl, _, rfl, x, _, 63, rfl, rfl, hzl, hxs s 63 hc, _, _, rfl, rfl, _, rfl, ?_⟩
              rw [nK_in]
              refine iteF' rfl ⟨_, rfl, _, rfl, t, _, rfl, rfl, le_line (by show t.length + 1 ≤ _; omega), _, rfl, ?_⟩
              exact fin "K" e _ _ _ hS S2 (by omega) he2 (by rw [List.map_append, List.map_singleton, hT]; rfl)
            · refine iteB (by rw [Bool.not_eq_true', decide_eq_false_iff_not]; intro z; exact h7 ((mV_eq.mp z).trans (by decide +kernel))) ?_
              rw [if_pos (.inr ⟨by simp [h6], h7⟩)] at hT
              refine ⟨_, rfl, _, rfl, x, _, 63, rfl, rfl, hzl, hxs s 63 hc, _, _, rfl, rfl, _, rfl, ?_⟩
              rw [nK_in]
              refine iteF' rfl ⟨_, rfl, _, rfl, t, _, rfl, rfl, le_line (by show t.length + 1 ≤ _; omega), _, rfl, ?_⟩
              exact fin "!" e _ _ _ hS S2 (by omega) he2 (by rw [List.map_append, List.map_singleton, hT]; rfl)
          · refine iteF' (decide_eq_false h6) ?_
            rw [if_neg (by simp [h6])] at hT
            refine ⟨_, rfl, _, rfl, x, _, 63, rfl, rfl, hzl, hxs s 63 hc, _, _, rfl, rfl, _, rfl, ?_⟩
            rw [nK_in]
            refine iteF' rfl ⟨_, rfl, _, rfl, t, _, rfl, rfl, le_line (by show t.length + 1 ≤ _; omega), _, rfl, ?_⟩
            exact fin "K" e _ _ _ hS S2 (by omega) he2 (by rw [List.map_append, List.map_singleton, hT]; rfl)
    · refine iteF' (decide_eq_false hq) ?_
      refine ⟨_, rfl, _, rfl, x, _, c, rfl, rfl, hzl, hxs s c hc, _, _, rfl, rfl, _, rfl, ?_⟩
      rw [nK_in]
      by_cases hk : c = 110 ∨ c = 75
      · refine iteB (decide_eq_true hk) ?_
        refine ⟨(by show 2 ≤ sizeLine; decide), fun lc hlc => ?_⟩
        have S4 : Same H (upd H1 lc (.lst [.str "!", .str "K"])) := hS.upd (hS.free hlc)
        refine ⟨_, rfl, _, rfl, x, _, c, rfl, rfl, hzl, hxs s c hc, rfl, .inr ⟨_, rfl, lc, _, _, _, rfl, rfl, SqL.of upd_same, (by rw [one_eq (d := 110) (by decide +kernel)]; exact pick_nK c), ?_⟩⟩
        have hM : (if c = 110 then Str.ofString "K" else Str.ofString "!").cps.toList = [tokM [c]] := by
          rcases hk with rfl | rfl
          · decide +kernel
          · decide +kernel
        generalize (if c = 110 then Str.ofString "K" else Str.ofString "!") = M at hM ⊢
        refine ⟨_, rfl, _, rfl, t, M, rfl, rfl, le_line (by rw [str_len M, hM]; show t.length + 1 ≤ _; omega), _, rfl, ?_⟩
        refine fin M (s + 1) fg _ (found ++ [[c]]) S4 (sc_one S hc hq) (by omega) hlt ?_
        rw [List.map_append, List.map_singleton, hM]
      · refine iteF' (decide_eq_false hk) ?_
        refine ⟨_, rfl, _, rfl, t, _, rfl, rfl, le_line (by show t.length + 1 ≤ _; omega), _, rfl, ?_⟩
        refine fin ⟨#[c]⟩ (s + 1) fg H1 (found ++ [[c]]) hS (sc_one S hc hq) (by omega) hlt ?_
        rw [List.map_append, List.map_singleton, tok_one hq (fun z => hk (.inl z)) (fun z => hk (.inr z))]
  · refine iteF' (by rw [hxL]; exact decide_eq_false (by omega)) ?_
    have hf := sc_end S (by omega)
    subst hf
    refine ⟨_, rfl, x, rfl, hzl, _, rfl, (by omega), (by omega), ?_⟩
    have hj : ((x.length : Int)).toNat = l.length := by rw [hxL]; simp
    rw [hj]
    have hml := marks_len l
    have hil : ∀ i, (iter rndF i ((marksF l).map tokM)).length ≤ l.length := by
      intro i
      induction i with
      | zero => show ((marksF l).map tokM).length ≤ _; rw [List.length_map]; exact hml
      | succ i ih => exact Nat.le_trans (rd_rnd.less _) ih
    refine for_range (fun i σ H2 => ∃ e mk fg tn, σ = [some (.str x), some (.str (mkS (iter rndF i ((marksF l).map tokM)))), some (.int s), e, mk, fg, tn] ∧ H2 = H1) ⟨e, mk, fg, none, by rw [← mkS_of t, ht]; rfl, rfl⟩ (fun i σ H2 hi hP => ?_) (fun σ H2 hP => ?_)
    · obtain ⟨e, mk, fg, tn, rfl, rfl⟩ := hP
      have h1 := hil i
      have h2 := Nat.le_trans (rep_le 44 (iter rndF i ((marksF l).map tokM))) h1
      refine ⟨_, rfl, _, rfl, ?_, _, rfl, ?_, ?_⟩
      · rw [mkS_len]
        show _ + (_ + 1) * 1 ≤ _
        omega
      · rw [rep44, mkS_codes, mkS_len]
        show _ + (_ + 1) * 1 ≤ _
        omega
      · rw [rep44, mkS_codes, rep62, mkS_codes]
        exact ⟨e, mk, fg, _, rfl, rfl⟩
    · obtain ⟨e, mk, fg, tn, rfl, rfl⟩ := hP
      refine ⟨_, rfl, rfl, ?_⟩
      have e1 : decide (V.str (mkS (iter rndF l.length ((marksF l).map tokM))) = .str "K") = (readF l).isSome := by
        rw [← well_read l, Bool.eq_iff_iff, decide_eq_true_eq, decide_eq_true_eq]
        have eK : (Str.ofString "K").cps.toList = [75] := by decide +kernel
        exact ⟨fun z => (mV_eq.mp z).trans eK, fun z => mV_eq.mpr (z.trans eK.symm)⟩
      rw [e1, ← hl]
      exact q H2 hS
end
end K1

set_option Elab.async false
set_option maxRecDepth 100000
namespace K1
open PySem L2 Wk
/-! ### how long figures stand together -/
def Run (n : Nat) (l : List Nat) : Prop := ∀ u d v, l = u ++ (d ++ v) → (∀ c ∈ d, isDig c = true) → d.length ≤ n
theorem Run.len {n : Nat} {l : List Nat} (h : l.length ≤ n) : Run n l := fun u d v e _ => by
  rw [e, List.length_append, List.length_append] at h; omega
theorem Run.mono {n m : Nat} {l : List Nat} (r : Run n l) (h : n ≤ m) : Run m l := fun u d v e a => Nat.le_trans (r u d v e a) h
theorem Run.mid {n : Nat} {l a m b : List Nat} (r : Run n l) (h : l = a ++ (m ++ b)) : Run n m := fun u d v e hd =>
  r (a ++ u) d (v ++ b) (by rw [h, e]; simp) hd
theorem Run.app {n m : Nat} {a b : List Nat} (ra : Run n a) (rb : Run m b) : Run (n + m) (a ++ b) := by
  intro u d v e hd
  rcases List.append_eq_append_iff.mp e with ⟨x, e1, e2⟩ | ⟨x, e1, e2⟩
  · have := rb x d v e2 hd; omega
  · rcases List.append_eq_append_iff.mp e2 with ⟨y, e3, e4⟩ | ⟨y, e3, e4⟩
    · have := ra u d y (by rw [e1, e3]) hd; omega
    · have h1 := ra u x [] (by rw [e1]; simp) fun c hc => hd c (by rw [e3]; simp [hc])
      have h2 := rb [] y v (by rw [e4]; rfl) fun c hc => hd c (by rw [e3]; simp [hc])
      rw [e3, List.length_append]; omega
theorem Run.sep {n : Nat} {a b : List Nat} {c : Nat} (ra : Run n a) (rb : Run n b) (hc : isDig c = false) : Run n (a ++ c :: b) := by
  intro u d v e hd
  rcases List.append_eq_append_iff.mp e with ⟨x, e1, e2⟩ | ⟨x, e1, e2⟩
  · cases x with
    | nil =>
      cases d with
      | nil => simp
      | cons d0 d =>
        have : c = d0 := by simp at e2; exact e2.1
        have h := hd d0 (by simp)
        rw [← this, hc] at h; cases h
    | cons y x =>
      have : b = x ++ (d ++ v) := by simp at e2; exact e2.2
      exact rb x d v this hd
  · rcases List.append_eq_append_iff.mp e2 with ⟨y, e3, e4⟩ | ⟨y, e3, e4⟩
    · exact ra u d y (by rw [e1, e3]) hd
    · cases y with
      | nil => exact ra u d [] (by rw [e1, e3]; simp) hd
      | cons y0 y =>
        have : c = y0 := by simp at e4; exact e4.1
        have h := hd y0 (by rw [e3]; simp)
        rw [← this, hc] at h; cases h
theorem run_line : ∀ {k : Kd}, k.few → Run 60 (lineC k)
  | .num, _ => Run.len (by simp [lineC])
  | .blk n, h => Run.sep (a := []) (Run.len (by simp)) (Run.len (digs_length h)) (by decide)
  | .two f a b, h => by
    have ha := run_line h.1
    have hb := run_line h.2
    show Run 60 (40 :: (lineC a ++ ((sign f).cps.toList ++ (lineC b ++ [41]))))
    rw [sign_codes]
    refine Run.sep (a := []) (Run.len (by simp)) (Run.sep ha ?_ ?_) (by decide)
    · exact Run.sep hb (Run.len (by simp)) (by decide)
    · cases f <;> decide
theorem run_mks {n : Nat} {l : List Nat} (r : Run n l) : ∀ m ∈ marksF l, m.length ≤ n + 1 := by
  intro m hm
  obtain ⟨a, b, e⟩ := List.append_of_mem hm
  have hl : l = a.flatten ++ (m ++ b.flatten) := by
    have h := marksF_flat l
    rw [e, List.flatten_append, List.flatten_cons] at h
    exact h.symm
  cases m with
  | nil => simp
  | cons c ds =>
    have := (r.mid hl).mid (a := [c]) (m := ds) (b := []) (by simp) [] ds [] (by simp) fun d hd => marksF_tail l _ hm d hd
    simp; exact this
/-! ### texts that may be asked -/
structure Good (n r : Nat) (l : List Nat) : Prop where
  asc : ∀ c ∈ l, c < 128
  len : l.length ≤ n
  run : Run r l
theorem Good.app {n r m q : Nat} {a b : List Nat} (ga : Good n r a) (gb : Good m q b) : Good (n + m) (r + q) (a ++ b) :=
  ⟨fun c hc => (List.mem_append.mp hc).elim (ga.asc c) (gb.asc c), by rw [List.length_append]; have := ga.len; have := gb.len; omega, ga.run.app gb.run⟩
theorem Good.mono {n r m q : Nat} {a : List Nat} (g : Good n r a) (h1 : n ≤ m) (h2 : r ≤ q) : Good m q a := ⟨g.asc, Nat.le_trans g.len h1, g.run.mono h2⟩
theorem Good.mid {n r : Nat} {l a m b : List Nat} (g : Good n r l) (h : l = a ++ (m ++ b)) : Good n r m :=
  ⟨fun c hc => g.asc c (by rw [h]; simp [hc]), Nat.le_trans (by rw [h]; simp; omega) g.len, g.run.mid h⟩
theorem Good.take {n r : Nat} {l : List Nat} (g : Good n r l) (i : Nat) : Good n r (l.take i) := g.mid (a := []) (b := l.drop i) (by simp)
theorem Good.drop {n r : Nat} {l : List Nat} (g : Good n r l) (i : Nat) : Good n r (l.drop i) := g.mid (a := l.take i) (b := []) (by simp)
theorem Good.few {n : Nat} {l : List Nat} (h : l.all (· < 128) = true) (hl : l.length ≤ n) : Good n n l := ⟨fun c hc => by simpa using List.all_eq_true.mp h c hc, hl, Run.len hl⟩
theorem Good.slice {n r : Nat} {x : Str} (g : Good n r x.cps.toList) (lo hi : Option Int) : Good n r (Txt.slice x lo hi).cps.toList := by
  rw [slice_codes]
  exact (g.drop _).take _
theorem Good.plus {n r m q : Nat} {a b : Str} (ga : Good n r a.cps.toList) (gb : Good m q b.cps.toList) : Good (n + m) (r + q) (a ++ b).cps.toList := by
  rw [app_codes]; exact ga.app gb
theorem good_line {k : Kd} (ho : k.ok) (hf : k.few) (hs : k.size ≤ 127) : Good 7747 60 (lineC k) := ⟨line_ascii ho, by have := lineC_length hf; omega, run_line hf⟩
theorem atI_some {α : Type} {xs : List α} {i : Int} (h0 : 0 ≤ i) (h1 : i < xs.length) : ∃ v, atI xs i = some v ∧ v ∈ xs := by
  obtain ⟨j, rfl⟩ := Int.eq_ofNat_of_zero_le h0
  have hj : j < xs.length := by omega
  exact ⟨xs[j], atI_nat (List.getElem?_eq_getElem hj), List.getElem_mem hj⟩
def flatC (ss : List Str) : List Nat := ss.flatMap (·.cps.toList)
theorem flatC_snoc (ss : List Str) (z : Str) : flatC (ss ++ [z]) = flatC ss ++ z.cps.toList := by simp [flatC]
theorem flatC_len : ∀ ss : List Str, (ss.map (·.length)).sum = (flatC ss).length
  | [] => rfl
  | z :: r => by
    have e : flatC (z :: r) = z.cps.toList ++ flatC r := by simp [flatC]
    rw [e, List.map_cons, List.sum_cons, List.length_append, flatC_len r, str_len]
theorem txtjoin_codes (ss : List Str) : (Txt.join "" ss).cps.toList = flatC ss := by
  show (Builtin.Str.glued "" ss).cps.toList = _
  have e0 : (Str.ofString "").cps.toList = [] := by decide +kernel
  rw [glued_codes, e0]
  induction ss with
  | nil => rfl
  | cons z r ih =>
    cases r with
    | nil => simp [flatC, glue]
    | cons y r =>
      show z.cps.toList ++ [] ++ glue [] ((y :: r).map fun p => p.cps.toList) = flatC (z :: y :: r)
      rw [ih]
      simp [flatC]
section
variable {P : Program} {w : World} {K : PySem.W.Frag} {mg : Str → Option Value} {base : Heap} {f : Addr} {fd : FuncData}
/-! ### _law_at, _law_room -/
def spAt (K : PySem.W.Frag) : Sp := fun vs H Q _ => ∃ (a : Addr) (ns : List Int) (j : Nat), vs = [.ref a, .int j] ∧ SqL K H a (ns.map V.int) ∧ ∀ i : Int, Q (.int i) H
theorem scAt : FnScope ["_law_script", "_law_k"] ["_law_script", "_law_k"] (defScope sAt) := ⟨rfl, rfl, rfl, by decide +kernel, rfl, by decide +kernel, by decide +kernel⟩
theorem ok_at (F : Fun K "_law_at" "_law_at" sAt f fd) (ml : mg "len" = none) : FnOk P w K mg base CX0 1 f fd ["_law_script", "_law_k"] (spAt K) := by
  refine F.ok scAt (fun vs H Q E h => ?_) (fun cdv A outer s H vs Q E hr h => ?_)
  · obtain ⟨a, ns, j, rfl, _⟩ := h
    rfl
  obtain ⟨a, ns, j, rfl, hA, q⟩ := h
  refine ⟨_, pss_cons (ps_if (pt_cmpR op_lt (pv 1) (pe_callB call_len_seq rfl ml PySem.boot_len (pa_cons (pv 0) pa_nil)) (nomark _))
      (pss_one (ps_ret (pe_ix ix_list (pv 0) (pv 1) (fun _ _ => rfl)))) pss_nil)
    (pss_one (ps_ret pe_int)), ?_⟩
  refine ⟨_, rfl, _, rfl, a, _, rfl, .inl hA, _, _, rfl, rfl, _, rfl, ?_⟩
  refine ite2 (fun h1 => ?_) fun h1 => q 0
  have hj : (j : Int) < (ns.map V.int).length := of_decide_eq_true h1
  obtain ⟨v, hv, hm⟩ := atI_some (xs := ns.map V.int) (i := (j : Int)) (by omega) hj
  obtain ⟨i, _, rfl⟩ := List.mem_map.mp hm
  exact ⟨_, rfl, _, rfl, a, _, _, _, rfl, rfl, hA, hv, q i⟩
def spRoom (K : PySem.W.Frag) : Sp := fun vs H Q _ => ∃ (a : Addr) (ns : List Int) (i j : Int), vs = [.ref a, .int i, .int j] ∧ SqL K H a (ns.map V.int) ∧ ∀ r : Int, Q (.int r) H
theorem scRoom : FnScope ["_law_script", "_law_most", "_law_bound"] ["_law_script", "_law_most", "_law_bound"] (defScope sRoom) := ⟨rfl, rfl, rfl, by decide +kernel, rfl, by decide +kernel, by decide +kernel⟩
theorem ok_room (F : Fun K "_law_room" "_law_room" sRoom f fd) (ml : mg "len" = none) : FnOk P w K mg base CX0 1 f fd ["_law_script", "_law_most", "_law_bound"] (spRoom K) := by
  refine F.ok scRoom (fun vs H Q E h => ?_) (fun cdv A outer s H vs Q E hr h => ?_)
  · obtain ⟨a, ns, i, j, rfl, _⟩ := h
    rfl
  obtain ⟨a, ns, i, j, rfl, hA, q⟩ := h
  refine ⟨_, pss_cons (ps_if (pt_cmpR op_gt (pe_callB call_len_seq rfl ml PySem.boot_len (pa_cons (pv 0) pa_nil)) pe_int (nomark _))
      (pss_one (ps_ret (pv 2))) pss_nil)
    (pss_one (ps_ret (pv 1))), ?_⟩
  refine ⟨_, rfl, a, _, rfl, .inl hA, _, _, rfl, rfl, _, rfl, ?_⟩
  exact ite2 (fun _ => ⟨_, rfl, q j⟩) fun _ => ⟨_, rfl, q i⟩
end
end K1

set_option Elab.async false
set_option maxRecDepth 100000
namespace L2
open PySem PySem.Spec PyProof.Rows
theorem se_const {c j p} (es : List Expr) (env : Env) : starEach (.Constant c j p :: es) env = (false, eval (.Constant c j p) env) :: starEach es env := by rw [starEach]; intro _ _ h; cases h
theorem se_list {l p} (es : List Expr) (env : Env) : starEach (.List l p :: es) env = (false, eval (.List l p) env) :: starEach es env := by rw [starEach]; intro _ _ h; cases h
section
variable {X : Cx} {es : List Expr} {t : TA}
theorem pa_str {x j p} (hr : PA X es t) : PA X (.Constant (.str x) j p :: es) (tCons (tC (.str x)) t) := pa_cons pe_str hr (se_const es X.env)
theorem pa_int {x j p} (hr : PA X es t) : PA X (.Constant (.int x) j p :: es) (tCons (tC (.int x)) t) := pa_cons pe_int hr (se_const es X.env)
theorem pa_lst {l p ta} (h : PA X l ta) (hr : PA X es t) : PA X (.List l p :: es) (tCons (tLst ta) t) := pa_cons (pe_lst h) hr (se_list es X.env)
/-- a judgement as it stands -/
structure Hid (p : Prop) : Prop where
  out : p
theorem hpa_nil : Hid (PA X [] tNil) := ⟨pa_nil⟩
theorem hpa_str {x j p} (hr : Hid (PA X es t)) : Hid (PA X (.Constant (.str x) j p :: es) (tCons (tC (.str x)) t)) := ⟨pa_str hr.out⟩
theorem hpa_lst {l p ta} (h : Hid (PA X l ta)) (hr : Hid (PA X es t)) : Hid (PA X (.List l p :: es) (tCons (tLst ta) t)) := ⟨pa_lst h.out hr.out⟩
theorem hps_lst {i : Nat} {x : Str} {p pos pos' : Pos} (hN : X.N.Nodup) (hi : X.N[i]? = some x) (hx : Loc X.env.scope x) (h : Hid (PA X es t)) (hf : X.fn x = true ∨ X.env.scope.names.lookup x = some .local := by first | exact .inl rfl | exact .inr rfl | assumption) :
    Hid (PS X (.Assign [.Name x pos'] (.List es p) pos) (tAsg (tLst t) (gName i))) := ⟨ps_set hN hi hx (pe_lst h.out) rfl hf⟩
theorem hpss_cons {st : Stmt} {rest : List Stmt} {t u : TS} (h1 : Hid (PS X st t)) (h2 : PSs X rest u) : Hid (PSs X (st :: rest) (tSeq t u)) := ⟨pss_cons h1.out h2⟩
theorem hps_if {c : Expr} {a b : List Stmt} {tc : TT} {t u : TS} {pos : Pos} (hc : PT X c tc) (ha : Hid (PSs X a t)) (hb : PSs X b u) : PS X (.If c a b pos) (tIfS tc t u) := ps_if hc ha.out hb
theorem hpe_cat {a : Expr} {ta : TE} {p pos : Pos} (ha : PE X a ta) (h : Hid (PA X es t)) : PE X (.BinOp a .Add (.List es p) pos) (tOp rCat ta (tLst t)) := pe_op op_cat ha (pe_lst h.out)
end
end L2
namespace K1
open PySem L2 Wk
/-- a frame: a list of two short texts -/
def FrAt (H : Hp) (v : V) : Prop := ∃ p a b, v = .ref p ∧ H p = some (.lst [.str a, .str b]) ∧ Good 5 5 a.cps.toList ∧ Good 5 5 b.cps.toList
theorem FrAt.mono {H H' : Hp} {v : V} (S : Same H H') (h : FrAt H v) : FrAt H' v := let ⟨p, a, b, e, h, r⟩ := h; ⟨p, a, b, e, S _ _ h, r⟩
def tFrs : List (Str × Str) → TA
  | [] => tNil
  | (a, b) :: r => tCons (tLst (tCons (tC (.str a)) (tCons (tC (.str b)) tNil))) (tFrs r)
theorem frs_read {σ : St} : ∀ (fs : List (Str × Str)) (H : Hp) (Q : List V → Hp → Prop), (∀ ab ∈ fs, Good 5 5 ab.1.cps.toList ∧ Good 5 5 ab.2.cps.toList) → (∀ vs H', Same H H' → vs.length = fs.length → (∀ v ∈ vs, FrAt H' v) → Q vs H') → tFrs fs σ H Q
  | [], H, Q, _, q => q [] H (Same.refl H) rfl (by simp)
  | (a, b) :: r, H, Q, hg, q => by
    refine ⟨(by show 2 ≤ sizeLine; decide), fun p hp => ?_⟩
    have S1 : Same H (upd H p (.lst [.str a, .str b])) := Same.new hp
    refine frs_read r _ _ (fun ab h => hg ab (List.mem_cons_of_mem _ h)) fun vs H' S' hl hf => ?_
    refine q (.ref p :: vs) H' (S1.trans S') (by simp [hl]) fun v hv => ?_
    rcases List.mem_cons.mp hv with rfl | hv
    · exact ⟨p, a, b, rfl, S' _ _ upd_same, hg (a, b) List.mem_cons_self⟩
    · exact hf v hv
theorem frs6 {σ : St} {a1 b1 a2 b2 a3 b3 a4 b4 a5 b5 a6 b6 : Str} {H : Hp} {Q : VK} (hg : Good 5 5 a1.cps.toList ∧ Good 5 5 b1.cps.toList ∧ Good 5 5 a2.cps.toList ∧ Good 5 5 b2.cps.toList ∧ Good 5 5 a3.cps.toList ∧ Good 5 5 b3.cps.toList ∧ Good 5 5 a4.cps.toList ∧ Good 5 5 b4.cps.toList ∧ Good 5 5 a5.cps.toList ∧ Good 5 5 b5.cps.toList ∧ Good 5 5 a6.cps.toList ∧ Good 5 5 b6.cps.toList) (q : ∀ vs H', Same H H' → vs.length = 6 → (∀ v ∈ vs, FrAt H' v) → ∀ p, H' p = none → Q (.ref p) (upd H' p (.lst vs))) : tLst (tCons (tLst (tCons (tC (.str a1)) (tCons (tC (.str b1)) tNil))) (tCons (tLst (tCons (tC (.str a2)) (tCons (tC (.str b2)) tNil))) (tCons (tLst (tCons (tC (.str a3)) (tCons (tC (.str b3)) tNil))) (tCons (tLst (tCons (tC (.str a4)) (tCons (tC (.str b4)) tNil))) (tCons (tLst (tCons (tC (.str a5)) (tCons (tC (.str b5)) tNil))) (tCons (tLst (tCons (tC (.str a6)) (tCons (tC (.str b6)) tNil))) tNil)))))) σ H Q := by
  obtain ⟨g1, h1, g2, h2, g3, h3, g4, h4, g5, h5, g6, h6⟩ := hg
  refine frs_read [(a1, b1), (a2, b2), (a3, b3), (a4, b4), (a5, b5), (a6, b6)] H _ (fun ab hab => ?_) fun vs H' S hl hf => ⟨by rw [hl]; show 6 ≤ sizeLine; decide, fun p hp => q vs H' S hl hf p hp⟩
  simp only [List.mem_cons, List.not_mem_nil, or_false] at hab
  rcases hab with rfl | rfl | rfl | rfl | rfl | rfl
  · exact ⟨g1, h1⟩
  · exact ⟨g2, h2⟩
  · exact ⟨g3, h3⟩
  · exact ⟨g4, h4⟩
  · exact ⟨g5, h5⟩
  · exact ⟨g6, h6⟩
theorem asg_read {te : TE} {g : TG} {u : TS} {D : Ends} {σ : St} {H : Hp} (h : te σ H fun x H1 => g x σ H1 (u D)) : tSeq (tAsg te g) u D σ H := h
theorem op_read {r : R2} {ta tb : TE} {σ : St} {H : Hp} {Q : VK} (h : ta σ H fun x H1 => tb σ H1 fun y H2 => r x y H2 Q) : tOp r ta tb σ H Q := h
theorem var_read {i : Nat} {σ : St} {H : Hp} {Q : VK} {v : V} (e : σ[i]? = some (some v)) (h : Q v H) : tVar i σ H Q := ⟨v, e, h⟩
def compIn (s : Stmt) : Scope := match s with
  | .FunctionDef _ _ (_ :: .If _ (_ :: .Return (some (.Call _ [.ListComp _ _ sc _] _ _)) _ :: _) _ _ :: _) _ _ _ _ _ _ _ => sc
  | _ => { kind := .function, names := [], isGenerator := false, isCoroutine := false }
theorem cut_ints (ns : List Int) (lo hi : Option Int) : ∃ ms : List Int, cutV (ns.map V.int) lo hi = ms.map V.int ∧ ms.length ≤ ns.length := by
  refine ⟨(ns.drop (HT.sIx (ns.map V.int).length 0 lo)).take (HT.sIx (ns.map V.int).length (ns.map V.int).length hi - HT.sIx (ns.map V.int).length 0 lo), ?_, ?_⟩
  · unfold cutV
    rw [List.map_take, List.map_drop]
  · rw [List.length_take, List.length_drop]; omega
theorem mod_rng (i : Int) {n : Int} (h : 0 < n) : 0 ≤ i % n ∧ i % n < n := ⟨Int.emod_nonneg _ (by omega), Int.emod_lt_of_pos _ h⟩
section
variable {P : Program} {w : World} {K : PySem.W.Frag} {mg : Str → Option Value} {base : Heap} {f aA aR aK aL : Addr} {fd dA dR dK dL : FuncData}
def spAsked (K : PySem.W.Frag) : Sp := fun vs H Q _ => ∃ (a : Addr) (ns : List Int), vs = [.ref a] ∧ SqL K H a (ns.map V.int) ∧ ns.length ≤ 63 ∧ ∀ x H', Same H H' → Good 20000 400 x.cps.toList → Q (.str x) H'
theorem scAsked : FnScope ["_law_script", "_law_way", "_law_pieces", "_law_line", "_law_frames", "_law_pair", "_law_place", "_law_sign", "_law_signs"] ["_law_script"] (defScope sAsked) := ⟨rfl, rfl, rfl, by decide +kernel, rfl, by decide +kernel, by decide +kernel⟩
abbrev pcs : List V := [.str "n", .str "?", .str "0", .str "7", .str "?2", .str "(", .str ")", .str ",", .str ">", .str "(n,", .str "?01", .str ">n)"]
theorem pcs_good : ∀ v ∈ pcs, ∃ t : Str, v = .str t ∧ Good 3 3 t.cps.toList := by
  intro v hv
  simp only [pcs, List.mem_cons, List.not_mem_nil, or_false] at hv
  rcases hv with rfl | rfl | rfl | rfl | rfl | rfl | rfl | rfl | rfl | rfl | rfl | rfl <;> exact ⟨_, rfl, Good.few (by decide +kernel) (by decide +kernel)⟩
set_option maxHeartbeats 8000000 in
theorem ok_asked (F : Fun K "_law_asked" "_law_asked" sAsked f fd) (ml : mg "len" = none)
    (GA : FnOk P w K mg base CX0 1 aA dA ["_law_script", "_law_k"] (spAt K)) (bA : Binds K dA ["_law_script", "_law_k"] []) (kA : PySem.W.keepIn K (.ref aA) = true) (mA : mg "_law_at" = some (.ref aA))
    (GR : FnOk P w K mg base CX0 1 aR dR ["_law_script", "_law_most", "_law_bound"] (spRoom K)) (bR : Binds K dR ["_law_script", "_law_most", "_law_bound"] []) (kR : PySem.W.keepIn K (.ref aR) = true) (mR : mg "_law_room" = some (.ref aR))
    (GK : FnOk P w K mg base CX0 2 aK dK ["_law_cells"] (spKindBy K)) (bK : Binds K dK ["_law_cells"] []) (kK : PySem.W.keepIn K (.ref aK) = true) (mK : mg "_law_kind_by" = some (.ref aK))
    (GL : FnOk P w K mg base CX0 1 aL dL ["_law_kind"] spLine) (bL : Binds K dL ["_law_kind"] []) (kL : PySem.W.keepIn K (.ref aL) = true) (mL : mg "_law_line_of" = some (.ref aL)) :
    FnOk P w K mg base CX0 3 f fd ["_law_script"] (spAsked K) := by
  refine F.ok (k := 2) scAsked (fun vs H Q E h => ?_) (fun cdv A outer s H vs Q E hr h => ?_)
  · obtain ⟨a, ns, rfl, _⟩ := h
    rfl
  obtain ⟨a, ns, rfl, hA, hn, q⟩ := h
  have nd := scAsked.nd
  have hr1 := hr.mono (show 1 ≤ 2 by decide)
  have C : CompScope (cxOf CX0 P w K mg base ["_law_script", "_law_way", "_law_pieces", "_law_line", "_law_frames", "_law_pair", "_law_place", "_law_sign", "_law_signs"] "_law_asked" (defScope sAsked) f cdv A outer s H E).nox "_law_cell" ["_law_pieces"] [2] (compIn sAsked) [("_law_pieces", s.heap.objs.size + 1)] := by
    refine ⟨rfl, by decide +kernel, by decide +kernel, rfl, by decide +kernel, rfl, fun y hy => ?_, fun y c h => h, fun i y h => ?_, rfl⟩
    · have key : ∀ kd, ((relabel (compIn sAsked) (cxOf CX0 P w K mg base ["_law_script", "_law_way", "_law_pieces", "_law_line", "_law_frames", "_law_pair", "_law_place", "_law_sign", "_law_signs"] "_law_asked" (defScope sAsked) f cdv A outer s H E).nox.env).names.lookup y = some kd) → (kd = .cell ∨ kd = .free) → y = "_law_pieces" := fun kd h hk => by
        have hm := PySem.mem_of_lookup h
        have hm' : (y, kd) ∈ [((".0" : Str), NameKind.local), ("_law_cell", .local), ("_law_pieces", .cell)] := hm
        simp only [List.mem_cons, List.not_mem_nil, or_false, Prod.mk.injEq] at hm'
        rcases hm' with ⟨_, z⟩ | ⟨_, z⟩ | ⟨z, _⟩
        · rcases hk with hk | hk <;> (rw [hk] at z; cases z)
        · rcases hk with hk | hk <;> (rw [hk] at z; cases z)
        · exact z
      have e : y = "_law_pieces" := by
        rcases hy with hy | hy
        · exact key _ hy (.inl rfl)
        · exact key _ hy (.inr rfl)
      subst e
      exact ⟨_, rfl⟩
    · match i, h with
      | 0, h =>
        cases (Option.some.inj h)
        exact ⟨2, rfl, rfl, Or.inr (Or.inl rfl), .inl rfl, .inl rfl⟩
  refine ⟨_, pss_cons (ps_set (i := 1) nd rfl (Or.inl rfl) (pe_op op_mod (pe_call GA hr1 rfl mA kA bA .nil pass0 (pa_cons (pv 0) (pa_cons pe_int pa_nil))) pe_int))
    (pss_cons (hps_if (pt_cmpR op_eq (pv 1) pe_int (nomark _))
      (hpss_cons (hps_lst (i := 2) nd rfl (Or.inr rfl) (hpa_str (hpa_str (hpa_str (hpa_str (hpa_str (hpa_str (hpa_str (hpa_str (hpa_str (hpa_str (hpa_str (hpa_str hpa_nil)))))))))))))
      (pss_one (ps_ret (pe_bm PySem.F.plainAttrs_str PySem.F.slot_str_join PySem.F.type_str_join mt_join pe_str (pa_cons (pe_comp C rfl (pi_list (pe_slice sl_list (pv 0) (po_some pe_int) (po_some pe_int))) (fun C' fp s' H' => pe_ix (r := rIxL K) ix_list (pv 1) (pe_op op_mod (pv 0) pe_int) (fun _ _ => rfl))) pa_nil))))) pss_nil)
    (pss_cons (ps_set (i := 3) nd rfl (Or.inl rfl) (pe_call GL hr1 rfl mL kL bL .nil pass0 (pa_cons (pe_call GK hr rfl mK kK bK .nil pass0 (pa_cons (pe_slice sl_list (pv 0) (po_some pe_int) (po_some (pe_op op_add pe_int (pe_call GR hr1 rfl mR kR bR .nil pass0 (pa_cons (pv 0) (pa_cons pe_int (pa_cons pe_int pa_nil))))))) pa_nil)) pa_nil)))
    (pss_cons (hps_if (pt_cmpR op_gt (pv 1) pe_int (nomark _))
      (hpss_cons (hps_lst (i := 4) nd rfl (Or.inl rfl) (hpa_lst (hpa_str (hpa_str hpa_nil)) (hpa_lst (hpa_str (hpa_str hpa_nil)) (hpa_lst (hpa_str (hpa_str hpa_nil)) (hpa_lst (hpa_str (hpa_str hpa_nil)) (hpa_lst (hpa_str (hpa_str hpa_nil)) (hpa_lst (hpa_str (hpa_str hpa_nil)) hpa_nil)))))))
      (pss_cons (ps_set (i := 4) nd rfl (Or.inl rfl) (hpe_cat (pv 4) (hpa_lst (hpa_str (hpa_str hpa_nil)) (hpa_lst (hpa_str (hpa_str hpa_nil)) (hpa_lst (hpa_str (hpa_str hpa_nil)) (hpa_lst (hpa_str (hpa_str hpa_nil)) (hpa_lst (hpa_str (hpa_str hpa_nil)) (hpa_lst (hpa_str (hpa_str hpa_nil)) hpa_nil))))))))
      (pss_cons (ps_set (i := 5) nd rfl (Or.inl rfl) (pe_ix ix_list (pv 4) (pe_op op_mod (pe_call GA hr1 rfl mA kA bA .nil pass0 (pa_cons (pv 0) (pa_cons pe_int pa_nil))) pe_int) (fun _ _ => rfl)))
      (pss_one (ps_ret (pe_op op_add_str (pe_op op_add_str (pe_ix ix_list (pv 5) pe_int (fun _ _ => rfl)) (pv 3)) (pe_ix ix_list (pv 5) pe_int (fun _ _ => rfl)))))))) pss_nil)
    (pss_cons (ps_set (i := 6) nd rfl (Or.inl rfl) (pe_op op_mod (pe_call GA hr1 rfl mA kA bA .nil pass0 (pa_cons (pv 0) (pa_cons pe_int pa_nil))) (pe_op op_add (pe_callB call_len_str rfl ml PySem.boot_len (pa_cons (pv 3) pa_nil)) pe_int)))
    (pss_cons (ps_set (i := 7) nd rfl (Or.inl rfl) (pe_ix ix_str pe_str (pe_op op_mod (pe_call GA hr1 rfl mA kA bA .nil pass0 (pa_cons (pv 0) (pa_cons pe_int pa_nil))) pe_int) (fun _ _ => rfl)))
    (pss_cons (ps_if (pt_cmpR op_eq (pe_op op_mod (pe_op op_fdiv (pe_call GA hr1 rfl mA kA bA .nil pass0 (pa_cons (pv 0) (pa_cons pe_int pa_nil))) pe_int) pe_int) pe_int (nomark _))
      (pss_cons (ps_set (i := 8) nd rfl (Or.inl rfl) pe_str)
      (pss_cons (ps_set (i := 8) nd rfl (Or.inl rfl) (pe_op op_add_str (pv 8) pe_str))
      (pss_one (ps_set (i := 7) nd rfl (Or.inl rfl) (pe_ix ix_str (pv 8) (pe_op op_mod (pe_call GA hr1 rfl mA kA bA .nil pass0 (pa_cons (pv 0) (pa_cons pe_int pa_nil))) (pe_callB call_len_str rfl ml PySem.boot_len (pa_cons (pv 8) pa_nil))) (fun _ _ => rfl)))))) pss_nil)
    (pss_cons (ps_if (pt_cmpR op_eq (pv 1) pe_int (nomark _)) (pss_one (ps_ret (pe_op op_add_str (pe_op op_add_str (pe_slice sl_str (pv 3) po_none (po_some (pv 6))) (pv 7)) (pe_slice sl_str (pv 3) (po_some (pe_op op_add (pv 6) pe_int)) po_none)))) pss_nil)
    (pss_cons (ps_if (pt_cmpR op_eq (pv 1) pe_int (nomark _)) (pss_one (ps_ret (pe_op op_add_str (pe_slice sl_str (pv 3) po_none (po_some (pv 6))) (pe_slice sl_str (pv 3) (po_some (pe_op op_add (pv 6) pe_int)) po_none)))) pss_nil)
    (pss_cons (ps_if (pt_cmpR op_eq (pv 1) pe_int (nomark _)) (pss_one (ps_ret (pe_op op_add_str (pe_op op_add_str (pe_slice sl_str (pv 3) po_none (po_some (pv 6))) (pv 7)) (pe_slice sl_str (pv 3) (po_some (pv 6)) po_none)))) pss_nil)
    (pss_one (ps_ret (pv 3)))))))))))), ?_⟩
  have lk : ∀ {H' : Hp}, Same H H' → SqL K H' a (ns.map V.int) := fun S => S.seq hA
  refine ⟨_, rfl, a, ns, 0, rfl, hA, fun w0 => ⟨_, _, rfl, rfl, (by show (0 : Int) < 7; decide), ?_⟩⟩
  refine ⟨_, rfl, rfl, _, rfl, ?_⟩
  refine ite2 (fun _ => ?_) fun _ => ?_
  · refine ⟨(by show 12 ≤ sizeLine; decide), fun lp hlp => ?_⟩
    have S1 : Same H (upd H lp (.lst pcs)) := Same.new hlp
    have hP : upd H lp (.lst pcs) lp = some (.lst pcs) := upd_same
    refine ⟨rfl, ?_⟩
    obtain ⟨ms, e1, l1⟩ := cut_ints ns (some 1) (some 16)
    refine ⟨_, rfl, _, rfl, _, rfl, a, _, rfl, lk S1, fun p1 hp1 => ⟨p1, rfl, ⟨_, SqL.of upd_same⟩, fun D hD => ?_⟩⟩
    have S2 : Same (upd H lp (.lst pcs)) (upd (upd H lp (.lst pcs)) p1 (.lst (cutV (ns.map V.int) (some 1) (some 16)))) := Same.new hp1
    have hM : upd (upd H lp (.lst pcs)) p1 (.lst (cutV (ns.map V.int) (some 1) (some 16))) p1 = some (.lst (ms.map V.int)) := by rw [upd_same, e1]
    have hP2 := S2 _ _ hP
    have S3 := S1.trans S2
    generalize upd (upd H lp (.lst pcs)) p1 (.lst (cutV (ns.map V.int) (some 1) (some 16))) = H2 at hD hM hP2 S3 ⊢
    refine ⟨(fun i m ys H3 => m = ms.length - i ∧ i ≤ ms.length ∧ Same H2 H3 ∧ H3 D = some (.lst ys) ∧ ∃ ts : List Str, ys = ts.map V.str ∧ ts.length = i ∧ Good (3 * i) (3 * i) (flatC ts)),
      ⟨ms.length, rfl, Nat.zero_le _, Same.new hD, upd_same, [], rfl, rfl, Good.few rfl (Nat.le_refl _)⟩, ?_⟩
    rintro i m ys H3 ⟨rfl, hi, S4, hD3, ts, rfl, hts, hg⟩
    refine ⟨hD3, ?_⟩
    by_cases hlt : i < ms.length
    · have hgx : (ms.map V.int)[i]? = some (.int ms[i]) := by rw [List.getElem?_map, List.getElem?_eq_getElem hlt]; rfl
      refine .inr ⟨⟨_, _, SqL.of (S4 _ _ hM), hgx⟩, lt_line (by rw [List.length_map]; omega), fun x H4 hyld => ?_⟩
      obtain ⟨rfl, hyld⟩ := hyld
      have hxe := hyld _ (SqL.of (S4 _ _ hM))
      rw [hgx] at hxe
      cases (Option.some.inj hxe)
      obtain ⟨h0, h1⟩ := mod_rng ms[i] (n := 12) (by decide)
      obtain ⟨v, hv, hvm⟩ := atI_some (xs := pcs) h0 (by show _ < ((12 : Nat) : Int); omega)
      obtain ⟨t, rfl, gt⟩ := pcs_good v hvm
      refine ⟨_, rfl, _, rfl, _, _, rfl, rfl, (by show (0 : Int) < 12; decide), lp, _, _, _, rfl, rfl, SqL.of (S4 _ _ hP2), hv, hD3, ms.length - (i + 1), by omega, rfl, hlt, S4.upd hD, upd_same, ts ++ [t], by simp, by simp [hts], ?_⟩
      rw [flatC_snoc]
      exact (hg.app gt).mono (by omega) (by omega)
    · refine .inl ⟨⟨_, SqL.of (S4 _ _ hM), by rw [List.length_map]; omega⟩, ?_⟩
      refine ⟨"", D, ts, rfl, rfl, SqL.of hD3, ?_, ?_⟩
      · have h1 := flatC_len ts
        have h2 := hg.len
        exact PyProof.Rows.joinOk_of_weight (by omega) (by decide)
      · refine q _ H3 (S3.trans S4) ?_
        rw [txtjoin_codes]
        exact hg.mono (by omega) (by omega)
  · refine ⟨_, rfl, _, rfl, _, rfl, a, ns, _, _, rfl, hA, fun r => ⟨_, _, rfl, rfl, _, rfl, a, _, rfl, hA, fun p1 hp1 => ?_⟩⟩
    obtain ⟨m1, e1, l1⟩ := cut_ints ns (some 3) (some (3 + r))
    refine ⟨p1, m1, rfl, SqL.of (upd_same.trans (congrArg (fun l => some (HO.lst l)) e1)), by omega, fun v k H1 S1 kv ⟨hok, hfw⟩ hsz => ?_⟩
    have gl := good_line hok hfw (by omega)
    refine ⟨v, k, rfl, kv, few_3 hfw, by omega, Nat.le_trans gl.len (by decide), fun x H2 S2 hx => ?_⟩
    have S3 : Same H H2 := ((Same.new hp1).trans S1).trans S2
    rw [← hx] at gl
    have hxl : x.length ≤ 7747 := by rw [str_len]; exact gl.len
    refine ⟨_, rfl, _, _, rfl, rfl, _, rfl, ?_⟩
    refine ite2 (fun _ => ?_) fun _ => ?_
    · refine asg_read (frs6 ⟨Good.few (by decide +kernel) (by decide +kernel), Good.few (by decide +kernel) (by decide +kernel), Good.few (by decide +kernel) (by decide +kernel), Good.few (by decide +kernel) (by decide +kernel), Good.few (by decide +kernel) (by decide +kernel), Good.few (by decide +kernel) (by decide +kernel), Good.few (by decide +kernel) (by decide +kernel), Good.few (by decide +kernel) (by decide +kernel), Good.few (by decide +kernel) (by decide +kernel), Good.few (by decide +kernel) (by decide +kernel), Good.few (by decide +kernel) (by decide +kernel), Good.few (by decide +kernel) (by decide +kernel)⟩ fun vs1 H3 S4 n1 f1 q1 hq1 => ?_)
      have S5 : Same H3 (upd H3 q1 (.lst vs1)) := Same.new hq1
      have hv1 : upd H3 q1 (.lst vs1) q1 = some (.lst vs1) := upd_same
      have f1' : ∀ v ∈ vs1, FrAt (upd H3 q1 (.lst vs1)) v := fun v hv => (f1 v hv).mono S5
      have S6 := (S3.trans S4).trans S5
      generalize upd H3 q1 (.lst vs1) = H4 at hv1 f1' S6 ⊢
      refine asg_read (op_read (var_read rfl (frs6 ⟨Good.few (by decide +kernel) (by decide +kernel), Good.few (by decide +kernel) (by decide +kernel), Good.few (by decide +kernel) (by decide +kernel), Good.few (by decide +kernel) (by decide +kernel), Good.few (by decide +kernel) (by decide +kernel), Good.few (by decide +kernel) (by decide +kernel), Good.few (by decide +kernel) (by decide +kernel), Good.few (by decide +kernel) (by decide +kernel), Good.few (by decide +kernel) (by decide +kernel), Good.few (by decide +kernel) (by decide +kernel), Good.few (by decide +kernel) (by decide +kernel), Good.few (by decide +kernel) (by decide +kernel)⟩ fun vs2 H5 S7 n2 f2 q2 hq2 => ?_)))
      have S8 : Same H5 (upd H5 q2 (.lst vs2)) := Same.new hq2
      have hv2 : upd H5 q2 (.lst vs2) q2 = some (.lst vs2) := upd_same
      have hv1' := (S7.trans S8) _ _ hv1
      have fAll : ∀ v ∈ vs1 ++ vs2, FrAt (upd H5 q2 (.lst vs2)) v := fun v hv => (List.mem_append.mp hv).elim (fun z => (f1' v z).mono (S7.trans S8)) fun z => (f2 v z).mono S8
      have S9 := S6.trans (S7.trans S8)
      generalize upd H5 q2 (.lst vs2) = H6 at hv2 hv1' fAll S9 ⊢
      refine ⟨q1, q2, vs1, vs2, rfl, rfl, hv1', hv2, le_line (by rw [n1, n2]; decide), fun q3 hq3 => ?_⟩
      have S10 : Same H6 (upd H6 q3 (.lst (vs1 ++ vs2))) := Same.new hq3
      obtain ⟨h0, h1⟩ : True ∧ True := ⟨trivial, trivial⟩
      refine ⟨_, rfl, _, rfl, a, ns, 1, rfl, lk (S9.trans S10), fun w1 => ⟨_, _, rfl, rfl, (by show (0 : Int) < 12; decide), ?_⟩⟩
      obtain ⟨h0, h1⟩ := mod_rng w1 (n := 12) (by decide)
      obtain ⟨v', hv', hvm⟩ := atI_some (xs := vs1 ++ vs2) h0 (by rw [List.length_append, n1, n2]; show _ < ((12 : Nat) : Int); omega)
      obtain ⟨pp, ta, tb, rfl, hpp, ga, gb⟩ := (fAll v' hvm).mono S10
      have ha5 : ta.length ≤ 5 := by rw [str_len]; exact ga.len
      have hb5 : tb.length ≤ 5 := by rw [str_len]; exact gb.len
      have hax : (ta ++ x).length = ta.length + x.length := Str.length_append ta x
      refine ⟨q3, _, _, _, rfl, rfl, SqL.of upd_same, hv', ?_⟩
      refine ⟨_, rfl, pp, _, 0, _, rfl, rfl, SqL.of hpp, atI_nat (j := 0) rfl, _, rfl, ta, x, rfl, rfl, le_line (by omega), _, rfl, pp, _, 1, _, rfl, rfl, SqL.of hpp, atI_nat (j := 1) rfl, ta ++ x, tb, rfl, rfl, le_line (by omega), ?_⟩
      exact q _ _ (S9.trans S10) (((ga.plus gl).plus gb).mono (by omega) (by omega))
    · refine ⟨_, rfl, a, ns, 1, rfl, lk S3, fun w1 => ⟨_, rfl, x, rfl, le_line (by omega), _, _, rfl, rfl, _, _, rfl, rfl, (by show (0 : Int) < (x.length : Int) + 1; omega), ?_⟩⟩
      refine ⟨_, rfl, a, ns, 2, rfl, lk S3, fun w2 => ⟨_, _, rfl, rfl, (by show (0 : Int) < 10; decide), ?_⟩⟩
      obtain ⟨h0, h1⟩ := mod_rng w2 (n := 10) (by decide)
      obtain ⟨c, hc, hcm⟩ := atI_some (xs := (Str.ofString "n?(),>0-a ").cps.toList) h0 (by rw [show (Str.ofString "n?(),>0-a ").cps.toList.length = 10 from by decide +kernel]; omega)
      have hc8 : c < 128 := by
        have := List.all_eq_true.mp (show (Str.ofString "n?(),>0-a ").cps.toList.all (· < 128) = true from by decide +kernel) c hcm
        simpa using this
      refine ⟨_, _, c, rfl, rfl, le_line (by decide +kernel), hc, ?_⟩
      clear h0 h1 hc hcm
      refine ⟨_, rfl, a, ns, 2, rfl, lk S3, fun w3 => ⟨_, _, rfl, rfl, (by exact ⟨by decide, by decide⟩), _, _, rfl, rfl, (by show (0 : Int) < 3; decide), rfl, _, rfl, ?_⟩⟩
      refine ite2 (fun _ => ?_) fun _ => ?_
      rotate_left
      rotate_left
      clear hc8
      refine ⟨_, rfl, _, _, rfl, rfl, le_line (by decide +kernel), ?_⟩
      refine ⟨_, rfl, _, rfl, a, ns, 2, rfl, lk S3, fun w4 => ⟨_, rfl, _, rfl, le_line (by decide +kernel), _, _, rfl, rfl, (by show (0 : Int) < ((Str.ofString "!\"#$&'()*+,-./0123456789:;<=>?@ABCDEFGHIJKLMNOPQRSTUVWXYZ" ++ Str.ofString "[\\]^_`abcdefghijklmnopqrstuvwxyz{|}~ ").length : Nat); decide +kernel), ?_⟩⟩
      obtain ⟨h0, h1⟩ := mod_rng w4 (n := ((Str.ofString "!\"#$&'()*+,-./0123456789:;<=>?@ABCDEFGHIJKLMNOPQRSTUVWXYZ" ++ Str.ofString "[\\]^_`abcdefghijklmnopqrstuvwxyz{|}~ ").length : Nat)) (by decide +kernel)
      obtain ⟨c, hc, hcm⟩ := atI_some (xs := (Str.ofString "!\"#$&'()*+,-./0123456789:;<=>?@ABCDEFGHIJKLMNOPQRSTUVWXYZ" ++ Str.ofString "[\\]^_`abcdefghijklmnopqrstuvwxyz{|}~ ").cps.toList) h0 (by rw [← str_len]; exact h1)
      have hc8 : c < 128 := by
        have := List.all_eq_true.mp (show (Str.ofString "!\"#$&'()*+,-./0123456789:;<=>?@ABCDEFGHIJKLMNOPQRSTUVWXYZ" ++ Str.ofString "[\\]^_`abcdefghijklmnopqrstuvwxyz{|}~ ").cps.toList.all (· < 128) = true from by decide +kernel) c hcm
        simpa using this
      refine ⟨_, _, c, rfl, rfl, le_line (by decide +kernel), hc, ?_⟩
      clear h0 h1 hc hcm
      all_goals
        have g1 : Good 1 1 (⟨#[c]⟩ : Str).cps.toList := Good.few (by simpa using hc8) (by simp)
        have sl : ∀ lo hi, (Txt.slice x lo hi).length ≤ 7747 := fun lo hi => by rw [str_len]; exact (gl.slice lo hi).len
        have ap : ∀ lo hi, (Txt.slice x lo hi ++ (⟨#[c]⟩ : Str)).length = (Txt.slice x lo hi).length + 1 := fun lo hi => Str.length_append _ _
        refine ⟨_, rfl, rfl, _, rfl, ?_⟩
        refine ite2 (fun _ => ?_) fun _ => ?_
        · refine ⟨_, rfl, _, rfl, _, rfl, x, rfl, le_line (by omega), _, rfl, _, _, rfl, rfl, le_line (by have := sl none (some (w1 % ((x.length : Int) + 1))); show _ + 1 ≤ _; omega), ?_⟩
          refine ⟨_, rfl, _, rfl, _, _, rfl, rfl, _, rfl, x, rfl, le_line (by omega), _, _, rfl, rfl, le_line (by rw [ap]; have := sl none (some (w1 % ((x.length : Int) + 1))); have := sl (some (w1 % ((x.length : Int) + 1) + 1)) none; omega), ?_⟩
          exact q _ _ S3 ((((gl.slice _ _).plus g1).plus (gl.slice _ _)).mono (by omega) (by omega))
        · refine ⟨_, rfl, rfl, _, rfl, ?_⟩
          refine ite2 (fun _ => ?_) fun _ => ?_
          · refine ⟨_, rfl, _, rfl, _, rfl, x, rfl, le_line (by omega), _, rfl, _, rfl, _, _, rfl, rfl, _, rfl, x, rfl, le_line (by omega), _, _, rfl, rfl, le_line (by have := sl none (some (w1 % ((x.length : Int) + 1))); have := sl (some (w1 % ((x.length : Int) + 1) + 1)) none; omega), ?_⟩
            exact q _ _ S3 (((gl.slice _ _).plus (gl.slice _ _)).mono (by omega) (by omega))
          · refine ⟨_, rfl, rfl, _, rfl, ?_⟩
            refine ite2 (fun _ => ?_) fun _ => ?_
            · refine ⟨_, rfl, _, rfl, _, rfl, x, rfl, le_line (by omega), _, rfl, _, _, rfl, rfl, le_line (by have := sl none (some (w1 % ((x.length : Int) + 1))); show _ + 1 ≤ _; omega), ?_⟩
              refine ⟨_, rfl, _, rfl, _, rfl, x, rfl, le_line (by omega), _, _, rfl, rfl, le_line (by rw [ap]; have := sl none (some (w1 % ((x.length : Int) + 1))); have := sl (some (w1 % ((x.length : Int) + 1))) none; omega), ?_⟩
              exact q _ _ S3 ((((gl.slice _ _).plus g1).plus (gl.slice _ _)).mono (by omega) (by omega))
            · exact ⟨_, rfl, q _ _ S3 (gl.mono (by omega) (by omega))⟩
end
end K1

set_option Elab.async false
set_option maxRecDepth 100000
namespace K1
open PySem L2 Wk
theorem boot_ve : bootBuiltins "ValueError" = some (.type "ValueError") := by decide +kernel
/-! ### the refusals' classes, from what is written of the module -/
section
variable {K : PySem.W.Frag} {h : Heap} {mg : Str → Option Value} {x : Str} {C W : Addr} {bmB : List Value} {newId : String}
theorem own_in (X : K.In h) (m : mg x = some (.ref C)) (e : PySem.W.excIn K C bmB newId = true) : PyProof.Rows.OwnCls x C bmB newId mg h := by
  refine ⟨m, ?_⟩
  unfold PySem.W.excIn at e
  split at e
  · rename_i d1 c1 s1 hl
    split at e
    · rename_i C1 b1 a0 a1 a2 a3 n1 a5 h1 h2
      simp only [beq_iff_eq, Bool.and_eq_true, Bool.not_eq_true'] at e
      obtain ⟨⟨⟨⟨⟨q1, q2⟩, q3⟩, q4⟩, q5⟩, q6⟩ := e
      subst q1 q2
      cases c1
      dsimp only at h1 q3 q5 q6
      subst h1 q3
      have h3 : s1 = #[a0, a1, a2, a3, some (.builtin n1), a5] := by
        cases s1
        simp only at h2
        rw [h2]
      subst h3
      exact ⟨b1, _, _, _, _, _, _, _, _, _, _, _, _, _, _, _, _, X _ _ hl, .of_isNs (PySem.W.isNs_of_in X q5), PySem.W.nsMap_none_of_in X q5 q6, PySem.W.tail_of_in X q4⟩
    · cases e
  · cases e
theorem up_in (O : PyProof.Rows.OwnCls x W bmB newId mg h) (hb : bmB.contains (.type "BaseException") = true) : ∃ nm q N bs bm hdct sn sub ab col dd k0 k1 k2 k3 k5 newId, h.get? W = some (excClassObj nm q W N bs bm hdct sn sub ab col dd k0 k1 k2 k3 k5 newId) ∧ bm.contains (.type "BaseException") = true := by
  obtain ⟨bm, N, nm, q, bs, hdct, sn, sub, ab, col, dd, k0, k1, k2, k3, k5, mN, hC, _, _, T⟩ := O.obj
  exact ⟨_, _, _, _, _, _, _, _, _, _, _, _, _, _, _, _, _, hC, T.hasType hb⟩
theorem low_in (X : K.In h) (O : PyProof.Rows.OwnCls x C bmB newId mg h) (s : PySem.W.subIn K (.ref C) (.ref W) = some true) (ne : (Value.ref W == Value.ref C) = false) : ∃ nm q N bs bm hdct sn sub ab col dd k0 k1 k2 k3 k5 newId, h.get? C = some (excClassObj nm q C N bs bm hdct sn sub ab col dd k0 k1 k2 k3 k5 newId) ∧ bm.contains (.ref W) = true := by
  obtain ⟨bm, N, nm, q, bs, hdct, sn, sub, ab, col, dd, k0, k1, k2, k3, k5, mN, hC, _, _, T⟩ := O.obj
  refine ⟨_, _, _, _, _, _, _, _, _, _, _, _, _, _, _, _, _, hC, ?_⟩
  have s' : PySem.W.mroIn K C (.ref W) = some true := s
  unfold PySem.W.mroIn PySem.W.clsIn at s'
  split at s'
  · rename_i hl
    have e := (X _ _ hl).symm.trans hC
    injection e with e
    injection e with e1 e2 e3 e4
    injection e3 with e3
    rw [e3] at s'
    have s2 : (if ((Value.ref C :: bm).isEmpty) = true then none else some ((Value.ref C :: bm).contains (.ref W))) = some true := s'
    simp only [List.isEmpty_cons, Bool.false_eq_true, if_false, Option.some.injEq] at s2
    rw [List.contains_cons, ne, Bool.false_or] at s2
    exact s2
  · cases s'
theorem kit_ref {NN : Addr} {cd : ClassData} {b : Bool} (ne : (Value.ref C == Value.ref NN) = false) (hc : PySem.W.clsIn K NN = some cd) (ht : PySem.W.typeIn K (.ref NN) = some (.type "type")) (hs : PySem.W.subIn K (.ref C) (.ref NN) = some b) : PySem.W.kitOne K (.ref C) (.ref NN) = some b := by
  unfold PySem.W.kitOne PySem.W.kitCls
  rw [ne, if_neg Bool.false_ne_true]
  show (if ((PySem.W.clsIn K NN).isSome && PySem.W.typeIn K (.ref NN) == some (.type "type")) = true then PySem.W.subIn K (.ref C) (.ref NN) else none) = some b
  rw [hc, ht]
  have e : ((some cd).isSome && (some (Value.type "type") == some (Value.type "type"))) = true := by
    rw [beq_self_eq_true]; rfl
  rw [if_pos e]; exact hs
theorem kit_self : PySem.W.kitOne K (.ref C) (.ref C) = some true := by unfold PySem.W.kitOne; rw [if_pos (beq_self_eq_true _)]
theorem kit_ve {b : Bool} (hs : PySem.W.subIn K (.ref C) (.type "ValueError") = some b) : PySem.W.kitOne K (.ref C) (.type "ValueError") = some b := by
  unfold PySem.W.kitOne PySem.W.kitCls
  have e1 : (Value.ref C == Value.type "ValueError") = false := rfl
  rw [e1, if_neg Bool.false_ne_true]
  show (if PySem.W.kitMeta "ValueError" = true then _ else _) = _
  rw [if_pos (by decide +kernel)]; exact hs
end
/-- the class at W, over the class at C -/
structure AboveB (mg : Str → Option Value) (base : Heap) (x : Str) (W C : Addr) : Prop where
  bound : mg x = some (.ref W)
  up : ∃ nm q N bs bm hdct sn sub ab col dd k0 k1 k2 k3 k5 newId, base.get? W = some (excClassObj nm q W N bs bm hdct sn sub ab col dd k0 k1 k2 k3 k5 newId) ∧ bm.contains (.type "BaseException") = true
  low : ∃ nm q N bs bm hdct sn sub ab col dd k0 k1 k2 k3 k5 newId, base.get? C = some (excClassObj nm q C N bs bm hdct sn sub ab col dd k0 k1 k2 k3 k5 newId) ∧ bm.contains (.ref W) = true
section
variable {P : Program} {w : World} {K : PySem.W.Frag} {mg : Str → Option Value} {base : Heap} {f aR : Addr} {fd dR : FuncData}
/-! ### _law_base_tells -/
def rIsE (K : PySem.W.Frag) (C y : Addr) : List V → Hp → VK → Prop := fun xs H Q => ∃ cv c b, xs = [.ref y, cv] ∧ RelV cv c ∧ PySem.W.kitOne K (.ref C) c = some b ∧ Q (.bl b) H
def Askable (x : Str) : Prop := x.cps.all (· < 128) = true ∧ x.length ≤ 100000 ∧ ∀ m ∈ marksF x.cps.toList, m.length ≤ 600
def spTells : Sp := fun vs H Q _ => ∃ x, vs = [.str x] ∧ Askable x ∧ readF x.cps.toList = none ∧ ∀ H', Same H H' → Q (.bl true) H'
theorem scTells : FnScope ["_law_line", "e", "_law_many"] ["_law_line"] (defScope sTells) := ⟨rfl, rfl, rfl, by decide +kernel, rfl, by decide +kernel, by decide +kernel⟩
set_option maxHeartbeats 4000000 in
theorem ok_tells {C W NN : Addr} (F : Fun K "_law_base_tells" "_law_base_tells" sTells f fd) (L : AboveB mg base "WideError" W C) (G : ExcKit K C)
    (GR : FnOk P w K mg base (CXC P w C) 2 aR dR ["line"] (spRead C)) (bR : Binds K dR ["line"] []) (kR : PySem.W.keepIn K (.ref aR) = true) (mR : mg "read" = some (.ref aR))
    (mC : mg "NoKind" = some (.ref C)) (mN : mg "NoName" = some (.ref NN)) (mv : mg "ValueError" = none) (mi : mg "isinstance" = none) (mn : mg "int" = none)
    (k1 : PySem.W.kitOne K (.ref C) (.ref NN) = some false) (k2 : PySem.W.kitOne K (.ref C) (.type "ValueError") = some true) :
    FnOk P w K mg base CX0 3 f fd ["_law_line"] spTells := by
  refine F.ok (k := 2) scTells (fun vs H Q E h => ?_) (fun cdv A outer s H vs Q E hr h => ?_)
  · obtain ⟨x, rfl, _⟩ := h
    rfl
  obtain ⟨x, rfl, ⟨h1, h2, h3⟩, hn, q⟩ := h
  have nd := scTells.nd
  refine ⟨_, pss_cons (ps_tryAs (i := 1) (W := W) (C := C) ⟨rfl, rfl, rfl⟩ ⟨L.bound, L.up, L.low⟩ rfl nd rfl rfl (px_expr GR hr rfl mR kR bR (pa_cons (pv 0) pa_nil))
      (fun y oy eo => pss_cons (ps_set (i := 2) nd rfl (Or.inl rfl) (pe_op op_add
          (pe_callTy call_int1 rfl mn PyProof.Rows.boot_int (pa_cons (pe_callB (r := rIsE K C y) (call_isiE G eo (List.mem_append_right _ List.mem_cons_self)) rfl mi PyProof.Rows.boot_isinstance (pa_cons (pv 1) (pa_cons (pe_glob (v := .ref NN) rfl mN rfl) pa_nil))) pa_nil))
          (pe_callTy call_int1 rfl mn PyProof.Rows.boot_int (pa_cons (pe_callB (r := rIsE K C y) (call_isiE G eo (List.mem_append_right _ List.mem_cons_self)) rfl mi PyProof.Rows.boot_isinstance (pa_cons (pv 1) (pa_cons (pe_glob (v := .ref C) rfl mC rfl) pa_nil))) pa_nil))))
        (pss_one (ps_ret (pe_and (pe_callB (r := rIsE K C y) (call_isiE G eo (List.mem_append_right _ List.mem_cons_self)) rfl mi PyProof.Rows.boot_isinstance (pa_cons (pv 1) (pa_cons (pe_bltn (v := .ty "ValueError") rfl mv boot_ve rfl) pa_nil))) (pe_one (pe_cmpR op_eq (pv 2) pe_int (nomark _))))))))
    (pss_one (ps_ret pe_bl)), ?_⟩
  refine ⟨_, rfl, x, rfl, h1, h2, h3, fun k hk => ?_, fun _ H' S y hy => ?_⟩
  · rw [hn] at hk; cases hk
  · refine ⟨_, rfl, _, _, _, rfl, rfl, k1, .inr ⟨_, rfl, _, rfl, _, _, _, rfl, rfl, kit_self, .inr ⟨_, rfl, _, _, rfl, rfl, ?_⟩⟩⟩
    refine ⟨_, rfl, _, _, _, rfl, rfl, k2, ?_⟩
    refine ⟨true, rfl, iteT ⟨_, rfl, rfl, ?_⟩⟩
    exact q H' S
end
end K1

set_option Elab.async false
set_option maxRecDepth 100000
namespace K1
open PySem L2 Wk
theorem size_line : ∀ k : Kd, k.ok → k.size ≤ (lineC k).length
  | .num, _ => by simp [Kd.size, lineC]
  | .blk n, _ => by simp [Kd.size, lineC]
  | .two f a b, h => by
    have h1 := size_line a h.1
    have h2 := size_line b h.2
    simp only [Kd.size, lineC, List.length_cons, List.length_append, sign_codes, List.length_nil]
    omega
theorem good_ask {x : Str} (g : Good 20000 400 x.cps.toList) : Askable x ∧ ∀ m ∈ marksF x.cps.toList, m.length ≤ 500 := by
  have h := run_mks g.run
  refine ⟨⟨?_, by rw [str_len]; exact Nat.le_trans g.len (by decide), fun m hm => Nat.le_trans (h m hm) (by decide)⟩, fun m hm => Nat.le_trans (h m hm) (by decide)⟩
  rw [← Array.all_toList, List.all_eq_true]
  intro c hc
  exact decide_eq_true (g.asc c hc)
section
variable {P : Program} {w : World} {K : PySem.W.Frag} {mg : Str → Option Value} {base : Heap} {f aA aR aW aT aQ aL : Addr} {fd dA dR dW dT dQ dL : FuncData}
def spLaw12 (K : PySem.W.Frag) : Sp := fun vs H Q _ => ∃ (a : Addr) (ns : List Int), vs = [.ref a] ∧ SqL K H a (ns.map V.int) ∧ ns.length ≤ 63 ∧ ∀ H', Q (.bl true) H'
theorem scLaw12 : FnScope ["_law_script", "_law_line", "_law_found", "_law_refused"] ["_law_script"] (defScope sLaw) := ⟨rfl, rfl, rfl, by decide +kernel, rfl, by decide +kernel, by decide +kernel⟩
set_option maxHeartbeats 4000000 in
theorem ok_law12 {C : Addr} (F : Fun K "law" "law" sLaw f fd) (R : Refuses mg base "NoKind" C)
    (GA : FnOk P w K mg base CX0 3 aA dA ["_law_script"] (spAsked K)) (bA : Binds K dA ["_law_script"] []) (kA : PySem.W.keepIn K (.ref aA) = true) (mA : mg "_law_asked" = some (.ref aA))
    (GR : FnOk P w K mg base (CXC P w C) 2 aR dR ["line"] (spRead C)) (bR : Binds K dR ["line"] []) (kR : PySem.W.keepIn K (.ref aR) = true) (mR : mg "read" = some (.ref aR))
    (GW : FnOk P w K mg base CX0 1 aW dW ["_law_line"] spWell) (bW : Binds K dW ["_law_line"] []) (kW : PySem.W.keepIn K (.ref aW) = true) (mW : mg "_law_well" = some (.ref aW))
    (GT : FnOk P w K mg base CX0 3 aT dT ["_law_line"] spTells) (bT : Binds K dT ["_law_line"] []) (kT : PySem.W.keepIn K (.ref aT) = true) (mT : mg "_law_base_tells" = some (.ref aT))
    (GQ : FnOk P w K mg base CX0 2 aQ dQ ["_law_found"] spIsKind) (bQ : Binds K dQ ["_law_found"] []) (kQ : PySem.W.keepIn K (.ref aQ) = true) (mQ : mg "_law_is_kind" = some (.ref aQ))
    (GL : FnOk P w K mg base CX0 1 aL dL ["_law_kind"] spLine) (bL : Binds K dL ["_law_kind"] []) (kL : PySem.W.keepIn K (.ref aL) = true) (mL : mg "_law_line_of" = some (.ref aL)) :
    FnOk P w K mg base CX0 11 f fd ["_law_script"] (spLaw12 K) := by
  refine F.ok (k := 10) scLaw12 (fun vs H Q E h => ?_) (fun cdv A outer s H vs Q E hr h => ?_)
  · obtain ⟨a, ns, rfl, _⟩ := h
    rfl
  obtain ⟨a, ns, rfl, hA, hn, q⟩ := h
  have nd := scLaw12.nd
  have hr1 := hr.mono (show 1 ≤ 10 by decide)
  have hr2 := hr.mono (show 2 ≤ 10 by decide)
  have hr3 := hr.mono (show 3 ≤ 10 by decide)
  refine ⟨_, pss_cons (ps_set (i := 1) nd rfl (Or.inl rfl) (pe_call GA hr3 rfl mA kA bA .nil pass0 (pa_cons (pv 0) pa_nil)))
    (pss_cons (ps_set (i := 2) nd rfl (Or.inl rfl) pe_non)
    (pss_cons (ps_set (i := 3) nd rfl (Or.inl rfl) pe_bl)
    (pss_cons (ps_try (C := C) ⟨rfl, rfl, rfl⟩ ⟨R.own⟩ rfl (px_set (i := 2) nd rfl (Or.inl rfl) GR hr2 rfl mR kR bR (pa_cons (pv 1) pa_nil)) (fun y => pss_one (ps_set (i := 3) nd rfl (Or.inl rfl) pe_bl)))
    (pss_cons (ps_if (pt_not (pt_truth (pe_call GW hr1 rfl mW kW bW .nil pass0 (pa_cons (pv 1) pa_nil)) (fun _ => rfl))) (pss_one (ps_ret (pe_and (pv 3) (pe_one (pe_call GT hr3 rfl mT kT bT .nil pass0 (pa_cons (pv 1) pa_nil)))))) pss_nil)
    (pss_one (ps_ret (pe_and (pe_not (pv 3)) (pe_and (pe_call GQ hr2 rfl mQ kQ bQ .nil pass0 (pa_cons (pv 2) pa_nil)) (pe_one (pe_cmpR op_eq (pe_call GL hr1 rfl mL kL bL .nil pass0 (pa_cons (pv 2) pa_nil)) (pv 1) (nomark _))))))))))), ?_⟩
  refine ⟨_, rfl, a, ns, rfl, hA, hn, fun x H1 S1 g => ?_⟩
  obtain ⟨⟨g1, g2, g3⟩, g5⟩ := good_ask g
  refine ⟨_, rfl, x, rfl, g1, g2, g3, fun k hk v H2 S2 kv => ?_, fun hnone H2 S2 => ?_⟩
  · refine ⟨_, rfl, x, rfl, g2, fun H3 S3 => ?_⟩
    rw [hk]
    obtain ⟨hl, hok, hf3⟩ := read_back g5 hk
    have hsz := size_line k hok
    have hll : (lineC k).length ≤ 20000 := by rw [hl]; exact g.len
    refine ⟨true, rfl, iteF ⟨_, rfl, false, rfl, true, rfl, iteT ?_⟩⟩
    refine ⟨_, rfl, v, k, rfl, kv.mono S3.tk, hok, by omega, fun H4 S4 => ⟨true, rfl, iteT ?_⟩⟩
    refine ⟨_, rfl, v, k, rfl, (kv.mono S3.tk).mono S4.tk, hf3, by omega, by omega, fun y H5 S5 hy => ⟨_, rfl, rfl, ?_⟩⟩
    have e : y = x := PyProof.Rows.ext_toList (hy.trans hl)
    rw [e, decide_eq_true rfl]
    exact q H5
  · refine ⟨_, rfl, x, rfl, g2, fun H3 S3 => ?_⟩
    rw [hnone]
    refine ⟨false, rfl, iteT ⟨_, rfl, true, rfl, iteT ?_⟩⟩
    exact ⟨_, rfl, x, rfl, ⟨g1, g2, g3⟩, hnone, fun H4 _ => q H4⟩
end
end K1

set_option Elab.async false
set_option maxRecDepth 100000
namespace K1
open PySem L2 Wk
theorem all_mk {l : PySem.W.OpenLaw} {w : World} {K : PySem.W.Frag} {h : Heap} {mg : Str → Option Value} {fa f1 f2 f3 f4 f5 f6 f7 f8 f9 f10 f11 f12 f13 f14 : Addr} (X : K.In h) (G : h.Ns mainGlobals mg) (hfa : mg "law" = some (.ref fa))
    {od1 an1 : Option Addr} {sl1 : Array (Option Value)} {oc1 kV1 dc1 pm1 cd1 ct1 : Value}
    (a1 : PySem.W.nsIn K mainGlobals "read" = some (some (.ref f1))) (l1 : K.lookup f1 = some ⟨oc1, od1, .func (PySem.W.fnOf "read" "read" (defArgs sRead) (defBody sRead) (defScope sRead) .none kV1 dc1 pm1 an1 cd1 ct1), sl1⟩) (c1' : PySem.W.codeIn K cd1 "read" = true) (k1 : PySem.W.keepIn K (.ref f1) = true)
    {od2 an2 : Option Addr} {sl2 : Array (Option Value)} {oc2 kV2 dc2 pm2 cd2 ct2 : Value}
    (a2 : PySem.W.nsIn K mainGlobals "marks" = some (some (.ref f2))) (l2 : K.lookup f2 = some ⟨oc2, od2, .func (PySem.W.fnOf "marks" "marks" (defArgs sMarks) (defBody sMarks) (defScope sMarks) .none kV2 dc2 pm2 an2 cd2 ct2), sl2⟩) (c2' : PySem.W.codeIn K cd2 "marks" = true) (k2 : PySem.W.keepIn K (.ref f2) = true)
    {od3 an3 : Option Addr} {sl3 : Array (Option Value)} {oc3 kV3 dc3 pm3 cd3 ct3 : Value}
    (a3 : PySem.W.nsIn K mainGlobals "alone" = some (some (.ref f3))) (l3 : K.lookup f3 = some ⟨oc3, od3, .func (PySem.W.fnOf "alone" "alone" (defArgs sAlone) (defBody sAlone) (defScope sAlone) .none kV3 dc3 pm3 an3 cd3 ct3), sl3⟩) (c3' : PySem.W.codeIn K cd3 "alone" = true) (k3 : PySem.W.keepIn K (.ref f3) = true)
    {od4 an4 : Option Addr} {sl4 : Array (Option Value)} {oc4 kV4 dc4 pm4 cd4 ct4 : Value}
    (a4 : PySem.W.nsIn K mainGlobals "_law_whole" = some (some (.ref f4))) (l4 : K.lookup f4 = some ⟨oc4, od4, .func (PySem.W.fnOf "_law_whole" "_law_whole" (defArgs sWhole) (defBody sWhole) (defScope sWhole) .none kV4 dc4 pm4 an4 cd4 ct4), sl4⟩) (c4' : PySem.W.codeIn K cd4 "_law_whole" = true) (k4 : PySem.W.keepIn K (.ref f4) = true)
    {od5 an5 : Option Addr} {sl5 : Array (Option Value)} {oc5 kV5 dc5 pm5 cd5 ct5 : Value}
    (a5 : PySem.W.nsIn K mainGlobals "_law_at" = some (some (.ref f5))) (l5 : K.lookup f5 = some ⟨oc5, od5, .func (PySem.W.fnOf "_law_at" "_law_at" (defArgs sAt) (defBody sAt) (defScope sAt) .none kV5 dc5 pm5 an5 cd5 ct5), sl5⟩) (c5' : PySem.W.codeIn K cd5 "_law_at" = true) (k5 : PySem.W.keepIn K (.ref f5) = true)
    {od6 an6 : Option Addr} {sl6 : Array (Option Value)} {oc6 kV6 dc6 pm6 cd6 ct6 : Value}
    (a6 : PySem.W.nsIn K mainGlobals "_law_kind_by" = some (some (.ref f6))) (l6 : K.lookup f6 = some ⟨oc6, od6, .func (PySem.W.fnOf "_law_kind_by" "_law_kind_by" (defArgs sKindBy) (defBody sKindBy) (defScope sKindBy) .none kV6 dc6 pm6 an6 cd6 ct6), sl6⟩) (c6' : PySem.W.codeIn K cd6 "_law_kind_by" = true) (k6 : PySem.W.keepIn K (.ref f6) = true)
    {od7 an7 : Option Addr} {sl7 : Array (Option Value)} {oc7 kV7 dc7 pm7 cd7 ct7 : Value}
    (a7 : PySem.W.nsIn K mainGlobals "_law_is_kind" = some (some (.ref f7))) (l7 : K.lookup f7 = some ⟨oc7, od7, .func (PySem.W.fnOf "_law_is_kind" "_law_is_kind" (defArgs sIsKind) (defBody sIsKind) (defScope sIsKind) .none kV7 dc7 pm7 an7 cd7 ct7), sl7⟩) (c7' : PySem.W.codeIn K cd7 "_law_is_kind" = true) (k7 : PySem.W.keepIn K (.ref f7) = true)
    {od8 an8 : Option Addr} {sl8 : Array (Option Value)} {oc8 kV8 dc8 pm8 cd8 ct8 : Value}
    (a8 : PySem.W.nsIn K mainGlobals "_law_line_of" = some (some (.ref f8))) (l8 : K.lookup f8 = some ⟨oc8, od8, .func (PySem.W.fnOf "_law_line_of" "_law_line_of" (defArgs sLineOf) (defBody sLineOf) (defScope sLineOf) .none kV8 dc8 pm8 an8 cd8 ct8), sl8⟩) (c8' : PySem.W.codeIn K cd8 "_law_line_of" = true) (k8 : PySem.W.keepIn K (.ref f8) = true)
    {od9 an9 : Option Addr} {sl9 : Array (Option Value)} {oc9 kV9 dc9 pm9 cd9 ct9 : Value}
    (a9 : PySem.W.nsIn K mainGlobals "_law_well" = some (some (.ref f9))) (l9 : K.lookup f9 = some ⟨oc9, od9, .func (PySem.W.fnOf "_law_well" "_law_well" (defArgs sWell) (defBody sWell) (defScope sWell) .none kV9 dc9 pm9 an9 cd9 ct9), sl9⟩) (c9' : PySem.W.codeIn K cd9 "_law_well" = true) (k9 : PySem.W.keepIn K (.ref f9) = true)
    {od10 an10 : Option Addr} {sl10 : Array (Option Value)} {oc10 kV10 dc10 pm10 cd10 ct10 : Value}
    (a10 : PySem.W.nsIn K mainGlobals "_law_asked" = some (some (.ref f10))) (l10 : K.lookup f10 = some ⟨oc10, od10, .func (PySem.W.fnOf "_law_asked" "_law_asked" (defArgs sAsked) (defBody sAsked) (defScope sAsked) .none kV10 dc10 pm10 an10 cd10 ct10), sl10⟩) (c10' : PySem.W.codeIn K cd10 "_law_asked" = true) (k10 : PySem.W.keepIn K (.ref f10) = true)
    {od11 an11 : Option Addr} {sl11 : Array (Option Value)} {oc11 kV11 dc11 pm11 cd11 ct11 : Value}
    (a11 : PySem.W.nsIn K mainGlobals "_law_room" = some (some (.ref f11))) (l11 : K.lookup f11 = some ⟨oc11, od11, .func (PySem.W.fnOf "_law_room" "_law_room" (defArgs sRoom) (defBody sRoom) (defScope sRoom) .none kV11 dc11 pm11 an11 cd11 ct11), sl11⟩) (c11' : PySem.W.codeIn K cd11 "_law_room" = true) (k11 : PySem.W.keepIn K (.ref f11) = true)
    {od12 an12 : Option Addr} {sl12 : Array (Option Value)} {oc12 kV12 dc12 pm12 cd12 ct12 : Value}
    (a12 : PySem.W.nsIn K mainGlobals "_law_base_tells" = some (some (.ref f12))) (l12 : K.lookup f12 = some ⟨oc12, od12, .func (PySem.W.fnOf "_law_base_tells" "_law_base_tells" (defArgs sTells) (defBody sTells) (defScope sTells) .none kV12 dc12 pm12 an12 cd12 ct12), sl12⟩) (c12' : PySem.W.codeIn K cd12 "_law_base_tells" = true) (k12 : PySem.W.keepIn K (.ref f12) = true)
    {od13 an13 : Option Addr} {sl13 : Array (Option Value)} {oc13 kV13 dc13 pm13 cd13 ct13 : Value}
    (a13 : PySem.W.nsIn K mainGlobals "_law_any" = some (some (.ref f13))) (l13 : K.lookup f13 = some ⟨oc13, od13, .func (PySem.W.fnOf "_law_any" "_law_any" (defArgs sAny) (defBody sAny) (defScope sAny) .none kV13 dc13 pm13 an13 cd13 ct13), sl13⟩) (c13' : PySem.W.codeIn K cd13 "_law_any" = true) (k13 : PySem.W.keepIn K (.ref f13) = true)
    {od14 an14 : Option Addr} {sl14 : Array (Option Value)} {oc14 kV14 dc14 pm14 cd14 ct14 : Value}
    (a14 : PySem.W.nsIn K mainGlobals "law" = some (some (.ref f14))) (l14 : K.lookup f14 = some ⟨oc14, od14, .func (PySem.W.fnOf "law" "law" (defArgs sLaw) (defBody sLaw) (defScope sLaw) .none kV14 dc14 pm14 an14 cd14 ct14), sl14⟩) (c14' : PySem.W.codeIn K cd14 "law" = true) (k14 : PySem.W.keepIn K (.ref f14) = true)
    {dH : Addr} {esH : Array DictEntry} {nnH : Nat} (daH : PySem.W.nsIn K mainGlobals "HEADS" = some (some (.ref dH))) (dlH : K.lookup dH = some ⟨.type "dict", none, .dict esH nnH, #[]⟩) (dmH : (dH == sysModules) = false) (dpH : Paired (EntAt w) hds esH.toList)
    {tF : Tok} (fg : PySem.W.nsIn K mainGlobals "FIGURES" = some (some (.str "0123456789" tF)))
    {C W NN : Addr} {cdC cdN : ClassData} (aC : PySem.W.nsIn K mainGlobals "NoKind" = some (some (.ref C))) (aW : PySem.W.nsIn K mainGlobals "WideError" = some (some (.ref W))) (aN : PySem.W.nsIn K mainGlobals "NoName" = some (some (.ref NN)))
    (xC : PySem.W.excIn K C [.type "ValueError", .type "Exception", .type "BaseException", .type "object"] "ValueError.__new__" = true) (xW : PySem.W.excIn K W [.type "ValueError", .type "Exception", .type "BaseException", .type "object"] "ValueError.__new__" = true)
    (cC : PySem.W.clsIn K C = some cdC) (cN : PySem.W.clsIn K NN = some cdN) (tN : PySem.W.typeIn K (.ref NN) = some (.type "type")) (sN : PySem.W.subIn K (.ref C) (.ref NN) = some false) (sW : PySem.W.subIn K (.ref C) (.ref W) = some true) (sV : PySem.W.subIn K (.ref C) (.type "ValueError") = some true)
    (neN : (Value.ref C == Value.ref NN) = false) (neW : (Value.ref W == Value.ref C) = false)
    (ga : PySem.W.findIn K (.ref C) "__getattribute__" = some (some (.builtin "BaseException.__getattribute__"))) (gt : PySem.W.findIn K (.ref C) "__getattr__" = some none) (gc : PySem.W.findIn K (.ref C) "__class__" = some (some (.builtin "object.__class__"))) (sB : PySem.W.subIn K (.ref C) (.type "BaseException") = some true) (sO : PySem.W.subIn K (.ref C) (.type "object") = some true)
    (z1 : PySem.W.nsIn K mainGlobals "len" = some none)
    (z2 : PySem.W.nsIn K mainGlobals "isinstance" = some none)
    (z3 : PySem.W.nsIn K mainGlobals "int" = some none)
    (z4 : PySem.W.nsIn K mainGlobals "bool" = some none)
    (z5 : PySem.W.nsIn K mainGlobals "tuple" = some none)
    (z6 : PySem.W.nsIn K mainGlobals "str" = some none)
    (z7 : PySem.W.nsIn K mainGlobals "abs" = some none)
    (z8 : PySem.W.nsIn K mainGlobals "range" = some none)
    (z9 : PySem.W.nsIn K mainGlobals "ValueError" = some none)
    : ∃ fd : FuncData, (∀ (s : Shared) (v : Value), BindsTo s fd ⟨[v], []⟩ [("_law_script", v)]) ∧ ∀ base : Heap, K.In base → base.Ns mainGlobals mg → FnOk l.prog w K mg base CX0 11 fa fd ["_law_script"] (spLaw12 K) := by
  have e := hfa.symm.trans (PySem.W.mg_of X G a14)
  cases e
  have F1 := fun_mk (st := sRead) l1 c1' k1
  have b1 := F1.binds (ps := ["line"]) fun _ _ _ _ _ _ us hl => match us, hl with | [_], _ => rfl
  have m1 := PySem.W.mg_of X G a1
  have F2 := fun_mk (st := sMarks) l2 c2' k2
  have b2 := F2.binds (ps := ["line"]) fun _ _ _ _ _ _ us hl => match us, hl with | [_], _ => rfl
  have m2 := PySem.W.mg_of X G a2
  have F3 := fun_mk (st := sAlone) l3 c3' k3
  have b3 := F3.binds (ps := ["mark"]) fun _ _ _ _ _ _ us hl => match us, hl with | [_], _ => rfl
  have m3 := PySem.W.mg_of X G a3
  have F4 := fun_mk (st := sWhole) l4 c4' k4
  have b4 := F4.binds (ps := ["_law_found"]) fun _ _ _ _ _ _ us hl => match us, hl with | [_], _ => rfl
  have m4 := PySem.W.mg_of X G a4
  have F5 := fun_mk (st := sAt) l5 c5' k5
  have b5 := F5.binds (ps := ["_law_script", "_law_k"]) fun _ _ _ _ _ _ us hl => match us, hl with | [_, _], _ => rfl
  have m5 := PySem.W.mg_of X G a5
  have F6 := fun_mk (st := sKindBy) l6 c6' k6
  have b6 := F6.binds (ps := ["_law_cells"]) fun _ _ _ _ _ _ us hl => match us, hl with | [_], _ => rfl
  have m6 := PySem.W.mg_of X G a6
  have F7 := fun_mk (st := sIsKind) l7 c7' k7
  have b7 := F7.binds (ps := ["_law_found"]) fun _ _ _ _ _ _ us hl => match us, hl with | [_], _ => rfl
  have m7 := PySem.W.mg_of X G a7
  have F8 := fun_mk (st := sLineOf) l8 c8' k8
  have b8 := F8.binds (ps := ["_law_kind"]) fun _ _ _ _ _ _ us hl => match us, hl with | [_], _ => rfl
  have m8 := PySem.W.mg_of X G a8
  have F9 := fun_mk (st := sWell) l9 c9' k9
  have b9 := F9.binds (ps := ["_law_line"]) fun _ _ _ _ _ _ us hl => match us, hl with | [_], _ => rfl
  have m9 := PySem.W.mg_of X G a9
  have F10 := fun_mk (st := sAsked) l10 c10' k10
  have b10 := F10.binds (ps := ["_law_script"]) fun _ _ _ _ _ _ us hl => match us, hl with | [_], _ => rfl
  have m10 := PySem.W.mg_of X G a10
  have F11 := fun_mk (st := sRoom) l11 c11' k11
  have b11 := F11.binds (ps := ["_law_script", "_law_most", "_law_bound"]) fun _ _ _ _ _ _ us hl => match us, hl with | [_, _, _], _ => rfl
  have m11 := PySem.W.mg_of X G a11
  have F12 := fun_mk (st := sTells) l12 c12' k12
  have b12 := F12.binds (ps := ["_law_line"]) fun _ _ _ _ _ _ us hl => match us, hl with | [_], _ => rfl
  have m12 := PySem.W.mg_of X G a12
  have F13 := fun_mk (st := sAny) l13 c13' k13
  have b13 := F13.binds (ps := ["_law_cell"]) fun _ _ _ _ _ _ us hl => match us, hl with | [_], _ => rfl
  have m13 := PySem.W.mg_of X G a13
  have F14 := fun_mk (st := sLaw) l14 c14' k14
  have b14 := F14.binds (ps := ["_law_script"]) fun _ _ _ _ _ _ us hl => match us, hl with | [_], _ => rfl
  have m14 := PySem.W.mg_of X G a14
  have n_len := PySem.W.mg_none_of X G z1
  have n_isinstance := PySem.W.mg_none_of X G z2
  have n_int := PySem.W.mg_none_of X G z3
  have n_bool := PySem.W.mg_none_of X G z4
  have n_tuple := PySem.W.mg_none_of X G z5
  have n_str := PySem.W.mg_none_of X G z6
  have n_abs := PySem.W.mg_none_of X G z7
  have n_range := PySem.W.mg_none_of X G z8
  have n_ValueError := PySem.W.mg_none_of X G z9
  refine ⟨PySem.W.fnOf "law" "law" (defArgs sLaw) (defBody sLaw) (defScope sLaw) .none kV14 dc14 pm14 an14 cd14 ct14, fun s v => .of_eq rfl, fun base XB GB  => ?_⟩
  have kdH : KD l.prog w K dH hds := KD.of dlH dmH dpH (by decide +kernel)
  have mC := PySem.W.mg_of X G aC
  have mW := PySem.W.mg_of X G aW
  have mN := PySem.W.mg_of X G aN
  have oC := own_in XB mC xC
  have oW := own_in XB mW xW
  have R : Refuses mg base "NoKind" C := ⟨_, _, oC, _, _, PySem.F.excBase_ValueError⟩
  have A : AboveB mg base "WideError" W C := ⟨mW, up_in oW rfl, low_in XB oC sW neW⟩
  have EK : ExcKit K C := ⟨ga, gt, gc, sB, sO, by rw [cC]; rfl⟩
  have O2 := ok_marks (P := l.prog) (w := w) (base := base) F2 (PySem.W.mg_of X G fg)
  have O3 := ok_alone (P := l.prog) (w := w) (base := base) F3 R n_len n_int
  have O1 := ok_read (base := base) F1 R kdH (PySem.W.mg_of X G daH) O2 b2 k2 m2 O3 b3 k3 m3
  have O13 := ok_any (P := l.prog) (w := w) (base := base) (mg := mg) F13
  have O4 := ok_whole (P := l.prog) (w := w) (base := base) F4 n_isinstance n_int n_bool
  have O5 := ok_at (P := l.prog) (w := w) (base := base) F5 n_len
  have O6 := ok_kindBy (P := l.prog) (w := w) (base := base) F6 O13 b13 k13 m13 n_len n_abs
  have O7 := ok_isKind (P := l.prog) (w := w) (base := base) F7 O4 b4 k4 m4 n_len n_isinstance n_tuple n_str
  have O8 := ok_lineOf (P := l.prog) (w := w) (base := base) F8 n_isinstance n_str n_int
  have O9 := ok_well (P := l.prog) (w := w) (base := base) F9 n_len n_range n_int
  have O11 := ok_room (P := l.prog) (w := w) (base := base) F11 n_len
  have O10 := ok_asked (P := l.prog) (w := w) (base := base) F10 n_len O5 b5 k5 m5 O11 b11 k11 m11 O6 b6 k6 m6 O8 b8 k8 m8
  have O12 := ok_tells (P := l.prog) (w := w) (base := base) F12 A EK O1 b1 k1 m1 mC mN n_ValueError n_isinstance n_int (kit_ref neN cN tN sN) (kit_ve sV)
  exact ok_law12 F14 R O10 b10 k10 m10 O1 b1 k1 m1 O9 b9 k9 m9 O12 b12 k12 m12 O7 b7 k7 m7 O8 b8 k8 m8
end K1

open PySem PySem.W PyProof.Rows
set_option Elab.async false
set_option maxRecDepth 100000 in
set_option maxHeartbeats 0 in
theorem PySem.Challenge.cw_widekind_k12_lines_read_or_refused_holds : PySem.Challenge.rw_widekind_k12_lines_read_or_refused.Holds := by
  w_on; o_law; k_head; (case hw => w_witness2)
  k_fill
  refine L2.walk_ofK (l := PySem.Challenge.rw_widekind_k12_lines_read_or_refused) (n := 63) (k := 11) (x := "_law_script") (CX := L2.CX0) (sp := K1.spLaw12) rfl (by decide) rfl ⟨rfl, by decide, by decide⟩ (fun w h Y => PySem.W.kIn_of Y) ?tF ?tS ?tC
  case tF =>
    intro w mg fa h KX G hmg
    refine' K1.all_mk KX G hmg ?a1 ?l1 ?c1 ?k1 ?a2 ?l2 ?c2 ?k2 ?a3 ?l3 ?c3 ?k3 ?a4 ?l4 ?c4 ?k4 ?a5 ?l5 ?c5 ?k5 ?a6 ?l6 ?c6 ?k6 ?a7 ?l7 ?c7 ?k7 ?a8 ?l8 ?c8 ?k8 ?a9 ?l9 ?c9 ?k9 ?a10 ?l10 ?c10 ?k10 ?a11 ?l11 ?c11 ?k11 ?a12 ?l12 ?c12 ?k12 ?a13 ?l13 ?c13 ?k13 ?a14 ?l14 ?c14 ?k14 ?daH ?dlH ?dmH ?dpH ?fg ?aC ?aW ?aN ?xC ?xW ?cC ?cN ?tN ?sN ?sW ?sV ?neN ?neW ?ga ?gt ?gc ?sB ?sO ?z1 ?z2 ?z3 ?z4 ?z5 ?z6 ?z7 ?z8 ?z9
    (case a1 => k_is)
    (case l1 => k_is)
    (case c1 => k_is)
    (case k1 => k_is)
    (case a2 => k_is)
    (case l2 => k_is)
    (case c2 => k_is)
    (case k2 => k_is)
    (case a3 => k_is)
    (case l3 => k_is)
    (case c3 => k_is)
    (case k3 => k_is)
    (case a4 => k_is)
    (case l4 => k_is)
    (case c4 => k_is)
    (case k4 => k_is)
    (case a5 => k_is)
    (case l5 => k_is)
    (case c5 => k_is)
    (case k5 => k_is)
    (case a6 => k_is)
    (case l6 => k_is)
    (case c6 => k_is)
    (case k6 => k_is)
    (case a7 => k_is)
    (case l7 => k_is)
    (case c7 => k_is)
    (case k7 => k_is)
    (case a8 => k_is)
    (case l8 => k_is)
    (case c8 => k_is)
    (case k8 => k_is)
    (case a9 => k_is)
    (case l9 => k_is)
    (case c9 => k_is)
    (case k9 => k_is)
    (case a10 => k_is)
    (case l10 => k_is)
    (case c10 => k_is)
    (case k10 => k_is)
    (case a11 => k_is)
    (case l11 => k_is)
    (case c11 => k_is)
    (case k11 => k_is)
    (case a12 => k_is)
    (case l12 => k_is)
    (case c12 => k_is)
    (case k12 => k_is)
    (case a13 => k_is)
    (case l13 => k_is)
    (case c13 => k_is)
    (case k13 => k_is)
    (case a14 => k_is)
    (case l14 => k_is)
    (case c14 => k_is)
    (case k14 => k_is)
    (case daH => k_is)
    (case dlH => k_is)
    (case dmH => rfl)
    (case dpH => exact .cons ⟨_, _, rfl, rfl, rfl, ⟨_, rfl⟩⟩ (.cons ⟨_, _, rfl, rfl, rfl, ⟨_, rfl⟩⟩ .nil))
    (case fg => k_is)
    (case aC => k_is)
    (case aW => k_is)
    (case aN => k_is)
    (case xC => k_exc)
    (case xW => k_exc)
    (case cC => k_is)
    (case cN => k_is)
    (case tN => k_is)
    (case sN => k_is)
    (case sW => k_is)
    (case sV => k_is)
    (case neN => rfl)
    (case neW => rfl)
    (case ga => k_is)
    (case gt => k_is)
    (case gc => k_is)
    (case sB => k_is)
    (case sO => k_is)
    (case z1 => k_is)
    (case z2 => k_is)
    (case z3 => k_is)
    (case z4 => k_is)
    (case z5 => k_is)
    (case z6 => k_is)
    (case z7 => k_is)
    (case z8 => k_is)
    (case z9 => k_is)
  case tS => exact fun K H a ns hl hO hS => ⟨a, ns, rfl, hS, hl, fun _ => rfl⟩
  case tC => exact fun _ _ _ _ z => z

