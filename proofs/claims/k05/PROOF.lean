import PyProof.Rows.All
import Wide.All
import OpenK.AllK
import Wide.FinOn
import Lean
import PyProof.EqAt
import PyProof.EqKinds
import PyProof.TupleCall
import PySem.Challenge.RW_lanemap_k05_whole_parts
set_option Elab.async false
set_option linter.all false
set_option maxRecDepth 100000
/-! THE HAND LAYER, for ints, bools, texts, own classes, LISTS and tuples (index, slices, in, append, pop ..), calls, loops. Paste it whole ahead of your own text; what your proof does not reach may be deleted. -/
namespace L2
open PySem PySem.Spec PyProof.Rows

/-- a key: an int or a str -/
abbrev Key := Sum Int Str
def keyIs : Key → Value → Bool
  | .inl k, v => Value.isInt k v
  | .inr x, v => Value.isStrOf x v
def keyH (w : World) : Key → Int
  | .inl k => hashInt k
  | .inr x => hashStr w x
theorem keyIs_shape : ∀ {k : Key} {v : Value}, keyIs k v = true → (∃ i t, k = Sum.inl i ∧ v = Value.int i t) ∨ (∃ x t, k = Sum.inr x ∧ v = Value.str x t)
  | .inl i, v, h => by
    obtain ⟨t, e⟩ := Value.isInt_shape (k := i) (v := v) h
    exact .inl ⟨i, t, rfl, e⟩
  | .inr x, v, h => by
    obtain ⟨t, e⟩ := Value.isStrOf_shape (x := x) (v := v) h
    exact .inr ⟨x, t, rfl, e⟩
theorem keyIs_int (i : Int) (t : Tok) : keyIs (.inl i) (.int i t) = true := by simp [keyIs, Value.isInt]
theorem keyIs_str (x : Str) (t : Tok) : keyIs (.inr x) (.str x t) = true := by simp [keyIs, Value.isStrOf]
theorem key_ll (a b : Int) : decide ((Sum.inl a : Key) = Sum.inl b) = (a == b) := by
  by_cases e : a = b
  · subst e; simp
  · have h : ¬ (Sum.inl a : Key) = Sum.inl b := fun q => e (Sum.inl.inj q)
    rw [decide_eq_false h]
    exact (beq_eq_false_iff_ne.mpr e).symm
theorem key_rr (a b : Str) : decide ((Sum.inr a : Key) = Sum.inr b) = decide (a = b) := by
  by_cases e : a = b
  · subst e; simp
  · have h : ¬ (Sum.inr a : Key) = Sum.inr b := fun q => e (Sum.inr.inj q)
    rw [decide_eq_false h, decide_eq_false e]
theorem key_lr (a : Int) (b : Str) : decide ((Sum.inl a : Key) = Sum.inr b) = false := decide_eq_false (fun q => nomatch q)
theorem key_rl (a : Str) (b : Int) : decide ((Sum.inr a : Key) = Sum.inl b) = false := decide_eq_false (fun q => nomatch q)

def mixKind (prog : Program) (w : World) : PySem.KeyKind prog w Key where
  is := keyIs
  hash := keyH w
  inj := fun v a b ha hb => by
    rcases keyIs_shape ha with ⟨i, t, rfl, rfl⟩ | ⟨x, t, rfl, rfl⟩
    · rcases keyIs_shape hb with ⟨j, u, rfl, e⟩ | ⟨y, u, rfl, e⟩
      · injection e with e1 _; rw [e1]
      · exact nomatch e
    · rcases keyIs_shape hb with ⟨j, u, rfl, e⟩ | ⟨y, u, rfl, e⟩
      · exact nomatch e
      · injection e with e1 _; rw [e1]
  byValue := fun k v h => by
    rcases keyIs_shape h with ⟨i, t, rfl, rfl⟩ | ⟨x, t, rfl, rfl⟩ <;> rfl
  pyHash := fun hv h => by
    rcases keyIs_shape hv with ⟨i, t, rfl, rfl⟩ | ⟨x, t, rfl, rfl⟩
    · exact wpAny_pyHash_int h
    · exact wpAny_pyHash_str h
  eqBool := fun hu hv h => by
    rcases keyIs_shape hu with ⟨i, t, rfl, rfl⟩ | ⟨x, t, rfl, rfl⟩
    · rcases keyIs_shape hv with ⟨j, u, rfl, rfl⟩ | ⟨y, u, rfl, rfl⟩
      · rw [key_ll] at h; exact wpAny_eqBool_int h
      · rw [key_lr] at h; exact SeqAt.EqAt.int_str i t y u _ _ _ _ h
    · rcases keyIs_shape hv with ⟨j, u, rfl, rfl⟩ | ⟨y, u, rfl, rfl⟩
      · rw [key_rl] at h; exact SeqAt.EqAt.str_int x t j u _ _ _ _ h
      · rw [key_rr] at h; exact wpAny_eqBool_str h
  «strs» := fun k x t v h => by
    rcases keyIs_shape h with ⟨i, u, rfl, e⟩ | ⟨y, u, rfl, e⟩
    · exact nomatch e
    · injection e with e1 _
      subst e1
      cases v <;> rfl

theorem mixKind_is (prog : Program) (w : World) (k : Key) (v : Value) : (mixKind prog w).is k v = keyIs k v := rfl
theorem mixKind_int (prog : Program) (w : World) (i : Int) (t : Tok) : (mixKind prog w).is (.inl i) (.int i t) = true := keyIs_int i t
theorem mixKind_str (prog : Program) (w : World) (x : Str) (t : Tok) : (mixKind prog w).is (.inr x) (.str x t) = true := keyIs_str x t
end L2

namespace L2
open PySem PySem.Spec PyProof.Rows

/-- a value, without the heap -/
inductive V where
  | non | bl (b : Bool) | int (i : Int) | str (x : Str) | byt (b : Array UInt8) | flt (b : UInt64) | ref (a : Addr) | ty (n : String)
  deriving DecidableEq

def RelV : V → Value → Prop
  | .non, u => u = Value.none
  | .bl b, u => u = Value.bool b
  | .int i, u => ∃ t, u = Value.int i t
  | .str x, u => ∃ t, u = Value.str x t
  | .byt b, u => ∃ t, u = Value.bytes b t
  | .flt b, u => ∃ t, u = Value.float b t
  | .ref a, u => u = Value.ref a
  | .ty n, u => u = Value.type n

abbrev Vals : List V → List Value → Prop := Paired RelV
theorem Vals.length {xs : List V} {us : List Value} (r : Vals xs us) : xs.length = us.length := Paired.length r
theorem Vals.get : ∀ {xs : List V} {us : List Value} {i : Nat} {x : V}, Vals xs us → xs[i]? = some x → ∃ u, us[i]? = some u ∧ RelV x u
  | _, _, _, _, .nil, e => by simp at e
  | _, _, 0, _, .cons r _, e => by simp at e; subst e; exact ⟨_, rfl, r⟩
  | _, _, i + 1, x, .cons _ t, e => by
    obtain ⟨u, h1, h2⟩ := Vals.get (i := i) (x := x) t (by simpa using e)
    exact ⟨u, by simpa using h1, h2⟩
theorem Vals.set {x : V} {u : Value} (r : RelV x u) : ∀ {xs : List V} {us : List Value} (i : Nat), Vals xs us → Vals (xs.set i x) (us.set i u)
  | _, _, _, .nil => .nil
  | _, _, 0, .cons _ t => .cons r t
  | _, _, i + 1, .cons q t => .cons q (Vals.set r i t)
theorem Vals.append : ∀ {xs ys : List V} {us ws : List Value}, Vals xs us → Vals ys ws → Vals (xs ++ ys) (us ++ ws)
  | _, _, _, _, .nil, s => s
  | _, _, _, _, .cons r t, s => .cons r (Vals.append t s)
theorem Vals.take : ∀ {xs : List V} {us : List Value} (n : Nat), Vals xs us → Vals (xs.take n) (us.take n)
  | _, _, 0, _ => .nil
  | _, _, _ + 1, .nil => .nil
  | _, _, n + 1, .cons r t => .cons r (Vals.take n t)
theorem Vals.drop : ∀ {xs : List V} {us : List Value} (n : Nat), Vals xs us → Vals (xs.drop n) (us.drop n)
  | _, _, 0, r => r
  | _, _, _ + 1, .nil => .nil
  | _, _, n + 1, .cons _ t => Vals.drop n t
theorem Vals.none_of : ∀ {xs : List V} {us : List Value} {i : Nat}, Vals xs us → xs[i]? = none → us[i]? = none := fun {xs us i} r e => by
  have h1 := r.length
  have h2 : xs.length ≤ i := List.getElem?_eq_none_iff.mp e
  exact List.getElem?_eq_none_iff.mpr (by omega)

def RelO : Option V → Option Value → Prop
  | some v, some u => RelV v u
  | none, none => True
  | _, _ => False
def KV {κ : Type} : List (κ × V) → List (κ × Value) → Prop := Paired fun (p : κ × V) (q : κ × Value) => p.1 = q.1 ∧ RelV p.2 q.2

/-- a key of a dict (00_mix): an int or a text -/
def kV : Key → V
  | .inl i => .int i
  | .inr x => .str x

/-- what stands at a tracked address -/
inductive HO where
  /-- a list -/
  | lst (xs : List V)
  /-- a tuple (never changes) -/
  | tup (xs : List V)
  /-- a dict whose keys are ints and texts; one whose keys are tuples of ints and texts (the empty one is both) -/
  | dK (kvs : List (Key × V)) | dT (kvs : List (List Key × V))
  /-- a set of ints: its members, its size -/
  | set (S : Int → Bool) (n : Nat)
  /-- an instance of the class at C, its dict at dx, its attributes -/
  | ins (C dx : Addr) (fs : List (Str × V))
  /-- the dict of the instance at x -/
  | own (x : Addr)
  /-- the dict of an exception -/
  | xd (fs : List (Str × V))
  /-- a bound method, f of x -/
  | met (f x : Addr)
  /-- a range object lo, lo + 1, .. below hi -/
  | rng (lo hi : Int)
  /-- a thing that is known to the object (the script; a dict while a loop walks it): read, never written while it is so -/
  | frz (o : Obj) (u : HO)
  /-- a code object's table -/
  | tbl (ps : Array Value)
  /-- any other thing, by what is true of its one object (a def of one's own: SetO a S n := HO.ext fun h => ..) -/
  | ext (φ : Heap → Prop)

abbrev Hp := Addr → Option HO
def upd (H : Hp) (a : Addr) (o : HO) : Hp := fun b => if b = a then some o else H b
theorem upd_same {H : Hp} {a : Addr} {o : HO} : upd H a o a = some o := by unfold upd; rw [if_pos rfl]
theorem upd_ne {H : Hp} {a b : Addr} {o : HO} (h : b ≠ a) : upd H a o b = H b := by unfold upd; rw [if_neg h]
theorem upd_upd {H : Hp} {a : Addr} {o u : HO} : upd (upd H a o) a u = upd H a u := by
  funext b; unfold upd; split <;> rfl
/-- two objects of different content stand apart -/
theorem ne_of {H : Hp} {a b : Addr} {o u : HO} (h : H a = some o) (h' : H b = some u) (d : o ≠ u) : a ≠ b := by
  intro e; subst e; rw [h] at h'; exact d (Option.some.inj h')
theorem ne_of_none {H : Hp} {a b : Addr} {o : HO} (h : H a = some o) (h' : H b = none) : a ≠ b := by
  intro e; subst e; rw [h] at h'; cases h'

section
variable (P : Program) (w : World)
def ObjOk (H : Hp) (h : Heap) (a : Addr) : HO → Prop
  | .lst xs => xs.length ≤ sizeLine ∧ ∃ (its : List Value) (n : Nat), Vals xs its ∧ h.get? a = some { cls := .type "list", data := .seq its.toArray n }
  | .tup xs => xs.length ≤ sizeLine ∧ ∃ its : List Value, Vals xs its ∧ IsTup h a its.toArray
  | .dK kvs => kvs.length ≤ sizeLine ∧ (a == sysModules) = false ∧ ∃ vs, KV kvs vs ∧ h.DictOf (mixKind P w) a vs
  | .dT kvs => kvs.length ≤ sizeLine ∧ (a == sysModules) = false ∧ ∃ xs : List (List Key × Addr × Value),
      Paired (fun (p : List Key × V) (q : List Key × Addr × Value) => p.1 = q.1 ∧ H q.2.1 = some (.tup (p.1.map kV)) ∧ RelV p.2 q.2.2) kvs xs ∧
      ∃ o es ep, h.get? a = some o ∧ o.ExactDict ∧ o.data = .dict es ep ∧ es.toList = xs.map (entryOfKey (tupleKind (mixKind P w))) ∧ (xs.map (·.1)).Nodup
  | .set S n => h.SetOf (intKind P w) a S n
  | .ins C dx fs => H dx = some (.own a) ∧ fs.length ≤ 1000 ∧ dx ≠ a ∧ h.get? a = some (PySem.W.instObj C dx) ∧
      ∃ mA, h.Ns1 dx mA ∧ (∀ f, RelO (fs.lookup f) (mA f)) ∧ PySem.Within mA (fs.map (·.1))
  | .own _ => ∃ o, h.get? a = some o
  | .xd fs => ∃ mA, h.Ns1 a mA ∧ ∀ f, RelO (fs.lookup f) (mA f)
  | .rng lo hi => ∃ t u v, h.get? a = some { cls := .type "range", data := .fields #[.int lo t, .int hi u, .int 1 v] }
  | .frz o u => h.get? a = some o ∧ ObjOk H h a u
  | .tbl ps => h.get? a = some { cls := .none, data := .fields ps }
  | .met f x => h.get? a = some (PySem.W.methodObj (.ref f) (.ref x))
  | .ext φ => φ h ∧ (∃ o, h.get? a = some o) ∧ ∀ h1 h2 : Heap, φ h1 → (∀ o, h1.get? a = some o → h2.get? a = some o) → φ h2
/-- the abstract heap is held -/
def HOk (H : Hp) (h : Heap) : Prop := ∀ a o, H a = some o → ObjOk P w H h a o
end

section
variable {P : Program} {w : World} {H H' : Hp} {h h' : Heap} {a : Addr} {o : HO}
theorem ObjOk.lt (x : ObjOk P w H h a o) : a < h.objs.size := by
  cases o with
  | lst xs => obtain ⟨_, _, _, _, e⟩ := x; exact Heap.lt_size e
  | tup xs => obtain ⟨_, _, _, p⟩ := x; exact p.lt
  | dK kvs => obtain ⟨_, _, _, _, o, _, _, e, _⟩ := x; exact Heap.lt_size e
  | dT kvs => obtain ⟨_, _, _, _, o, _, _, e, _⟩ := x; exact Heap.lt_size e
  | set S n => obtain ⟨o, _, _, _, e, _⟩ := x; exact Heap.lt_size e
  | ins C dx fs => obtain ⟨_, _, _, e, _⟩ := x; exact Heap.lt_size e
  | own y => obtain ⟨_, e⟩ := x; exact Heap.lt_size e
  | xd fs => obtain ⟨_, ⟨_, _, _, e, _⟩, _⟩ := x; exact Heap.lt_size e
  | rng lo hi => obtain ⟨_, _, _, e⟩ := x; exact Heap.lt_size e
  | frz ob u => obtain ⟨e, _⟩ := x; exact Heap.lt_size e
  | tbl ps => exact Heap.lt_size (show h.get? a = some _ from x)
  | met f y => exact Heap.lt_size (show h.get? a = some _ from x)
  | ext φ => obtain ⟨_, ⟨_, e⟩, _⟩ := x; exact Heap.lt_size e
theorem Paired.mapP {α β : Type} {F G : α → β → Prop} : ∀ {l₁ : List α} {l₂ : List β}, Paired F l₁ l₂ → (∀ a b, F a b → G a b) → Paired G l₁ l₂
  | _, _, .nil, _ => .nil
  | _, _, .cons r t, f => .cons (f _ _ r) (Paired.mapP t f)
theorem Paired.imp' {α β : Type} {F G : α → β → Prop} (f : ∀ a b, F a b → G a b) {l₁ : List α} {l₂ : List β} (r : Paired F l₁ l₂) : Paired G l₁ l₂ := Paired.mapP r f
/-- what an object's description leans on: its own object, its own dict, the tuples -/
theorem ObjOk.stay (x : ObjOk P w H h a o) (k : ∀ b u, (b = a ∨ H b = some (.own a)) → h.get? b = some u → h'.get? b = some u)
    (ho : ∀ b, H b = some (.own a) → H' b = some (.own a)) (ht : ∀ b xs, H b = some (.tup xs) → H' b = some (.tup xs)) : ObjOk P w H' h' a o := by
  induction o with
  | lst xs => obtain ⟨z, its, n, r, e⟩ := x; exact ⟨z, its, n, r, k _ _ (.inl rfl) e⟩
  | tup xs => obtain ⟨z, its, r, ob, e, c⟩ := x; exact ⟨z, its, r, ob, k _ _ (.inl rfl) e, c⟩
  | dK kvs => obtain ⟨z, y, vs, r, ob, es, ep, e, c⟩ := x; exact ⟨z, y, vs, r, ob, es, ep, k _ _ (.inl rfl) e, c⟩
  | dT kvs =>
    obtain ⟨z, y, xs, r, ob, es, ep, e, c⟩ := x
    exact ⟨z, y, xs, Paired.mapP r fun p q z => ⟨z.1, ht _ _ z.2.1, z.2.2⟩, ob, es, ep, k _ _ (.inl rfl) e, c⟩
  | set S n => obtain ⟨ob, es, ep, t, e, c⟩ := x; exact ⟨ob, es, ep, t, k _ _ (.inl rfl) e, c⟩
  | ins C dx fs =>
    obtain ⟨d, z, ne, e, mA, ⟨od, es, ep, e2, c⟩, r⟩ := x
    exact ⟨ho _ d, z, ne, k _ _ (.inl rfl) e, mA, ⟨od, es, ep, k _ _ (.inr d) e2, c⟩, r⟩
  | own y => obtain ⟨ob, e⟩ := x; exact ⟨ob, k _ _ (.inl rfl) e⟩
  | xd fs => obtain ⟨mA, ⟨od, es, ep, e, c⟩, r⟩ := x; exact ⟨mA, ⟨od, es, ep, k _ _ (.inl rfl) e, c⟩, r⟩
  | rng lo hi => obtain ⟨t, u, v, e⟩ := x; exact ⟨t, u, v, k _ _ (.inl rfl) e⟩
  | frz ob u ih => obtain ⟨e, q⟩ := x; exact ⟨k _ _ (.inl rfl) e, ih q⟩
  | tbl ps =>
    have e : h.get? a = some { cls := .none, data := .fields ps } := x
    show h'.get? a = some { cls := .none, data := .fields ps }
    exact k a _ (.inl rfl) e
  | met f y =>
    have e : h.get? a = some (PySem.W.methodObj (.ref f) (.ref y)) := x
    show h'.get? a = some (PySem.W.methodObj (.ref f) (.ref y))
    exact k a _ (.inl rfl) e
  | ext φ => obtain ⟨p, ⟨o, e⟩, st⟩ := x; exact ⟨st _ _ p fun o q => k _ _ (.inl rfl) q, ⟨o, k _ _ (.inl rfl) e⟩, st⟩
theorem HOk.lt (x : HOk P w H h) (e : H a = some o) : a < h.objs.size := (x a o e).lt
theorem HOk.fresh (x : HOk P w H h) (e : h.objs.size ≤ a) : H a = none := by
  cases q : H a with
  | none => rfl
  | some u => exact absurd (Nat.lt_of_lt_of_le (x.lt q) e) (Nat.lt_irrefl _)
/-- every object of the heap is kept -/
theorem HOk.kept (x : HOk P w H h) (k : ∀ b u, h.get? b = some u → h'.get? b = some u) : HOk P w H h' := fun a o e =>
  (x a o e).stay (fun b u _ q => k b u q) (fun _ q => q) fun _ _ q => q
/-- a new object is laid and tracked -/
theorem HOk.laid (x : HOk P w H h) (k : ∀ b u, h.get? b = some u → h'.get? b = some u) (hp : h.objs.size ≤ a) (new : ObjOk P w (upd H a o) h' a o) : HOk P w (upd H a o) h' := fun b u e => by
  have hn := x.fresh hp
  by_cases hb : b = a
  · subst hb; rw [upd_same] at e; cases e; exact new
  · rw [upd_ne hb] at e
    exact (x b u e).stay (fun c v _ q => k c v q) (fun c q => by rw [upd_ne (ne_of_none q hn)]; exact q) fun c xs q => by rw [upd_ne (ne_of_none q hn)]; exact q
end

/-- what may be read as u: it is u, or a known u -/
def Rd (H : Hp) (a : Addr) (u : HO) : Prop := H a = some u ∨ ∃ o, H a = some (.frz o u)
theorem Rd.of {H : Hp} {a : Addr} {u : HO} (h : H a = some u) : Rd H a u := .inl h
theorem Rd.ok {P : Program} {w : World} {H : Hp} {h : Heap} {a : Addr} {u : HO} (r : Rd H a u) (x : HOk P w H h) : ObjOk P w H h a u := by
  rcases r with r | ⟨o, r⟩
  · exact x a u r
  · obtain ⟨_, q⟩ := x a _ r
    exact q
/-- what may be written -/
def Mut : Option HO → Prop
  | some (.lst _) => True
  | some (.dK _) => True
  | some (.dT _) => True
  | some (.set _ _) => True
  | some (.ins _ _ _) => True
  | some (.ext _) => True
  | _ => False
section
variable {P : Program} {w : World} {H : Hp} {h h' : Heap} {x e : Addr} {o' : HO}
/-- the object at e is changed: x itself, or the dict of the instance x -/
theorem HOk.write (ok : HOk P w H h) (mu : Mut (H x)) (he : e = x ∨ H e = some (.own x)) (k : ∀ b u, b ≠ e → h.get? b = some u → h'.get? b = some u) (heo : ∃ u, h'.get? e = some u)
    (new : ObjOk P w (upd H x o') h' x o') : HOk P w (upd H x o') h' := fun b u q => by
  have nown : ∀ c y, H c = some (.own y) → c ≠ x := fun c y r z => by subst z; rw [r] at mu; exact mu
  have ntup : ∀ c xs, H c = some (.tup xs) → c ≠ x := fun c xs r z => by subst z; rw [r] at mu; exact mu
  by_cases hb : b = x
  · subst hb; rw [upd_same] at q; cases q; exact new
  · rw [upd_ne hb] at q
    by_cases hbe : b = e
    · have q' : H b = some (.own x) := by
        rcases he with z | z
        · exact absurd (hbe.trans z) hb
        · rw [hbe]; exact z
      rw [q] at q'; cases q'
      obtain ⟨v, hv⟩ := heo
      exact ⟨v, by rw [hbe]; exact hv⟩
    · refine (ok b u q).stay (fun c v hc r => k c v ?_ r) (fun c r => by rw [upd_ne (nown c b r)]; exact r) fun c xs r => by rw [upd_ne (ntup c xs r)]; exact r
      rcases hc with rfl | hc
      · exact hbe
      · rintro rfl
        rcases he with z | z
        · exact nown c b hc z
        · rw [hc] at z; cases z; exact hb rfl
end

/-! ### kept unless tracked; of the frames at fs (the callers') the slots may change (an exception that passes writes there); of the records at ex (iterators) nothing is said -/
structure Un (fs ex : List Addr) (H H' : Hp) (h h' : Heap) : Prop where
  keep : ∀ b o, h.get? b = some o → H b = none → b ∉ fs → b ∉ ex → h'.get? b = some o
  slot : ∀ b o, h.get? b = some o → H b = none → b ∈ fs → b ∉ ex → ∃ sl, h'.get? b = some { o with slots := sl }
  free : ∀ b o, h.get? b = some o → H b = none → b ∉ ex → H' b = none
  there : ∀ b o, h.get? b = some o → b ∉ ex → ∃ o', h'.get? b = some o'
  tups : ∀ b xs, H b = some (.tup xs) → H' b = some (.tup xs)
  frzs : ∀ b o u, H b = some (.frz o u) → H' b = some (.frz o u)
  tbls : ∀ b ps, H b = some (.tbl ps) → ∃ more, H' b = some (.tbl (ps ++ more))
section
variable {fs fs' ex ex' : List Addr} {H H1 H2 : Hp} {h h1 h2 h' : Heap} {a x e : Addr} {o : HO}
theorem Un.any (u : Un fs ex H H1 h h1) {b : Addr} {ob : Obj} (q : h.get? b = some ob) (n : H b = none) (hx : b ∉ ex) : ∃ sl, h1.get? b = some { ob with slots := sl } := by
  by_cases hb : b ∈ fs
  · exact u.slot b ob q n hb hx
  · exact ⟨ob.slots, u.keep b ob q n hb hx⟩
theorem Un.trans (a : Un fs ex H H1 h h1) (b : Un fs ex H1 H2 h1 h2) : Un fs ex H H2 h h2 where
  keep := fun c ob q n hc hx => b.keep c ob (a.keep c ob q n hc hx) (a.free c ob q n hx) hc hx
  slot := fun c ob q n hc hx => by
    obtain ⟨sl, e1⟩ := a.slot c ob q n hc hx
    obtain ⟨sl', e2⟩ := b.slot c _ e1 (a.free c ob q n hx) hc hx
    exact ⟨sl', e2⟩
  free := fun c ob q n hx => by
    obtain ⟨o', e1⟩ := a.there c ob q hx
    exact b.free c o' e1 (a.free c ob q n hx) hx
  there := fun c ob q hx => by
    obtain ⟨o', e1⟩ := a.there c ob q hx
    exact b.there c o' e1 hx
  tups := fun c xs q => b.tups c xs (a.tups c xs q)
  frzs := fun c ob xs q => b.frzs c ob xs (a.frzs c ob xs q)
  tbls := fun c ps q => by
    obtain ⟨m1, e1⟩ := a.tbls c ps q
    obtain ⟨m2, e2⟩ := b.tbls c _ e1
    exact ⟨m1 ++ m2, by rw [e2, Array.append_assoc]⟩
theorem Un.kept (k : ∀ b u, h.get? b = some u → h'.get? b = some u) : Un fs ex H H h h' :=
  ⟨fun b ob q _ _ _ => k b ob q, fun b ob q _ _ _ => ⟨ob.slots, k b ob q⟩, fun _ _ _ n _ => n, fun b ob q _ => ⟨ob, k b ob q⟩, fun _ _ q => q, fun _ _ _ q => q, fun _ ps q => ⟨#[], by rw [q]; simp⟩⟩
theorem Un.refl : Un fs ex H H h h := Un.kept fun _ _ q => q
theorem Un.laid (k : ∀ b u, h.get? b = some u → h'.get? b = some u) (hp : h.objs.size ≤ a) (hn : H a = none) : Un fs ex H (upd H a o) h h' where
  keep := fun b u q _ _ _ => k b u q
  slot := fun b u q _ _ _ => ⟨u.slots, k b u q⟩
  free := fun b u q n _ => by rw [upd_ne (Nat.ne_of_lt (Nat.lt_of_lt_of_le (Heap.lt_size q) hp))]; exact n
  there := fun b u q _ => ⟨u, k b u q⟩
  tups := fun b xs q => by rw [upd_ne (ne_of_none q hn)]; exact q
  frzs := fun b u xs q => by rw [upd_ne (ne_of_none q hn)]; exact q
  tbls := fun b ps q => ⟨#[], by rw [upd_ne (ne_of_none q hn), q]; simp⟩
theorem Un.write (mu : Mut (H x)) (he : e = x ∨ H e = some (.own x)) (k : ∀ b u, b ≠ e → h.get? b = some u → h'.get? b = some u) (heo : ∃ u, h'.get? e = some u) : Un fs ex H (upd H x o) h h' := by
  have hx : ∀ b, H b = none → b ≠ x := fun b n z => by subst z; rw [n] at mu; exact mu
  have hb : ∀ b, H b = none → b ≠ e := fun b n z => by
    subst z
    rcases he with r | r
    · exact hx b n r
    · rw [n] at r; cases r
  have hm : ∀ b u, H b = some u → ¬ Mut (some u) → b ≠ x := fun b u q nm z => by subst z; rw [q] at mu; exact nm mu
  refine ⟨fun b u q n _ _ => k b u (hb b n) q, fun b u q n _ _ => ⟨u.slots, k b u (hb b n) q⟩, fun b u q n _ => by rw [upd_ne (hx b n)]; exact n, fun b u q _ => ?_,
    fun b xs q => by rw [upd_ne (hm b _ q fun z => z)]; exact q, fun b u xs q => by rw [upd_ne (hm b _ q fun z => z)]; exact q, fun b ps q => ⟨#[], by rw [upd_ne (hm b _ q fun z => z), q]; simp⟩⟩
  by_cases hbe : b = e
  · subst hbe; exact heo
  · exact ⟨u, k b u hbe q⟩
theorem Un.mono (u : Un fs ex H H1 h h1) (hs : ∀ b ∈ fs, b ∈ fs') (hx : ∀ b ∈ ex, b ∈ ex') : Un fs' ex' H H1 h h1 :=
  ⟨fun b ob q n hb he => u.keep b ob q n (fun z => hb (hs b z)) fun z => he (hx b z), fun _ _ q n _ he => u.any q n fun z => he (hx _ z), fun b ob q n he => u.free b ob q n fun z => he (hx b z), fun b ob q he => u.there b ob q fun z => he (hx b z), u.tups, u.frzs, u.tbls⟩
end

/-! ### the heap without what is tracked -/
def trk (h : Heap) (H : Hp) : List Addr := (List.range h.objs.size).filter fun a => (H a).isSome
def hidT (h : Heap) (H : Hp) : Heap := PySem.W.hideAll h (trk h H)
theorem hidT_size (h : Heap) (H : Hp) : (hidT h H).objs.size = h.objs.size := PySem.W.hideAll_size _ _
theorem hidT_get {h : Heap} {H : Hp} {b : Addr} {o : Obj} (e : h.get? b = some o) (n : H b = none) : (hidT h H).get? b = some o :=
  PySem.W.hideAll_get _ e fun hm => by
    have q : (H b).isSome = true := (List.mem_filter.mp hm).2
    rw [n] at q; simp at q
theorem of_hidT {h : Heap} {H : Hp} {b : Addr} {o : Obj} (e : (hidT h H).get? b = some o) : h.get? b = some o ∧ H b = none := by
  have e' : h.get? b = some o := PySem.W.of_hideAll (trk h H) e
  refine ⟨e', ?_⟩
  cases q : H b with
  | none => rfl
  | some x =>
    have hm : b ∈ trk h H := List.mem_filter.mpr ⟨List.mem_range.mpr (Heap.lt_size e'), by simp [q]⟩
    have z : (hidT h H).get? b = none := PySem.W.hideAll_none (trk h H) hm
    rw [z] at e; cases e

/-! ### OpenK's ledger, filled with every new object but one -/
def allNews (g h : Heap) (L : Addr) : List (Addr × Obj) := (List.range h.objs.size).filterMap fun a => if a = L ∨ (g.get? a).isSome = true then none else (h.get? a).map fun o => (a, o)
theorem mem_allNews {g h : Heap} {L a : Addr} {o : Obj} (h1 : a ≠ L) (h2 : g.get? a = none) (h3 : h.get? a = some o) : (a, o) ∈ allNews g h L :=
  List.mem_filterMap.mpr ⟨a, List.mem_range.mpr (Heap.lt_size h3), by simp [h1, h2, h3]⟩
theorem of_mem_allNews {g h : Heap} {L : Addr} {p : Addr × Obj} (hp : p ∈ allNews g h L) : p.1 ≠ L ∧ g.get? p.1 = none ∧ h.get? p.1 = some p.2 := by
  obtain ⟨b, _, e⟩ := List.mem_filterMap.mp hp
  split at e
  · cases e
  · rename_i hn
    cases q : h.get? b with
    | none => rw [q] at e; simp at e
    | some u =>
      rw [q] at e
      simp only [Option.map_some, Option.some.injEq] at e
      subst e
      refine ⟨fun z => hn (.inl z), ?_, q⟩
      show g.get? b = none
      cases r : g.get? b with
      | none => rfl
      | some v => exact (hn (.inr (by simp [r]))).elim
def rest (g h : Heap) (L d : Addr) : List (Addr × Obj) := (allNews g h L).filter fun p => decide (p.1 ≠ d)
theorem rest_ne {g h : Heap} {L d : Addr} : ∀ p ∈ rest g h L d, p.1 ≠ d := fun p hp => of_decide_eq_true (List.mem_filter.mp hp).2
theorem mem_rest {g h : Heap} {L d a : Addr} {o : Obj} (h1 : a ≠ L) (h2 : g.get? a = none) (h3 : h.get? a = some o) (h4 : a ≠ d) : (a, o) ∈ rest g h L d :=
  List.mem_filter.mpr ⟨mem_allNews h1 h2 h3, decide_eq_true h4⟩
theorem news_all {g h : Heap} {L : Addr} : News g L h (allNews g h L) := fun p hp => let ⟨a, b, c⟩ := of_mem_allNews hp; ⟨c, a, b⟩
theorem news_at {g h : Heap} {L d : Addr} {o : Obj} (h1 : d ≠ L) (h2 : g.get? d = none) (h3 : h.get? d = some o) : News g L h ((d, o) :: rest g h L d) := fun p hp => by
  rcases List.mem_cons.mp hp with rfl | hp
  · exact ⟨h3, h1, h2⟩
  · exact news_all p (List.mem_filter.mp hp).1
/-- behind a rule that changed d alone: all else but the frame is kept -/
theorem kept_of_news {g h h' : Heap} {L d : Addr} {m : Str → Option Value} (k : ∀ b o, g.get? b = some o → h.get? b = some o) (F : Fr g L h' m) (N : News g L h' (rest g h L d)) :
    ∀ b o, b ≠ L → b ≠ d → h.get? b = some o → h'.get? b = some o := fun b o h1 h2 e => by
  cases q : g.get? b with
  | some u =>
    have := k b u q
    rw [e] at this; cases this
    exact F.keep b _ q
  | none => exact (N (b, o) (mem_rest h1 q e h2)).1
end L2

namespace L2
open PySem PySem.Spec PyProof.Rows

/-- the module's facts, over the base: the heap at the law's entry without what is tracked there -/
structure Mod (K : PySem.W.Frag) (mg : Str → Option Value) (base : Heap) : Prop where
  kin : K.In base
  glob : base.Ns mainGlobals mg
  blt : ∃ mb, base.Ns builtinsNs mb ∧ ∀ x : Str, x ≠ "__name__" → mb x = bootBuiltins x
  nolimit : base.NoLimit

/-- the context: a def's body (or a comprehension's block) running. base: fixed through the whole law; s₀, H₀: the entry; outer: the frames whose slots others may change (a def's callers); stack: all frames that run;
   ex: iterators that were made ahead of the entry and are walked here (a comprehension's); fn: the names whose cells were made at the entry (a def: all; a comprehension's block: its own); calm: not within an except suite; pn: pins that every state bears; xe: what is wanted of an exception that leaves the code -/
structure Cx where
  prog : Program
  w : World
  K : PySem.W.Frag
  mg : Str → Option Value
  base : Heap
  A : Around
  N : List Str
  s₀ : Shared
  H₀ : Hp
  env : Env
  outer : List Env
  stack : List Env
  ex : List Addr
  fn : Str → Bool
  calm : Bool
  pn : List (Addr × Obj)
  xe : Value → Shared → Prop
/-- the callers' frames -/
def frs (l : List Env) : List Addr := l.filterMap (·.frame)
abbrev Cx.fs (X : Cx) : List Addr := frs X.outer

def Vis (sc : Scope) (x : Str) : Prop := sc.names.lookup x = some .local ∨ sc.names.lookup x = some .cell ∨ sc.names.lookup x = some .free
def Loc (sc : Scope) (x : Str) : Prop := sc.names.lookup x = some .local ∨ sc.names.lookup x = some .cell
def Look (env : Env) (h : Heap) (m : Str → Option Value) (x : Str) (u : Value) : Prop :=
  (env.kindOf x = some .local ∧ m x = some u) ∨ ((env.kindOf x = some .cell ∨ env.kindOf x = some .free) ∧ ∃ c, env.cells.lookup x = some c ∧ h.IsCell c (some u))

structure Cx.Ok (X : Cx) : Prop where
  mod : Mod X.K X.mg X.base
  kind : X.env.scope.kind = .function
  glob : X.env.globals = mainGlobals
  blt : X.env.builtins = builtinsNs
  above : X.s₀.heap.objs.size ≤ X.env.locals
  inj : ∀ x y c, X.env.cells.lookup x = some c → X.env.cells.lookup y = some c → x = y
  has : ∀ x, (X.env.kindOf x = some .cell ∨ X.env.kindOf x = some .free) → ∃ c, X.env.cells.lookup x = some c
  cab : ∀ x c, X.fn x = true → X.env.cells.lookup x = some c → X.s₀.heap.objs.size ≤ c
  hd : X.calm = true → X.A.handled = none
  frames : X.A.frames = some X.stack
  stk : X.stack = X.outer ∨ (X.stack = X.env :: X.outer ∧ X.env.frame = some X.env.locals)
  exf : ∀ b ∈ X.ex, b ≠ X.env.locals ∧ ∀ x c, X.env.cells.lookup x = some c → c ≠ b
  bs : ∀ b o, X.base.get? b = some o → X.s₀.heap.get? b = some o ∧ X.H₀ b = none
  bsz : X.base.objs.size ≤ X.s₀.heap.objs.size
  noex : ∀ b o, X.base.get? b = some o → b ∉ X.ex
  exfs : ∀ b ∈ X.ex, b ∉ X.fs
  funs : X.s₀.heap.FunFrames X.base X.outer
  frf : ∀ b ∈ X.fs, X.H₀ b = none

structure Inv (X : Cx) (pins : List (Addr × Obj)) (σ : List (Option V)) (H : Hp) (s : Shared) : Prop where
  ok : X.Ok
  os : s.os = X.s₀.os
  bare : AllBare s.gens
  base : Un X.fs X.ex X.H₀ H X.s₀.heap s.heap
  loc : ∃ m, s.heap.Ns X.env.locals m ∧ ∀ (i : Nat) (x : Str) (v : V), X.N[i]? = some x → σ[i]? = some (some v) → Vis X.env.scope x → ∃ u, RelV v u ∧ Look X.env s.heap m x u
  cell : ∀ x c, X.env.cells.lookup x = some c → ∃ v, s.heap.IsCell c v
  free : H X.env.locals = none
  freeC : ∀ x c, X.env.cells.lookup x = some c → H c = none
  pin : ∀ p ∈ X.pn ++ pins, s.heap.get? p.1 = some p.2 ∧ H p.1 = none ∧ p.1 ≠ X.env.locals ∧ p.1 ∉ X.fs ∧ ∀ v, p.2.data ≠ .cell v
  hok : HOk X.prog X.w H s.heap
  len : σ.length = X.N.length

section
variable {X : Cx} {pins : List (Addr × Obj)} {σ : List (Option V)} {H H' : Hp} {s : Shared} {h' : Heap}

theorem Cx.Ok.nofr (ok : X.Ok) {b : Addr} {o : Obj} (e : X.base.get? b = some o) : b ∉ X.fs := fun hb => by
  have := (ok.funs.mem hb).1
  rw [e] at this; cases this
theorem Inv.bs (I : Inv X pins σ H s) : ∀ b o, X.base.get? b = some o → s.heap.get? b = some o ∧ H b = none := fun b o e =>
  ⟨I.base.keep b o (I.ok.bs b o e).1 (I.ok.bs b o e).2 (I.ok.nofr e) (I.ok.noex b o e), I.base.free b o (I.ok.bs b o e).1 (I.ok.bs b o e).2 (I.ok.noex b o e)⟩
theorem Inv.bk (I : Inv X pins σ H s) : ∀ b o, X.base.get? b = some o → s.heap.get? b = some o := fun b o e => (I.bs b o e).1
theorem Inv.mod (I : Inv X pins σ H s) : Mod X.K X.mg X.base := I.ok.mod
theorem Inv.kIn (I : Inv X pins σ H s) : X.K.In s.heap := I.ok.mod.kin.keeps I.bk
theorem Inv.nolimit (I : Inv X pins σ H s) : s.heap.NoLimit := I.ok.mod.nolimit.keeps I.bk
/-- the frame over the base: for OpenK's rules (K.In X.base is I.mod.kin) -/
theorem Inv.fr (I : Inv X pins σ H s) : ∃ m, Fr X.base X.env.locals s.heap m :=
  let ⟨m, hn, _⟩ := I.loc
  ⟨m, hn, I.bk, Nat.le_trans I.ok.bsz I.ok.above⟩
theorem Inv.lt (I : Inv X pins σ H s) : X.env.locals < s.heap.objs.size := let ⟨_, hn, _⟩ := I.loc; hn.lt
theorem Inv.sz (I : Inv X pins σ H s) : X.s₀.heap.objs.size ≤ s.heap.objs.size := Nat.le_trans I.ok.above (Nat.le_of_lt I.lt)
theorem Inv.nofs (I : Inv X pins σ H s) {a : Addr} (h : s.heap.objs.size ≤ a) : a ∉ X.fs := fun hb => by
  obtain ⟨_, o, ho, _⟩ := I.ok.funs.mem hb
  exact absurd (Nat.lt_of_lt_of_le (Heap.lt_size ho) (Nat.le_trans I.sz h)) (Nat.lt_irrefl _)
theorem Inv.cne (I : Inv X pins σ H s) : ∀ x c, X.env.cells.lookup x = some c → c ≠ X.env.locals := fun x c e z => by
  obtain ⟨v, o, ho, hd⟩ := I.cell x c e
  obtain ⟨m, ⟨o', es, ep, ho', hd', _⟩, _⟩ := I.loc
  rw [z, ho'] at ho; cases ho; rw [hd'] at hd; cases hd
theorem Inv.funs (I : Inv X pins σ H s) : s.heap.FunFrames X.base X.outer := by
  have all : ∀ (l : List Env), (∀ b ∈ frs l, b ∈ X.fs) → X.s₀.heap.FunFrames X.base l → s.heap.FunFrames X.base l := by
    intro l
    induction l with
    | nil => intro _ _; trivial
    | cons env r ih =>
      intro hs hl
      obtain ⟨hk, ⟨L, o, hf, hn, ho, hd⟩, hr⟩ := hl
      have hL : L ∈ X.fs := hs L (by unfold frs; rw [List.filterMap_cons, hf]; exact List.mem_cons_self)
      obtain ⟨sl, e⟩ := I.base.slot L o ho (I.ok.frf L hL) hL fun z => I.ok.exfs L z hL
      exact ⟨hk, ⟨L, _, hf, hn, e, hd⟩, ih (fun b hb => hs b (by unfold frs; rw [List.filterMap_cons, hf]; exact List.mem_cons_of_mem _ hb)) hr⟩
  exact all X.outer (fun _ hb => hb) I.ok.funs

/-- the frames that run, for a call -/
theorem Inv.stack (I : Inv X pins σ H s) : s.heap.FunFrames X.base X.stack := by
  rcases I.ok.stk with e | ⟨e, hf⟩
  · rw [e]; exact I.funs
  · rw [e]
    obtain ⟨m, hn, _⟩ := I.loc
    refine .cons (by rw [I.ok.kind]; decide) hf hn ?_ I.funs
    exact Heap.get?_none_of_le (Nat.le_trans I.ok.bsz I.ok.above)
theorem Inv.stkSub (I : Inv X pins σ H s) : ∀ b ∈ frs X.stack, b ∈ X.env.locals :: X.fs := fun b hb => by
  rcases I.ok.stk with e | ⟨e, hf⟩
  · rw [e] at hb; exact List.mem_cons_of_mem _ hb
  · rw [e] at hb
    unfold frs at hb
    rw [List.filterMap_cons, hf] at hb
    exact hb
theorem Inv.stkFree (I : Inv X pins σ H s) : ∀ b ∈ frs X.stack, H b = none := fun b hb => by
  rcases List.mem_cons.mp (I.stkSub b hb) with e | hb
  · rw [e]; exact I.free
  · obtain ⟨_, o, ho, _⟩ := I.ok.funs.mem hb
    exact I.base.free b o ho (I.ok.frf b hb) fun z => I.ok.exfs b z hb

/-- THE STEP: the untracked objects but the frame and the records at ch are kept (the callers' frames up to slots), the frame's map is kept, the new abstract heap is held -/
theorem Inv.step {g' : Array GenState} {t' : Nat} {d' : Drawn} {ch : List Addr} (I : Inv X pins σ H s)
    (hch : ∀ b ∈ ch, (b ∈ X.ex ∨ X.s₀.heap.objs.size ≤ b) ∧ b ≠ X.env.locals ∧ (∀ x c, X.env.cells.lookup x = some c → c ≠ b) ∧ ∀ p ∈ X.pn ++ pins, p.1 ≠ b)
    (keep : ∀ b o, b ≠ X.env.locals → b ∉ X.fs → b ∉ ch → s.heap.get? b = some o → H b = none → h'.get? b = some o)
    (slot : ∀ b o, b ≠ X.env.locals → b ∈ X.fs → b ∉ ch → s.heap.get? b = some o → H b = none → ∃ sl, h'.get? b = some { o with slots := sl }) (free : ∀ b o, b ∉ ch → s.heap.get? b = some o → H b = none → H' b = none)
    (there : ∀ b o, b ∉ ch → s.heap.get? b = some o → ∃ o', h'.get? b = some o')
    (tups : ∀ b xs, H b = some (.tup xs) → H' b = some (.tup xs)) (frzs : ∀ b o u, H b = some (.frz o u) → H' b = some (.frz o u)) (tbls : ∀ b ps, H b = some (.tbl ps) → ∃ more, H' b = some (.tbl (ps ++ more)))
    (ns : ∀ m, s.heap.Ns X.env.locals m → h'.Ns X.env.locals m) (hok : HOk X.prog X.w H' h') (hg : AllBare g') :
    Inv X pins σ H' { s with heap := h', gens := g', drawn := d', toks := t' } := by
  have neL : ∀ b o, X.s₀.heap.get? b = some o → b ≠ X.env.locals := fun b o e => Nat.ne_of_lt (Nat.lt_of_lt_of_le (Heap.lt_size e) I.ok.above)
  have neC : ∀ b o, X.s₀.heap.get? b = some o → b ∉ X.ex → b ∉ ch := fun b o e hx hb => by
    rcases (hch b hb).1 with z | z
    · exact hx z
    · exact absurd (Nat.lt_of_lt_of_le (Heap.lt_size e) z) (Nat.lt_irrefl _)
  have cellK : ∀ x c, X.env.cells.lookup x = some c → ∀ v, s.heap.IsCell c v → h'.IsCell c v := fun x c e v ⟨o, ho, hd⟩ => by
    have nch : c ∉ ch := fun z => (hch c z).2.2.1 x c e rfl
    by_cases hc : c ∈ X.fs
    · obtain ⟨sl, q⟩ := slot c o (I.cne x c e) hc nch ho (I.freeC x c e)
      exact ⟨_, q, hd⟩
    · exact ⟨o, keep c o (I.cne x c e) hc nch ho (I.freeC x c e), hd⟩
  refine ⟨I.ok, I.os, hg, ⟨fun b o e n hb hx => ?_, fun b o e n hb hx => ?_, fun b o e n hx => ?_, fun b o e hx => ?_, fun b xs e => tups b xs (I.base.tups b xs e), fun b o xs e => frzs b o xs (I.base.frzs b o xs e), fun b ps e => ?_⟩, ?_, fun x c e => ?_, ?_, fun x c e => ?_, fun p hp => ?_, hok, I.len⟩
  · exact keep b o (neL b o e) hb (neC b o e hx) (I.base.keep b o e n hb hx) (I.base.free b o e n hx)
  · obtain ⟨sl, e1⟩ := I.base.slot b o e n hb hx
    obtain ⟨sl', e2⟩ := slot b _ (neL b o e) hb (neC b o e hx) e1 (I.base.free b o e n hx)
    exact ⟨sl', e2⟩
  · obtain ⟨o', e1⟩ := I.base.there b o e hx
    exact free b o' (neC b o e hx) e1 (I.base.free b o e n hx)
  · obtain ⟨o', e1⟩ := I.base.there b o e hx
    exact there b o' (neC b o e hx) e1
  · obtain ⟨m1, e1⟩ := I.base.tbls b ps e
    obtain ⟨m2, e2⟩ := tbls b _ e1
    exact ⟨m1 ++ m2, by rw [e2, Array.append_assoc]⟩
  · obtain ⟨m, hn, hl⟩ := I.loc
    refine ⟨m, ns m hn, fun i x v e1 e2 e3 => ?_⟩
    obtain ⟨u, r, l⟩ := hl i x v e1 e2 e3
    refine ⟨u, r, ?_⟩
    rcases l with l | ⟨k, c, e, z⟩
    · exact .inl l
    · exact .inr ⟨k, c, e, cellK x c e _ z⟩
  · obtain ⟨v, z⟩ := I.cell x c e
    exact ⟨v, cellK x c e v z⟩
  · obtain ⟨m, ⟨o, _, _, ho, _⟩, _⟩ := I.loc
    exact free _ o (fun z => (hch _ z).2.1 rfl) ho I.free
  · obtain ⟨v, o, ho, hd⟩ := I.cell x c e
    exact free c o (fun z => (hch c z).2.2.1 x c e rfl) ho (I.freeC x c e)
  · obtain ⟨e, n, ne, nf, d⟩ := I.pin p hp
    have nch : p.1 ∉ ch := fun z => (hch p.1 z).2.2.2 p hp rfl
    exact ⟨keep p.1 p.2 ne nf nch e n, free p.1 p.2 nch e n, ne, nf, d⟩
/-- .. where the frame's own object is kept too -/
theorem Inv.un {t' : Nat} (I : Inv X pins σ H s) (u : Un X.fs [] H H' s.heap h') (hok : HOk X.prog X.w H' h') : Inv X pins σ H' { s with heap := h', toks := t' } := by
  obtain ⟨m, ⟨o, es, ep, ho, r⟩, _⟩ := id I.loc
  obtain ⟨sl, hL⟩ := u.any ho I.free (by simp)
  exact I.step (g' := s.gens) (d' := s.drawn) (ch := []) (fun _ z => nomatch z) (fun b o _ hb _ e n => u.keep b o e n hb (by simp)) (fun b o _ hb _ e n => u.slot b o e n hb (by simp)) (fun b o _ e n => u.free b o e n (by simp)) (fun b o _ e => u.there b o e (by simp)) u.tups u.frzs u.tbls (fun m' hm => by
    obtain ⟨o', es', ep', ho', r'⟩ := hm
    rw [ho] at ho'; cases ho'
    exact ⟨_, es', ep', hL, r'⟩) hok I.bare
/-- behind a call (or a comprehension's block): the slots of this frame may have changed too, the records at ch may have turned -/
theorem Inv.call {g' : Array GenState} {t' : Nat} {d' : Drawn} {ch : List Addr} (I : Inv X pins σ H s) (u : Un (frs X.stack) ch H H' s.heap h') (hok : HOk X.prog X.w H' h') (hg : AllBare g')
    (hch : ∀ b ∈ ch, (b ∈ X.ex ∨ X.s₀.heap.objs.size ≤ b) ∧ b ≠ X.env.locals ∧ (∀ x c, X.env.cells.lookup x = some c → c ≠ b) ∧ ∀ p ∈ X.pn ++ pins, p.1 ≠ b) :
    Inv X pins σ H' { s with heap := h', gens := g', drawn := d', toks := t' } := by
  obtain ⟨m, ⟨o, es, ep, ho, r⟩, _⟩ := id I.loc
  obtain ⟨sl, hL⟩ := u.any ho I.free fun z => (hch _ z).2.1 rfl
  exact I.step (ch := ch) hch (fun b o hL hb hc e n => u.keep b o e n (fun z => (List.mem_cons.mp (I.stkSub b z)).elim hL hb) hc) (fun b o _ _ hc e n => u.any e n hc) (fun b o hc e n => u.free b o e n hc) (fun b o hc e => u.there b o e hc) u.tups u.frzs u.tbls (fun m' hm => by
    obtain ⟨o', es', ep', ho', r'⟩ := hm
    rw [ho] at ho'; cases ho'
    exact ⟨_, es', ep', hL, r'⟩) hok hg
/-- an untracked record of ours (an iterator) has turned -/
theorem Inv.turned {t' : Nat} {it : Addr} (I : Inv X pins σ H s) (k : ∀ b o, b ≠ it → s.heap.get? b = some o → h'.get? b = some o) (hn : H it = none) (hL : it ≠ X.env.locals)
    (h1 : it ∈ X.ex ∨ X.s₀.heap.objs.size ≤ it) (h2 : ∀ x c, X.env.cells.lookup x = some c → c ≠ it) (h3 : ∀ p ∈ X.pn ++ pins, p.1 ≠ it) : Inv X pins σ H { s with heap := h', toks := t' } := by
  have nit : ∀ b u, H b = some u → b ≠ it := fun b u e z => by rw [z, hn] at e; cases e
  refine I.step (g' := s.gens) (d' := s.drawn) (ch := [it]) (fun b hb => ?_) (fun b o _ _ hc e _ => k b o (fun z => hc (by simp [z])) e) (fun b o _ _ hc e _ => ⟨o.slots, k b o (fun z => hc (by simp [z])) e⟩) (fun _ _ _ _ n => n)
    (fun b o hc e => ⟨o, k b o (fun z => hc (by simp [z])) e⟩) (fun _ _ e => e) (fun _ _ _ e => e) (fun b ps e => ⟨#[], by rw [e]; simp⟩) (fun m hm => ?_) (fun b u e => ?_) I.bare
  · have e : b = it := by simpa using hb
    subst e
    exact ⟨h1, hL, h2, h3⟩
  · obtain ⟨o, es, ep, ho, r⟩ := hm
    exact ⟨o, es, ep, k _ o (Ne.symm hL) ho, r⟩
  · refine (I.hok b u e).stay (fun c v hc q => k c v ?_ q) (fun _ q => q) fun _ _ q => q
    rcases hc with z | z
    · rw [z]; exact nit b u e
    · exact nit c _ z
theorem Inv.tok (I : Inv X pins σ H s) (t : Nat) : Inv X pins σ H { s with toks := t } := I.un (h' := s.heap) (t' := t) Un.refl I.hok
/-- all objects kept -/
theorem Inv.kept {t' : Nat} (I : Inv X pins σ H s) (k : ∀ b u, s.heap.get? b = some u → h'.get? b = some u) : Inv X pins σ H { s with heap := h', toks := t' } := I.un (Un.kept k) (I.hok.kept k)
/-- a new object laid and tracked -/
theorem Inv.laid {a : Addr} {o : HO} {t' : Nat} (I : Inv X pins σ H s) (k : ∀ b u, s.heap.get? b = some u → h'.get? b = some u) (hp : s.heap.objs.size ≤ a) (new : ObjOk X.prog X.w (upd H a o) h' a o) :
    Inv X pins σ (upd H a o) { s with heap := h', toks := t' } := I.un (Un.laid k hp (I.hok.fresh hp)) (I.hok.laid k hp new)
/-- an object written -/
theorem Inv.write {x e : Addr} {o : HO} {t' : Nat} (I : Inv X pins σ H s) (mu : Mut (H x)) (he : e = x ∨ H e = some (.own x)) (k : ∀ b u, b ≠ e → s.heap.get? b = some u → h'.get? b = some u) (heo : ∃ u, h'.get? e = some u)
    (new : ObjOk X.prog X.w (upd H x o) h' x o) : Inv X pins σ (upd H x o) { s with heap := h', toks := t' } := I.un (Un.write mu he k heo) (I.hok.write mu he k heo new)
/-- forgetting slots, pins -/
theorem Inv.weak {σ' : List (Option V)} (I : Inv X pins σ H s) (hl : σ'.length = σ.length) (w : ∀ (i : Nat) v, σ'[i]? = some (some v) → σ[i]? = some (some v)) : Inv X pins σ' H s :=
  ⟨I.ok, I.os, I.bare, I.base, let ⟨m, hn, hl'⟩ := I.loc; ⟨m, hn, fun i x v e1 e2 e3 => hl' i x v e1 (w i v e2) e3⟩, I.cell, I.free, I.freeC, I.pin, I.hok, hl.trans I.len⟩
theorem Inv.pins_of {pins' : List (Addr × Obj)} (I : Inv X pins σ H s) (h : ∀ p ∈ pins', s.heap.get? p.1 = some p.2 ∧ H p.1 = none ∧ p.1 ≠ X.env.locals ∧ p.1 ∉ X.fs ∧ ∀ v, p.2.data ≠ .cell v) : Inv X pins' σ H s :=
  ⟨I.ok, I.os, I.bare, I.base, I.loc, I.cell, I.free, I.freeC, fun p hp => (List.mem_append.mp hp).elim (fun z => I.pin p (List.mem_append_left _ z)) (h p), I.hok, I.len⟩

theorem nodup_ix {N : List Str} (hN : N.Nodup) {i j : Nat} {x : Str} (a : N[i]? = some x) (b : N[j]? = some x) : i = j := by
  obtain ⟨h1, e1⟩ := List.getElem?_eq_some_iff.mp a
  obtain ⟨h2, e2⟩ := List.getElem?_eq_some_iff.mp b
  exact (List.getElem_inj hN).mp (e1.trans e2.symm)

/-- a name is stored; what changed -/
theorem store_ok2 {M : Model} {A : Around} {E : Value → Shared → Prop} {i : Nat} {x : Str} {v : V} {u : Value} {Q : Unit → Shared → Prop} (I : Inv X pins σ H s) (hN : X.N.Nodup) (hi : X.N[i]? = some x) (hx : Loc X.env.scope x) (r : RelV v u)
    (h : ∀ s', Inv X pins (σ.set i (some v)) H s' → (∃ a, Heap.SameBut a s.heap s'.heap ∧ (a = X.env.locals ∨ X.env.cells.lookup x = some a)) → Q () s') (hf : X.fn x = true ∨ X.env.scope.names.lookup x = some .local := by first | exact .inl rfl | exact .inr rfl | assumption) : wpAny M A (storeName X.env x u) Q E s := by
  obtain ⟨m, hn, hl⟩ := id I.loc
  have hcls : (X.env.scope.kind == .class || (X.env.scope.kind == .module && X.env.locals != X.env.globals)) = false := by rw [I.ok.kind]; rfl
  have hiσ : i < σ.length := by rw [I.len]; exact (List.getElem?_eq_some_iff.mp hi).1
  have cne := I.cne
  have tracked : ∀ {a : Addr} {h' : Heap}, (∃ o, s.heap.get? a = some o ∧ H a = none) → Heap.SameBut a s.heap h' → HOk X.prog X.w H h' := fun {a h'} ha hs b ob e => by
    obtain ⟨_, _, hfree⟩ := ha
    refine (I.hok b ob e).stay (fun c w' hc q => (hs.2 c ?_).trans q) (fun _ q => q) fun _ _ q => q
    rintro rfl
    rcases hc with rfl | hc
    · rw [hfree] at e; cases e
    · rw [hfree] at hc; cases hc
  rcases hx with hk | hk
  · refine wpAny_storeName_local hk hn (fun h' hn' hs => ?_) hcls
    obtain ⟨oL, _, _, hoL, _⟩ := id hn
    refine h _ ⟨I.ok, I.os, I.bare, ⟨fun b o e n hb hx => ?_, fun b o e n hb hx => ?_, I.base.free, fun b o e hx => ?_, I.base.tups, I.base.frzs, I.base.tbls⟩, ⟨_, hn', fun j y v' e1 e2 e3 => ?_⟩, fun y c e => ?_, I.free, I.freeC, fun p hp => ?_, tracked ⟨oL, hoL, I.free⟩ hs, by simpa using I.len⟩ ⟨_, hs, .inl rfl⟩
    · exact (hs.2 b (Nat.ne_of_lt (Nat.lt_of_lt_of_le (Heap.lt_size e) I.ok.above))).trans (I.base.keep b o e n hb hx)
    · obtain ⟨sl, e1⟩ := I.base.slot b o e n hb hx
      exact ⟨sl, (hs.2 b (Nat.ne_of_lt (Nat.lt_of_lt_of_le (Heap.lt_size e) I.ok.above))).trans e1⟩
    · obtain ⟨o', e1⟩ := I.base.there b o e hx
      exact ⟨o', (hs.2 b (Nat.ne_of_lt (Nat.lt_of_lt_of_le (Heap.lt_size e) I.ok.above))).trans e1⟩
    · by_cases hj : j = i
      · subst hj
        rw [hi] at e1; cases e1
        rw [List.getElem?_set_self hiσ] at e2
        cases e2
        exact ⟨u, r, .inl ⟨hk, by simp⟩⟩
      · rw [List.getElem?_set_ne (Ne.symm hj)] at e2
        obtain ⟨u', r', q⟩ := hl j y v' e1 e2 e3
        refine ⟨u', r', ?_⟩
        rcases q with ⟨k, e⟩ | ⟨k, c, e, z⟩
        · refine .inl ⟨k, ?_⟩
          have : y ≠ x := fun e => hj (nodup_ix hN e1 (e ▸ hi))
          simp [this, e]
        · exact .inr ⟨k, c, e, z.sameBut hs (cne y c e)⟩
    · obtain ⟨w', z⟩ := I.cell y c e
      exact ⟨w', z.sameBut hs (cne y c e)⟩
    · obtain ⟨e, n, ne, nf, d⟩ := I.pin p hp
      exact ⟨(hs.2 p.1 ne).trans e, n, ne, nf, d⟩
  · have hfn : X.fn x = true := by
      rcases hf with z | z
      · exact z
      · rw [z] at hk; cases hk
    obtain ⟨c, hc⟩ := I.ok.has x (.inl hk)
    obtain ⟨w', z⟩ := I.cell x c hc
    refine wpAny_storeName_cell I.ok.kind hk hc z (fun h' hc' hs => ?_)
    obtain ⟨oc, hoc, hocd⟩ := id z
    refine h { s with heap := h' } ⟨I.ok, I.os, I.bare, ⟨fun b o e n hb hx => ?_, fun b o e n hb hx => ?_, I.base.free, fun b o e hx => ?_, I.base.tups, I.base.frzs, I.base.tbls⟩, ⟨m, hn.sameBut hs (Ne.symm (cne x c hc)), fun j y v' e1 e2 e3 => ?_⟩, fun y c' e => ?_, I.free, I.freeC, fun p hp => ?_, tracked ⟨oc, hoc, I.freeC x c hc⟩ hs, by simpa using I.len⟩ ⟨c, hs, .inr hc⟩
    · exact (hs.2 b (Nat.ne_of_lt (Nat.lt_of_lt_of_le (Heap.lt_size e) (I.ok.cab x c hfn hc)))).trans (I.base.keep b o e n hb hx)
    · obtain ⟨sl, e1⟩ := I.base.slot b o e n hb hx
      exact ⟨sl, (hs.2 b (Nat.ne_of_lt (Nat.lt_of_lt_of_le (Heap.lt_size e) (I.ok.cab x c hfn hc)))).trans e1⟩
    · obtain ⟨o', e1⟩ := I.base.there b o e hx
      exact ⟨o', (hs.2 b (Nat.ne_of_lt (Nat.lt_of_lt_of_le (Heap.lt_size e) (I.ok.cab x c hfn hc)))).trans e1⟩
    · by_cases hj : j = i
      · subst hj
        rw [hi] at e1; cases e1
        rw [List.getElem?_set_self hiσ] at e2
        cases e2
        exact ⟨u, r, .inr ⟨.inl hk, c, hc, hc'⟩⟩
      · rw [List.getElem?_set_ne (Ne.symm hj)] at e2
        obtain ⟨u', r', q⟩ := hl j y v' e1 e2 e3
        refine ⟨u', r', ?_⟩
        rcases q with q | ⟨k, c', e, z'⟩
        · exact .inl q
        · refine .inr ⟨k, c', e, z'.sameBut hs ?_⟩
          rintro rfl
          exact hj (nodup_ix hN e1 (I.ok.inj _ _ _ e hc ▸ hi))
    · by_cases hcc : c' = c
      · subst hcc; exact ⟨_, hc'⟩
      · obtain ⟨w2, z2⟩ := I.cell y c' e
        exact ⟨w2, z2.sameBut hs hcc⟩
    · obtain ⟨e, n, ne, nf, d⟩ := I.pin p hp
      refine ⟨(hs.2 p.1 ?_).trans e, n, ne, nf, d⟩
      intro q
      rw [q, hoc] at e
      have q' : oc = p.2 := Option.some.inj e
      exact d w' (by rw [← q']; exact hocd)
theorem store_ok {M : Model} {A : Around} {E : Value → Shared → Prop} {i : Nat} {x : Str} {v : V} {u : Value} {Q : Unit → Shared → Prop} (I : Inv X pins σ H s) (hN : X.N.Nodup) (hi : X.N[i]? = some x) (hx : Loc X.env.scope x) (r : RelV v u)
    (h : ∀ s', Inv X pins (σ.set i (some v)) H s' → Q () s') (hf : X.fn x = true ∨ X.env.scope.names.lookup x = some .local := by first | exact .inl rfl | exact .inr rfl | assumption) : wpAny M A (storeName X.env x u) Q E s :=
  store_ok2 I hN hi hx r (fun s' I' _ => h s' I') hf
/-- behind a call or a block, the state as it is -/
theorem Inv.call' {s' : Shared} {ch : List Addr} (I : Inv X pins σ H s) (ho : s'.os = s.os) (u : Un (frs X.stack) ch H H' s.heap s'.heap) (hok : HOk X.prog X.w H' s'.heap) (hg : AllBare s'.gens)
    (hch : ∀ b ∈ ch, (b ∈ X.ex ∨ X.s₀.heap.objs.size ≤ b) ∧ b ≠ X.env.locals ∧ (∀ x c, X.env.cells.lookup x = some c → c ≠ b) ∧ ∀ p ∈ X.pn ++ pins, p.1 ≠ b) : Inv X pins σ H' s' := by
  obtain ⟨h', g', d', t', o'⟩ := s'
  have e : o' = s.os := ho
  subst e
  exact I.call (g' := g') (t' := t') (d' := d') u hok hg hch
end

/-! ### the judgements -/
/-- an exception: its class, its own dict's address (where it has one), the abstract heap behind it -/
abbrev XK := Value → Option Addr → Hp → Prop
abbrev St := List (Option V)
abbrev VK := V → Hp → Prop
/-- an expression's reading; a test's; an argument list's -/
abbrev TE := St → Hp → VK → Prop
abbrev TT := St → Hp → (Bool → Hp → Prop) → Prop
abbrev TA := St → Hp → (List V → Hp → Prop) → Prop
/-- what is wanted behind a statement -/
structure Ends where
  nx : St → Hp → Prop
  rt : VK
  bk : St → Hp → Prop := fun _ _ => False
  ct : St → Hp → Prop := fun _ _ => False
abbrev TS := Ends → St → Hp → Prop

def EP (X : Cx) (pins : List (Addr × Obj)) (σ : St) (Q : VK) (u : Value) (s' : Shared) : Prop := ∃ v H', Inv X pins σ H' s' ∧ RelV v u ∧ Q v H'
def TP (X : Cx) (pins : List (Addr × Obj)) (σ : St) (Q : Bool → Hp → Prop) (b : Bool) (s' : Shared) : Prop := ∃ H', Inv X pins σ H' s' ∧ Q b H'
def AP (X : Cx) (pins : List (Addr × Obj)) (σ : St) (Q : List V → Hp → Prop) (us : List Value) (s' : Shared) : Prop := ∃ vs H', Inv X pins σ H' s' ∧ Vals vs us ∧ Q vs H'
def SP (X : Cx) (pins : List (Addr × Obj)) (D : Ends) (f : Flow) (s' : Shared) : Prop :=
  match f with
  | .next => ∃ σ' H', Inv X pins σ' H' s' ∧ D.nx σ' H'
  | .brk => ∃ σ' H', Inv X pins σ' H' s' ∧ D.bk σ' H'
  | .cont => ∃ σ' H', Inv X pins σ' H' s' ∧ D.ct σ' H'
  | .ret u => ∃ v σ' H', Inv X pins σ' H' s' ∧ RelV v u ∧ D.rt v H'

def PE (X : Cx) (e : Expr) (t : TE) : Prop :=
  ∀ (pins : List (Addr × Obj)) (s : Shared) (σ : St) (H : Hp) (Q : VK), Inv X pins σ H s → t σ H Q → wpAny (model X.prog X.w) X.A (eval e X.env) (EP X pins σ Q) X.xe s
def PT (X : Cx) (e : Expr) (t : TT) : Prop :=
  ∀ (pins : List (Addr × Obj)) (s : Shared) (σ : St) (H : Hp) (Q : Bool → Hp → Prop), Inv X pins σ H s → t σ H Q → wpAny (model X.prog X.w) X.A (isTrue e X.env (eval e X.env)) (TP X pins σ Q) X.xe s
/-- a test whatever its 'whole' is (and, or) -/
def PW (X : Cx) (e : Expr) (t : TT) : Prop :=
  ∀ (whole : Sem Value) (pins : List (Addr × Obj)) (s : Shared) (σ : St) (H : Hp) (Q : Bool → Hp → Prop), Inv X pins σ H s → t σ H Q → wpAny (model X.prog X.w) X.A (isTrue e X.env whole) (TP X pins σ Q) X.xe s
theorem PW.pt {X : Cx} {e : Expr} {t : TT} (h : PW X e t) : PT X e t := h _
/-- an argument list (no star), from the left -/
def PA (X : Cx) (es : List Expr) (t : TA) : Prop :=
  ∀ (pos : Pos) (pins : List (Addr × Obj)) (s : Shared) (σ : St) (H : Hp) (Q : List V → Hp → Prop), Inv X pins σ H s → t σ H Q → wpAny (model X.prog X.w) X.A (spliced (backTo pos (starEach es X.env))) (AP X pins σ Q) X.xe s
def PS (X : Cx) (st : Stmt) (t : TS) : Prop :=
  ∀ (pins : List (Addr × Obj)) (s : Shared) (σ : St) (H : Hp) (D : Ends), Inv X pins σ H s → t D σ H → wpAny (model X.prog X.w) X.A (exec st X.env) (SP X pins D) X.xe s
def PSs (X : Cx) (st : List Stmt) (t : TS) : Prop :=
  ∀ (pins : List (Addr × Obj)) (s : Shared) (σ : St) (H : Hp) (D : Ends), Inv X pins σ H s → t D σ H → wpAny (model X.prog X.w) X.A (execs st X.env) (SP X pins D) X.xe s
/-- weaken the end -/
theorem thn {α : Type} {t : Sem α} {Q Q' : α → Shared → Prop} {M : Model} {A : Around} {E : Value → Shared → Prop} {s : Shared} (h : wpAny M A t Q E s) (hQ : ∀ a s, Q a s → Q' a s) : wpAny M A t Q' E s := wpAny_mono h hQ fun _ _ x => x
end L2

namespace L2
open PySem PySem.Spec PyProof.Rows
section
variable {X : Cx}

/-- two expressions in a row -/
theorem bin {a b : Expr} {ta tb : TE} (ha : PE X a ta) (hb : PE X b tb) {pins : List (Addr × Obj)} {s : Shared} {σ : St} {H : Hp} {R : V → V → Hp → Prop} (I : Inv X pins σ H s) (h : ta σ H fun x H1 => tb σ H1 fun y H2 => R x y H2)
    {α : Type} {Q : α → Shared → Prop} {f : Value → Value → Sem α}
    (hf : ∀ v u s2 x y H2, Inv X pins σ H2 s2 → RelV x v → RelV y u → R x y H2 → wpAny (model X.prog X.w) X.A (f v u) Q X.xe s2) :
    wpAny (model X.prog X.w) X.A (eval a X.env) (fun v s₁ => wpAny (model X.prog X.w) X.A (eval b X.env) (fun u s₂ => wpAny (model X.prog X.w) X.A (f v u) Q X.xe s₂) X.xe s₁) X.xe s := by
  refine thn (ha pins s σ H _ I h) fun v s1 ⟨x, H1, I1, r1, q1⟩ => ?_
  refine thn (hb pins s1 σ H1 _ I1 q1) fun u s2 ⟨y, H2, I2, r2, q2⟩ => ?_
  exact hf v u s2 x y H2 I2 r1 r2 q2

/-! ### names and constants -/
def tVar (i : Nat) : TE := fun σ H Q => ∃ v, σ[i]? = some (some v) ∧ Q v H
def tC (v : V) : TE := fun _ H Q => Q v H
theorem pe_var {i : Nat} {x : Str} {pos : Pos} (hN : X.N[i]? = some x) (hv : Vis X.env.scope x) (hd : (x == ("__debug__" : Str)) = false := by decide) (hcd : (x == ("__classdict__" : Str)) = false := by decide) : PE X (.Name x pos) (tVar i) := by
  intro pins s σ H Q I h
  obtain ⟨v, e, h⟩ := h
  obtain ⟨m, hn, hl⟩ := I.loc
  obtain ⟨u, r, l⟩ := hl i x v hN e hv
  have fin : EP X pins σ Q u s := ⟨v, H, I, r, h⟩
  rcases l with ⟨hk, hm⟩ | ⟨hk, c, hc, hcell⟩
  · exact wpAny_Name (wpAny_loadName_local I.ok.kind hk hn hm fin) hd
  · rcases hk with hk | hk
    · exact wpAny_Name (wpAny_loadName_cell I.ok.kind hk hc hcell fin) hd
    · exact wpAny_Name (wpAny_loadName_free I.ok.kind hk hc hcell fin hcd) hd
theorem pe_int {i j pos} : PE X (.Constant (.int i) j pos) (tC (.int i)) := fun _ _ _ H _ I h => wpAny_Constant_int ⟨.int i, H, I.tok _, ⟨_, rfl⟩, h⟩
theorem pe_bl {b j pos} : PE X (.Constant (.bool b) j pos) (tC (.bl b)) := fun _ _ _ H _ I h => Constant_bool ⟨.bl b, H, I, rfl, h⟩
theorem pe_non {j pos} : PE X (.Constant .none j pos) (tC .non) := fun _ _ _ H _ I h => Constant_none ⟨.non, H, I, rfl, h⟩
theorem pe_str {x j pos} : PE X (.Constant (.str x) j pos) (tC (.str x)) := fun _ _ _ H _ I h => Calls.Constant_str ⟨.str x, H, I.tok _, ⟨_, rfl⟩, h⟩

/-- a global name of the def -/
def Gl (X : Cx) (x : Str) : Prop := X.env.kindOf x = some .globalImplicit
theorem ld_glob {E : Value → Shared → Prop} {pins : List (Addr × Obj)} {s : Shared} {σ : St} {H : Hp} {x : Str} {u : Value} {pos : Pos} {Q : Value → Shared → Prop} (I : Inv X pins σ H s) (hg : Gl X x) (hm : X.mg x = some u) (h : Q u s)
    (hd : (x == ("__debug__" : Str)) = false := by decide) : wpAny (model X.prog X.w) X.A (eval (.Name x pos) X.env) Q E s :=
  Calls.Name_function_global I.ok.kind hg (Calls.loadGlobal_global (by rw [I.ok.glob]; exact I.mod.glob.keeps I.bk) hm h) hd
theorem ld_blt {E : Value → Shared → Prop} {pins : List (Addr × Obj)} {s : Shared} {σ : St} {H : Hp} {x : Str} {u : Value} {pos : Pos} {Q : Value → Shared → Prop} (I : Inv X pins σ H s) (hg : Gl X x) (hm : X.mg x = none) (hv : bootBuiltins x = some u) (h : Q u s)
    (hn : x ≠ "__name__" := by decide) (hd : (x == ("__debug__" : Str)) = false := by decide) : wpAny (model X.prog X.w) X.A (eval (.Name x pos) X.env) Q E s := by
  obtain ⟨mb, h1, h2⟩ := I.mod.blt
  exact Calls.Name_function_global I.ok.kind hg (Calls.loadGlobal_builtin (by rw [I.ok.glob]; exact I.mod.glob.keeps I.bk) hm (by rw [I.ok.blt]; exact h1.keeps I.bk) ((h2 x hn).trans hv) h) hd
/-- a module's constant, a class, a function, as a value -/
theorem pe_glob {x : Str} {v : V} {u : Value} {pos : Pos} (hg : Gl X x) (hm : X.mg x = some u) (r : RelV v u) (hd : (x == ("__debug__" : Str)) = false := by decide) : PE X (.Name x pos) (tC v) :=
  fun _ _ _ H _ I h => ld_glob I hg hm ⟨v, H, I, r, h⟩ hd
theorem pe_bltn {x : Str} {v : V} {u : Value} {pos : Pos} (hg : Gl X x) (hm : X.mg x = none) (hv : bootBuiltins x = some u) (r : RelV v u) (hn : x ≠ "__name__" := by decide) (hd : (x == ("__debug__" : Str)) = false := by decide) : PE X (.Name x pos) (tC v) :=
  fun _ _ _ H _ I h => ld_blt I hg hm hv ⟨v, H, I, r, h⟩ hn hd

/-! ### arithmetic -/
/-- two ints -/
def t2I (ta tb : TE) (k : Int → Int → Hp → Prop) : St → Hp → Prop := fun σ H => ta σ H fun x H1 => tb σ H1 fun y H2 => ∃ i j, x = .int i ∧ y = .int j ∧ k i j H2
def tAdd (ta tb : TE) : TE := fun σ H Q => t2I ta tb (fun i j H2 => Q (.int (i + j)) H2) σ H
def tSub (ta tb : TE) : TE := fun σ H Q => t2I ta tb (fun i j H2 => Q (.int (i - j)) H2) σ H
/-- the left factor below 2^64 -/
def tMul (ta tb : TE) : TE := fun σ H Q => t2I ta tb (fun i j H2 => (-(2 ^ 64) < i ∧ i < 2 ^ 64) ∧ Q (.int (i * j)) H2) σ H
variable {a b : Expr} {ta tb : TE} {pos : Pos}
theorem pe_add (ha : PE X a ta) (hb : PE X b tb) : PE X (.BinOp a .Add b pos) (tAdd ta tb) := by
  intro pins s σ H Q I h
  refine wpAny_BinOp (bin ha hb I h fun v u s2 x y H2 I2 rx ry q => ?_)
  obtain ⟨i, j, rfl, rfl, q⟩ := q
  obtain ⟨t, rfl⟩ := rx
  obtain ⟨t', rfl⟩ := ry
  exact add_int ⟨.int _, H2, I2.tok _, ⟨_, rfl⟩, q⟩
theorem pe_sub (ha : PE X a ta) (hb : PE X b tb) : PE X (.BinOp a .Sub b pos) (tSub ta tb) := by
  intro pins s σ H Q I h
  refine wpAny_BinOp (bin ha hb I h fun v u s2 x y H2 I2 rx ry q => ?_)
  obtain ⟨i, j, rfl, rfl, q⟩ := q
  obtain ⟨t, rfl⟩ := rx
  obtain ⟨t', rfl⟩ := ry
  exact sub_int ⟨.int _, H2, I2.tok _, ⟨_, rfl⟩, q⟩
theorem pe_mul (ha : PE X a ta) (hb : PE X b tb) : PE X (.BinOp a .Mult b pos) (tMul ta tb) := by
  intro pins s σ H Q I h
  refine wpAny_BinOp (bin ha hb I h fun v u s2 x y H2 I2 rx ry q => ?_)
  obtain ⟨i, j, rfl, rfl, ⟨q1, q2⟩, q⟩ := q
  obtain ⟨t, rfl⟩ := rx
  obtain ⟨t', rfl⟩ := ry
  exact mul_int ⟨.int _, H2, I2.tok _, ⟨_, rfl⟩, q⟩ (.of_left (intBits_le_64 q1 q2))

/-! ### comparisons -/
def PC (X : Cx) (op : CmpOp) (a b : Expr) (t : TE) : Prop :=
  ∀ (pins : List (Addr × Obj)) (s : Shared) (σ : St) (H : Hp) (Q : VK), Inv X pins σ H s → t σ H Q →
    wpAny (model X.prog X.w) X.A (eval a X.env) (fun v s₁ => wpAny (model X.prog X.w) X.A (eval b X.env) (fun u s₂ => wpAny (model X.prog X.w) X.A (compareOp op v u) (EP X pins σ Q) X.xe s₂) X.xe s₁) X.xe s
theorem nobehind (b : Expr) {op : CmpOp} (h : op ≠ .In) (h2 : op ≠ .NotIn) : behindInMarks op b = false := by
  have e1 : (op == CmpOp.In) = false := by cases op <;> first | rfl | exact absurd rfl h
  have e2 : (op == CmpOp.NotIn) = false := by cases op <;> first | rfl | exact absurd rfl h2
  cases b <;> simp [behindInMarks, e1, e2]
def tCmp (p : Int → Int → Bool) (ta tb : TE) : TE := fun σ H Q => t2I ta tb (fun i j H2 => Q (.bl (p i j)) H2) σ H
abbrev tLt : TE → TE → TE := tCmp fun i j => decide (i < j)
abbrev tLe : TE → TE → TE := tCmp fun i j => decide (i ≤ j)
abbrev tGt : TE → TE → TE := tCmp fun i j => decide (j < i)
abbrev tGe : TE → TE → TE := tCmp fun i j => decide (j ≤ i)
abbrev tEqI : TE → TE → TE := tCmp fun i j => decide (i = j)
abbrev tNeI : TE → TE → TE := tCmp fun i j => !decide (i = j)
/-- a comparison of two ints, by its rule -/
theorem pc_int {op : CmpOp} {p : Int → Int → Bool} (ha : PE X a ta) (hb : PE X b tb)
    (rule : ∀ (i j : Int) (t u : Tok) (Q : Value → Shared → Prop) (s : Shared), Q (.bool (p i j)) s → wpAny (model X.prog X.w) X.A (compareOp op (.int i t) (.int j u)) Q X.xe s) : PC X op a b (tCmp p ta tb) := by
  intro pins s σ H Q I h
  refine bin ha hb I h fun v u s2 x y H2 I2 rx ry q => ?_
  obtain ⟨i, j, rfl, rfl, q⟩ := q
  obtain ⟨t, rfl⟩ := rx
  obtain ⟨t', rfl⟩ := ry
  exact rule i j t t' _ s2 ⟨.bl _, H2, I2, rfl, q⟩
theorem pc_lt (ha : PE X a ta) (hb : PE X b tb) : PC X .Lt a b (tLt ta tb) := pc_int ha hb fun _ _ _ _ _ _ h => lt_int h
theorem pc_le (ha : PE X a ta) (hb : PE X b tb) : PC X .LtE a b (tLe ta tb) := pc_int ha hb fun _ _ _ _ _ _ h => le_int h
theorem pc_gt (ha : PE X a ta) (hb : PE X b tb) : PC X .Gt a b (tGt ta tb) := pc_int ha hb fun _ _ _ _ _ _ h => gt_int h
theorem pc_ge (ha : PE X a ta) (hb : PE X b tb) : PC X .GtE a b (tGe ta tb) := pc_int ha hb fun _ _ _ _ _ _ h => ge_int h
theorem pc_eqI (ha : PE X a ta) (hb : PE X b tb) : PC X .Eq a b (tEqI ta tb) := pc_int ha hb fun _ _ _ _ _ _ h => eq_int (by rw [Bool.beq_eq_decide_eq]; exact h)
theorem pc_neI (ha : PE X a ta) (hb : PE X b tb) : PC X .NotEq a b (tNeI ta tb) := pc_int ha hb fun _ _ _ _ _ _ h => ne_int (by rw [bne, Bool.beq_eq_decide_eq]; exact h)
/-- is None -/
def tIsN (ta : TE) : TE := fun σ H Q => ta σ H fun x H1 => Q (.bl (decide (x = .non))) H1
def tNotN (ta : TE) : TE := fun σ H Q => ta σ H fun x H1 => Q (.bl (!decide (x = .non))) H1
theorem RelV.none_iff {x : V} {v : Value} (r : RelV x v) : (v == Value.none) = decide (x = .non) := by
  cases x with
  | non => cases r; rfl
  | bl _ => cases r; rfl
  | int _ => obtain ⟨t, rfl⟩ := r; rfl
  | str _ => obtain ⟨t, rfl⟩ := r; rfl
  | byt _ => obtain ⟨t, rfl⟩ := r; rfl
  | flt _ => obtain ⟨t, rfl⟩ := r; rfl
  | ref _ => cases r; rfl
  | ty _ => cases r; rfl
theorem pc_isN {j pos'} (ha : PE X a ta) : PC X .Is a (.Constant .none j pos') (tIsN ta) := by
  intro pins s σ H Q I h
  refine thn (ha pins s σ H _ I h) fun v s1 ⟨x, H1, I1, r1, q1⟩ => ?_
  exact Constant_none (is_none_gen ⟨.bl _, H1, I1, by rw [r1.none_iff]; rfl, q1⟩)
theorem pc_notN {j pos'} (ha : PE X a ta) : PC X .IsNot a (.Constant .none j pos') (tNotN ta) := by
  intro pins s σ H Q I h
  refine thn (ha pins s σ H _ I h) fun v s1 ⟨x, H1, I1, r1, q1⟩ => ?_
  exact Constant_none (isnot_none_gen ⟨.bl _, H1, I1, by rw [r1.none_iff]; rfl, q1⟩)
/-- a comparison as a value, as a test -/
def tB (t : TE) : TT := fun σ H Q => t σ H fun x H1 => ∃ c, x = .bl c ∧ Q c H1
theorem pe_cmp {op : CmpOp} {t : TE} (h : PC X op a b t) (h1 : behindInMarks op b = false := by first | exact nobehind _ (by decide) (by decide) | rfl) : PE X (.Compare a [op] [b] pos) t := fun pins s σ H Q I hw => wpAny_Compare1 (h pins s σ H Q I hw) h1
theorem pt_cmp {op : CmpOp} {t : TE} (h : PC X op a b t) (h1 : behindInMarks op b = false := by first | exact nobehind _ (by decide) (by decide) | rfl) : PT X (.Compare a [op] [b] pos) (tB t) := by
  intro pins s σ H Q I hw
  refine wpAny_isTrue_Compare1 (thn (h pins s σ H _ I hw) fun v s1 h1 => thn h1 fun u s2 h2 => thn h2 fun c s3 ⟨x, H1, I1, r1, q1⟩ => ?_) h1
  obtain ⟨d, rfl, q⟩ := q1
  cases r1
  exact wpAny_truthy_bool ⟨H1, I1, q⟩
/-- an expression whose value is a bool, as a test -/
theorem pt_val {e : Expr} {t : TE} (h : PE X e t) (he : ∀ whole, isTrue e X.env whole = (do let v ← whole; standAt e.pos; holding [v] (truthy v)) := by intro _; rfl) : PT X e (tB t) := by
  intro pins s σ H Q I hw
  refine isTrue_plain (thn (h pins s σ H _ I hw) fun v s1 ⟨x, H1, I1, r1, q1⟩ => ?_) (he _)
  obtain ⟨d, rfl, q⟩ := q1
  cases r1
  exact wpAny_truthy_bool ⟨H1, I1, q⟩

/-! ### and, or, not -/
variable {tA tB' : TT} {rest : List Expr}
def tAnd (t u : TT) : TT := fun σ H Q => t σ H fun c H1 => if c = true then u σ H1 Q else Q false H1
def tOr (t u : TT) : TT := fun σ H Q => t σ H fun c H1 => if c = true then Q true H1 else u σ H1 Q
def tNot (t : TT) : TT := fun σ H Q => t σ H fun c H1 => Q (!c) H1
theorem pw_and1 (ha : PT X a tA) : PW X (.BoolOp .And [a] pos) tA := by
  intro wh pins s σ H Q I h
  refine isTrue_and (thn (ha pins s σ H Q I h) fun c s1 e => ?_)
  cases c with
  | true => exact isTrue_and_nil e
  | false => exact e
theorem pw_or1 (ha : PT X a tA) : PW X (.BoolOp .Or [a] pos) tA := by
  intro wh pins s σ H Q I h
  refine isTrue_or (thn (ha pins s σ H Q I h) fun c s1 e => ?_)
  cases c with
  | false => exact isTrue_or_nil e
  | true => exact e
theorem pw_and (ha : PT X a tA) (hb : PW X (.BoolOp .And (b :: rest) pos) tB') : PW X (.BoolOp .And (a :: b :: rest) pos) (tAnd tA tB') := by
  intro wh pins s σ H Q I h
  refine isTrue_and (thn (ha pins s σ H _ I h) fun c s1 ⟨H1, I1, q1⟩ => ?_)
  cases c with
  | true => exact hb wh pins s1 σ H1 Q I1 q1
  | false => exact ⟨H1, I1, q1⟩
theorem pw_or (ha : PT X a tA) (hb : PW X (.BoolOp .Or (b :: rest) pos) tB') : PW X (.BoolOp .Or (a :: b :: rest) pos) (tOr tA tB') := by
  intro wh pins s σ H Q I h
  refine isTrue_or (thn (ha pins s σ H _ I h) fun c s1 ⟨H1, I1, q1⟩ => ?_)
  cases c with
  | true => exact ⟨H1, I1, q1⟩
  | false => exact hb wh pins s1 σ H1 Q I1 q1
theorem pt_not (ha : PT X a tA) : PT X (.UnaryOp .Not a pos) (tNot tA) := by
  intro pins s σ H Q I h
  exact isTrue_not (ha pins s σ H (fun c H1 => Q (!c) H1) I h)
/-- .. as values (bools) -/
def tAndV (ta tb : TE) : TE := fun σ H Q => ta σ H fun x H1 => ∃ c, x = .bl c ∧ if c = true then tb σ H1 Q else Q (.bl false) H1
def tOrV (ta tb : TE) : TE := fun σ H Q => ta σ H fun x H1 => ∃ c, x = .bl c ∧ if c = true then Q (.bl true) H1 else tb σ H1 Q
def tNotV (ta : TE) : TE := fun σ H Q => ta σ H fun x H1 => ∃ c, x = .bl c ∧ Q (.bl (!c)) H1
theorem pe_one {op} {t : TE} (h : PE X a t) : PE X (.BoolOp op [a] pos) t := fun pins s σ H Q I hw => BoolOp_one (h pins s σ H Q I hw)
theorem pe_and (ha : PE X a ta) (hb : PE X (.BoolOp .And (b :: rest) pos) tb) : PE X (.BoolOp .And (a :: b :: rest) pos) (tAndV ta tb) := by
  intro pins s σ H Q I h
  refine BoolOp_and (thn (ha pins s σ H _ I h) fun v s1 ⟨x, H1, I1, r1, q1⟩ => ?_)
  obtain ⟨c, rfl, q1⟩ := q1
  cases r1
  refine wpAny_truthy_bool ?_
  cases c with
  | true => exact hb pins s1 σ H1 Q I1 q1
  | false => exact ⟨.bl false, H1, I1, rfl, q1⟩
theorem pe_or (ha : PE X a ta) (hb : PE X (.BoolOp .Or (b :: rest) pos) tb) : PE X (.BoolOp .Or (a :: b :: rest) pos) (tOrV ta tb) := by
  intro pins s σ H Q I h
  refine BoolOp_or (thn (ha pins s σ H _ I h) fun v s1 ⟨x, H1, I1, r1, q1⟩ => ?_)
  obtain ⟨c, rfl, q1⟩ := q1
  cases r1
  refine wpAny_truthy_bool ?_
  cases c with
  | false => exact hb pins s1 σ H1 Q I1 q1
  | true => exact ⟨.bl true, H1, I1, rfl, q1⟩
theorem pe_not (ha : PE X a ta) : PE X (.UnaryOp .Not a pos) (tNotV ta) := by
  intro pins s σ H Q I h
  refine UnaryOp_ (thn (ha pins s σ H _ I h) fun v s1 ⟨x, H1, I1, r1, q1⟩ => ?_)
  obtain ⟨c, rfl, q1⟩ := q1
  cases r1
  exact not_of (wpAny_truthy_bool ⟨.bl (!c), H1, I1, rfl, q1⟩)
/-- a if t else b -/
def tIf (t : TT) (ta tb : TE) : TE := fun σ H Q => t σ H fun c H1 => if c = true then ta σ H1 Q else tb σ H1 Q
theorem pe_ifExp {c : Expr} (hc : PT X c tA) (ha : PE X a ta) (hb : PE X b tb) : PE X (.IfExp c a b pos) (tIf tA ta tb) := by
  intro pins s σ H Q I h
  refine wpAny_IfExp (thn (hc pins s σ H _ I h) fun d s1 ⟨H1, I1, q1⟩ => ?_)
  cases d with
  | true => exact ha pins s1 σ H1 Q I1 q1
  | false => exact hb pins s1 σ H1 Q I1 q1
end
end L2

namespace L2
open PySem PySem.Spec PyProof.Rows

/-! ### a list, a tuple that is read: tracked, frozen, or an object of the module -/
def SqL (K : PySem.W.Frag) (H : Hp) (a : Addr) (xs : List V) : Prop :=
  Rd H a (.lst xs) ∨
    ∃ (o : Obj) (its : Array Value) (n : Nat), K.lookup a = some o ∧ o.cls = .type "list" ∧ o.dict = none ∧ o.data = .seq its n ∧ its.size ≤ sizeLine ∧ Vals xs its.toList
def SqT (K : PySem.W.Frag) (H : Hp) (a : Addr) (xs : List V) : Prop :=
  Rd H a (.tup xs) ∨
    ∃ (o : Obj) (its : Array Value) (n : Nat), K.lookup a = some o ∧ o.cls = .type "tuple" ∧ o.data = .seq its n ∧ its.size ≤ sizeLine ∧ Vals xs its.toList
def absV : Value → Option V
  | .none => some .non
  | .bool b => some (.bl b)
  | .int i _ => some (.int i)
  | .str x _ => some (.str x)
  | .bytes b _ => some (.byt b)
  | .float b _ => some (.flt b)
  | .ref a => some (.ref a)
  | .type n => some (.ty n)
  | _ => none
theorem RelV.abs {x : V} {u : Value} (r : RelV x u) : absV u = some x := by
  cases x with
  | non => cases r; rfl
  | bl _ => cases r; rfl
  | int _ => obtain ⟨t, rfl⟩ := r; rfl
  | str _ => obtain ⟨t, rfl⟩ := r; rfl
  | byt _ => obtain ⟨t, rfl⟩ := r; rfl
  | flt _ => obtain ⟨t, rfl⟩ := r; rfl
  | ref _ => cases r; rfl
  | ty _ => cases r; rfl
theorem RelV.inj {x y : V} {u : Value} (r : RelV x u) (q : RelV y u) : x = y := Option.some.inj (r.abs.symm.trans q.abs)
theorem Vals.inj : ∀ {xs ys : List V} {us : List Value}, Vals xs us → Vals ys us → xs = ys
  | _, _, _, .nil, .nil => rfl
  | _, _, _, .cons r t, .cons r' t' => by rw [r.inj r', Vals.inj t t']
section
variable {X : Cx} {pins : List (Addr × Obj)} {σ : St} {H : Hp} {s : Shared} {a : Addr} {xs ys : List V}
theorem SqL.of {K : PySem.W.Frag} (h : H a = some (.lst xs)) : SqL K H a xs := .inl (.inl h)
theorem SqT.of {K : PySem.W.Frag} (h : H a = some (.tup xs)) : SqT K H a xs := .inl (.inl h)
theorem Inv.list (I : Inv X pins σ H s) (h : SqL X.K H a xs) : ∃ its : List Value, Vals xs its ∧ PlainL s.heap a its.toArray ∧ xs.length ≤ sizeLine := by
  rcases h with h | ⟨o, its, n, hk, hc, hd, hs, hz, r⟩
  · obtain ⟨z, its, n, r, e⟩ := h.ok I.hok
    exact ⟨its, r, ⟨_, n, e, rfl, rfl, rfl⟩, z⟩
  · refine ⟨its.toList, r, ⟨o, n, I.kIn a o hk, hc, hd, by simpa using hs⟩, ?_⟩
    have e := r.length
    simp only [Array.length_toList] at e
    omega
theorem Inv.tuple (I : Inv X pins σ H s) (h : SqT X.K H a xs) : ∃ its : List Value, Vals xs its ∧ IsTup s.heap a its.toArray ∧ xs.length ≤ sizeLine := by
  rcases h with h | ⟨o, its, n, hk, hc, hs, hz, r⟩
  · obtain ⟨z, its, r, p⟩ := h.ok I.hok
    exact ⟨its, r, p, z⟩
  · refine ⟨its.toList, r, ⟨o, I.kIn a o hk, hc, n, by simpa using hs⟩, ?_⟩
    have e := r.length
    simp only [Array.length_toList] at e
    omega
theorem Inv.list_inj (I : Inv X pins σ H s) (h : SqL X.K H a xs) (h' : SqL X.K H a ys) : xs = ys := by
  obtain ⟨its, r, ⟨o, n, e, _, _, d⟩, _⟩ := I.list h
  obtain ⟨its', r', ⟨o', n', e', _, _, d'⟩, _⟩ := I.list h'
  rw [e] at e'; cases e'
  rw [d] at d'
  injection d' with d1 _
  have : its = its' := by simpa using congrArg Array.toList d1
  subst this
  exact r.inj r'
theorem Inv.tuple_inj (I : Inv X pins σ H s) (h : SqT X.K H a xs) (h' : SqT X.K H a ys) : xs = ys := by
  obtain ⟨its, r, ⟨o, e, _, n, d⟩, _⟩ := I.tuple h
  obtain ⟨its', r', ⟨o', e', _, n', d'⟩, _⟩ := I.tuple h'
  rw [e] at e'; cases e'
  rw [d] at d'
  injection d' with d1 _
  have : its = its' := by simpa using congrArg Array.toList d1
  subst this
  exact r.inj r'
end

/-! ### another wish about exceptions -/
abbrev Cx.wish (X : Cx) (E : Value → Shared → Prop) : Cx := { X with xe := E }
/-- no exception leaves -/
abbrev Cx.nox (X : Cx) : Cx := X.wish fun _ _ => False
theorem Cx.Ok.wish {X : Cx} (ok : X.Ok) (E : Value → Shared → Prop) : (X.wish E).Ok :=
  ⟨ok.mod, ok.kind, ok.glob, ok.blt, ok.above, ok.inj, ok.has, ok.cab, ok.hd, ok.frames, ok.stk, ok.exf, ok.bs, ok.bsz, ok.noex, ok.exfs, ok.funs, ok.frf⟩
theorem Cx.Ok.unwish {X : Cx} {E : Value → Shared → Prop} (ok : (X.wish E).Ok) : X.Ok :=
  ⟨ok.mod, ok.kind, ok.glob, ok.blt, ok.above, ok.inj, ok.has, ok.cab, ok.hd, ok.frames, ok.stk, ok.exf, ok.bs, ok.bsz, ok.noex, ok.exfs, ok.funs, ok.frf⟩
section
variable {X : Cx} {pins : List (Addr × Obj)} {σ : St} {H : Hp} {s : Shared} {E : Value → Shared → Prop}
theorem Inv.wish (I : Inv X pins σ H s) (E : Value → Shared → Prop) : Inv (X.wish E) pins σ H s := ⟨I.ok.wish E, I.os, I.bare, I.base, I.loc, I.cell, I.free, I.freeC, I.pin, I.hok, I.len⟩
theorem Inv.unwish (I : Inv (X.wish E) pins σ H s) : Inv X pins σ H s := ⟨I.ok.unwish, I.os, I.bare, I.base, I.loc, I.cell, I.free, I.freeC, I.pin, I.hok, I.len⟩
theorem SP.unwish {D : Ends} {f : Flow} {s' : Shared} (h : SP (X.wish E) pins D f s') : SP X pins D f s' := by
  cases f with
  | next => obtain ⟨σ', H', I, q⟩ := h; exact ⟨σ', H', I.unwish, q⟩
  | brk => obtain ⟨σ', H', I, q⟩ := h; exact ⟨σ', H', I.unwish, q⟩
  | cont => obtain ⟨σ', H', I, q⟩ := h; exact ⟨σ', H', I.unwish, q⟩
  | ret u => obtain ⟨v, σ', H', I, r, q⟩ := h; exact ⟨v, σ', H', I.unwish, r, q⟩
theorem PE.nox {e : Expr} {t : TE} (h : PE X.nox e t) : PE X e t := fun pins s σ H Q I hw =>
  wpAny_mono (h pins s σ H Q (I.wish _) hw) (fun _ _ ⟨v, H', I', r, q⟩ => ⟨v, H', I'.unwish, r, q⟩) fun _ _ z => False.elim z
theorem PT.nox {e : Expr} {t : TT} (h : PT X.nox e t) : PT X e t := fun pins s σ H Q I hw =>
  wpAny_mono (h pins s σ H Q (I.wish _) hw) (fun _ _ ⟨H', I', q⟩ => ⟨H', I'.unwish, q⟩) fun _ _ z => False.elim z
theorem PSs.nox {st : List Stmt} {t : TS} (h : PSs X.nox st t) : PSs X st t := fun pins s σ H D I hw =>
  wpAny_mono (h pins s σ H D (I.wish _) hw) (fun _ _ q => q.unwish) fun _ _ z => False.elim z
end

/-! ### blocks and small statements -/
section
variable {X : Cx} {st : Stmt} {rest : List Stmt} {t u : TS} {e : Expr} {te : TE} {pos : Pos}
def tNext : TS := fun D σ H => D.nx σ H
def tSeq (t u : TS) : TS := fun D σ H => t { D with nx := u D } σ H
theorem pss_nil : PSs X [] tNext := fun _ _ σ H _ I h => wpAny_execs_nil ⟨σ, H, I, h⟩
theorem pss_cons (h1 : PS X st t) (h2 : PSs X rest u) : PSs X (st :: rest) (tSeq t u) := by
  intro pins s σ H D I h
  refine wpAny_execs_cons (thn (h1 pins s σ H { D with nx := u D } I h) fun f s1 q => ?_)
  cases f with
  | next =>
    obtain ⟨σ', H', I', q⟩ := q
    exact h2 pins s1 σ' H' D I' q
  | ret v => exact q
  | brk => exact q
  | cont => exact q
theorem pss_one (h1 : PS X st t) : PSs X [st] t := by
  intro pins s σ H D I h
  refine wpAny_execs_cons (thn (h1 pins s σ H D I h) fun f s1 q => ?_)
  cases f with
  | next => exact wpAny_execs_nil q
  | ret v => exact q
  | brk => exact q
  | cont => exact q
def tBreak : TS := fun D σ H => D.bk σ H
def tCont : TS := fun D σ H => D.ct σ H
theorem ps_pass : PS X (.Pass pos) tNext := fun _ _ σ H _ I h => wpAny_Pass ⟨σ, H, I, h⟩
theorem ps_break : PS X (.Break pos) tBreak := fun _ _ σ H _ I h => wpAny_Break ⟨σ, H, I, h⟩
theorem ps_continue : PS X (.Continue pos) tCont := fun _ _ σ H _ I h => wpAny_Continue ⟨σ, H, I, h⟩
/-- in a def's body nothing is shown -/
theorem Inv.quiet {pins : List (Addr × Obj)} {σ : St} {H : Hp} {s : Shared} (I : Inv X pins σ H s) : interactive X.env = false := by simp [interactive, I.ok.kind]
/-- a docstring -/
theorem ps_doc {x j pos pos'} : PS X (.Expr (.Constant (.str x) j pos) pos') tNext := fun _ s σ H _ I h => wpAny_Expr (Calls.Constant_str (show SP X _ _ .next { s with toks := s.toks + 1 } from ⟨σ, H, I.tok _, h⟩)) I.quiet
/-- an expression whose value is dropped -/
def tDrop (te : TE) : TS := fun D σ H => te σ H fun _ H1 => D.nx σ H1
theorem ps_expr (he : PE X e te) (hs : swapsWith e none pos.line X.env = pure false := by rfl) : PS X (.Expr e pos) (tDrop te) := by
  intro pins s σ H D I h
  exact wpAny_Expr_any (thn (he pins s σ H _ I h) fun v s1 ⟨x, H1, I1, r1, q1⟩ => ⟨σ, H1, I1, q1⟩) I.quiet hs
def tRet (te : TE) : TS := fun D σ H => te σ H D.rt
theorem ps_ret (he : PE X e te) : PS X (.Return (some e) pos) (tRet te) := by
  intro pins s σ H D I h
  exact wpAny_Return_some (thn (he pins s σ H _ I h) fun v s1 ⟨x, H1, I1, r1, q1⟩ => ⟨x, σ, H1, I1, r1, q1⟩)
def tRetN : TS := fun D _ H => D.rt .non H
theorem ps_retN : PS X (.Return none pos) tRetN := fun _ _ σ H _ I h => wpAny_Return_none ⟨.non, σ, H, I, rfl, h⟩
def tIfS (c : TT) (t u : TS) : TS := fun D σ H => c σ H fun b H1 => if b = true then t D σ H1 else u D σ H1
theorem ps_if {c : Expr} {a b : List Stmt} {tc : TT} (hc : PT X c tc) (ha : PSs X a t) (hb : PSs X b u) : PS X (.If c a b pos) (tIfS tc t u) := by
  intro pins s σ H D I h
  refine wpAny_If (thn (hc pins s σ H _ I h) fun d s1 ⟨H1, I1, q1⟩ => ?_)
  cases d with
  | true => exact ha pins s1 σ H1 D I1 q1
  | false => exact hb pins s1 σ H1 D I1 q1
/-- code that the proof never comes to -/
def tNever : TS := fun _ _ _ => False
theorem ps_never : PS X st tNever := fun _ _ _ _ _ _ h => h.elim
theorem pss_never {sts : List Stmt} : PSs X sts tNever := fun _ _ _ _ _ _ h => h.elim
end

/-! ### targets -/
abbrev TG := V → St → Hp → (St → Hp → Prop) → Prop
abbrev TGs := List V → St → Hp → (St → Hp → Prop) → Prop
def PG (X : Cx) (target : Expr) (t : TG) : Prop :=
  ∀ (pins : List (Addr × Obj)) (s : Shared) (σ : St) (H : Hp) (v : V) (u : Value) (Q : St → Hp → Prop), Inv X pins σ H s → RelV v u → t v σ H Q →
    wpAny (model X.prog X.w) X.A (assign target X.env u) (fun _ s' => ∃ σ' H', Inv X pins σ' H' s' ∧ Q σ' H') X.xe s
/-- several targets, one after another -/
def PGs (X : Cx) (ts : List Expr) (t : TGs) : Prop :=
  ∀ (pins : List (Addr × Obj)) (s : Shared) (σ : St) (H : Hp) (vs : List V) (us : List Value) (Q : St → Hp → Prop), Inv X pins σ H s → Vals vs us → t vs σ H Q →
    wpAny (model X.prog X.w) X.A (assignInOrder ((assignEach ts X.env).map (·.2)) us) (fun _ s' => ∃ σ' H', Inv X pins σ' H' s' ∧ Q σ' H') X.xe s
/-- o[i] = v, by values -/
abbrev TSet := V → V → V → Hp → (Hp → Prop) → Prop
def PSet (X : Cx) (t : TSet) : Prop :=
  ∀ (pins : List (Addr × Obj)) (s : Shared) (σ : St) (H : Hp) (o i v : V) (ov iv u : Value) (Q : Hp → Prop), Inv X pins σ H s → RelV o ov → RelV i iv → RelV v u → t o i v H Q →
    wpAny (model X.prog X.w) X.A (setItem ov iv u) (fun _ s' => ∃ H', Inv X pins σ H' s' ∧ Q H') X.xe s
/-- a op= b, by values -/
abbrev TIp := V → V → Hp → VK → Prop
def PIp (X : Cx) (op : Operator) (t : TIp) : Prop :=
  ∀ (pins : List (Addr × Obj)) (s : Shared) (σ : St) (H : Hp) (x y : V) (v u : Value) (Q : VK), Inv X pins σ H s → RelV x v → RelV y u → t x y H Q →
    wpAny (model X.prog X.w) X.A (inplaceOp op v u) (EP X pins σ Q) X.xe s
section
variable {X : Cx} {pos : Pos}
def gName (i : Nat) : TG := fun v σ H Q => Q (σ.set i (some v)) H
theorem pg_name {i : Nat} {x : Str} (hN : X.N.Nodup) (hi : X.N[i]? = some x) (hx : Loc X.env.scope x) (hf : X.fn x = true ∨ X.env.scope.names.lookup x = some .local := by first | exact .inl rfl | exact .inr rfl | assumption) : PG X (.Name x pos) (gName i) := by
  intro pins s σ H v u Q I r h
  exact wpAny_assign_Name (store_ok I hN hi hx r (fun s' I' => ⟨_, H, I', h⟩) hf)
def gNil : TGs := fun vs σ H Q => vs = [] ∧ Q σ H
def gCons (t : TG) (u : TGs) : TGs := fun vs σ H Q => ∃ v r, vs = v :: r ∧ t v σ H fun σ' H' => u r σ' H' Q
theorem pgs_nil : PGs X [] gNil := by
  intro pins s σ H vs us Q I r h
  obtain ⟨e, h⟩ := h
  subst e
  cases r
  exact assignInOrder_nil ⟨σ, H, I, h⟩
theorem pgs_cons {e : Expr} {es : List Expr} {t : TG} {u : TGs} (h1 : PG X e t) (h2 : PGs X es u)
    (hs : (assignEach (e :: es) X.env).map (·.2) = assign e X.env :: (assignEach es X.env).map (·.2) := by rfl) : PGs X (e :: es) (gCons t u) := by
  intro pins s σ H vs us Q I r h
  obtain ⟨v, vr, e1, h⟩ := h
  subst e1
  cases r with
  | cons r rr =>
    rw [hs]
    refine assignInOrder_cons (thn (h1 pins s σ H _ _ _ I r h) fun _ s1 ⟨σ1, H1, I1, q1⟩ => ?_)
    exact h2 pins s1 σ1 H1 _ _ Q I1 rr q1
/-- (a, b, ..) = a tuple of that length -/
def gTup (K : PySem.W.Frag) (n : Nat) (t : TGs) : TG := fun v σ H Q => ∃ a xs, v = .ref a ∧ SqT K H a xs ∧ xs.length = n ∧ t xs σ H Q
theorem pg_tup {es : List Expr} {k : Nat} {t : TGs} {n : Nat} (hc : X.calm = true) (h : PGs X es t)
    (hn : (assignEach es X.env).length = n := by rfl) (hst : (assignEach es X.env).findIdx? (·.1) = none := by rfl) : PG X (.Tuple es k pos) (gTup X.K n t) := by
  intro pins s σ H v u Q I r hw
  obtain ⟨a, xs, e1, hq, hl, hw⟩ := hw
  subst e1
  cases r
  obtain ⟨its, rv, ht, hz⟩ := I.tuple hq
  refine assign_Tuple_tuple (I.ok.hd hc) ht (by simp [hn, ← hl, rv.length]) hst fun h' hx => ?_
  have I1 : Inv X pins σ H { s with heap := h' } := I.kept (t' := s.toks) fun b o e => hx b o (Nat.ne_of_lt (Heap.lt_size e)) e
  exact h pins _ σ H xs _ Q I1 (by simpa using rv) hw
/-- o[i] = .. -/
def gSub (to ti : TE) (t : TSet) : TG := fun v σ H Q => to σ H fun o H1 => ti σ H1 fun i H2 => t o i v H2 fun H3 => Q σ H3
theorem pg_sub {o i : Expr} {to ti : TE} {t : TSet} (ho : PE X o to) (hi : PE X i ti) (hs : PSet X t)
    (ha : ∀ v, assign (.Subscript o i pos) X.env v = (do
      let ov ← holding [v] (eval o X.env)
      let iv ← holding [v, ov] (eval i X.env)
      standAt pos
      holding [v, ov, iv] (setItem ov iv v)
      release [v, ov, iv] []) := by intro _; rfl) : PG X (.Subscript o i pos) (gSub to ti t) := by
  intro pins s σ H v u Q I r h
  rw [ha]
  refine wpAny_bind (wpAny_holding (thn (ho pins s σ H _ I h) fun ov s1 ⟨x, H1, I1, r1, q1⟩ => ?_))
  refine wpAny_bind (wpAny_holding (thn (hi pins s1 σ H1 _ I1 q1) fun iv s2 ⟨y, H2, I2, r2, q2⟩ => ?_))
  refine wpAny_bind (wpAny_standAt (wpAny_bind (wpAny_holding (thn (hs pins s2 σ H2 x y v ov iv u _ I2 r1 r2 r q2) fun _ s3 ⟨H3, I3, q3⟩ => ?_))))
  exact wpAny_release ⟨σ, H3, I3, q3⟩
/-- target = value -/
def tAsg (te : TE) (g : TG) : TS := fun D σ H => te σ H fun x H1 => g x σ H1 D.nx
theorem ps_asg {tg e : Expr} {te : TE} {g : TG} (he : PE X e te) (hg : PG X tg g) (hs : swapsWithSole [tg] e pos.line X.env = pure false := by rfl) (hw : swappedStores [tg] e X.env = pure none := by rfl)
    (h1 : (assignEach [tg] X.env).map (·.2) = [assign tg X.env] := by rfl) : PS X (.Assign [tg] e pos) (tAsg te g) := by
  intro pins s σ H D I h
  refine wpAny_Assign_stores (thn (he pins s σ H _ I h) fun v s1 ⟨x, H1, I1, r1, q1⟩ => ?_) hs hw
  rw [h1]
  exact thn (hg pins s1 σ H1 x v _ I1 r1 q1) fun _ s2 q => q
/-- name = value -/
theorem ps_set {i : Nat} {x : Str} {e : Expr} {te : TE} {pos' : Pos} (hN : X.N.Nodup) (hi : X.N[i]? = some x) (hx : Loc X.env.scope x) (he : PE X e te) (hs : swapsWith e (some (.Name x pos')) pos.line X.env = pure false := by rfl) (hf : X.fn x = true ∨ X.env.scope.names.lookup x = some .local := by first | exact .inl rfl | exact .inr rfl | assumption) :
    PS X (.Assign [.Name x pos'] e pos) (tAsg te (gName i)) := by
  intro pins s σ H D I h
  refine wpAny_Assign_Name (thn (he pins s σ H _ I h) fun v s1 ⟨y, H1, I1, r1, q1⟩ => ?_) hs
  exact store_ok I1 hN hi hx r1 (fun s2 I2 => ⟨_, H1, I2, q1⟩) hf
/-- a, b = x, y with plain local names: stored from the right; the pair itself is not tracked (the opening rows as in PyProof/Rows/TupAssign.lean:23) -/
def tPar (i j : Nat) (ta : TA) : TS := fun D σ H => ta σ H fun vs H1 => ∃ v w, vs = [v, w] ∧ D.nx ((σ.set i (some v)).set j (some w)) H1
theorem ps_par {i j : Nat} {x y : Str} {a b : Expr} {ta : TA} {px py pt : Pos} {kt k2 pt2} (hc : X.calm = true) (hN : X.N.Nodup) (hi : X.N[i]? = some x) (hj : X.N[j]? = some y) (hij : i ≠ j)
    (hx : X.env.scope.names.lookup x = some .local) (hy : X.env.scope.names.lookup y = some .local) (ha : PA X [a, b] ta)
    (hw : swappedStores [.Tuple [.Name x px, .Name y py] kt pt] (.Tuple [a, b] k2 pt2) X.env = pure (some [x, y]))
    (hs : swapsWithSole [.Tuple [.Name x px, .Name y py] kt pt] (.Tuple [a, b] k2 pt2) pos.line X.env = pure false := by rfl) :
    PS X (.Assign [.Tuple [.Name x px, .Name y py] kt pt] (.Tuple [a, b] k2 pt2) pos) (tPar i j ta) := by
  intro pins s σ H D I h
  rw [exec_Assign_arm]
  refine wpAny_bind (wpAny_standAt ?_)
  rw [hs]
  refine wpAny_bind (wpAny_pure ?_)
  rw [if_neg (by decide)]
  refine wpAny_bind (Tuple_ (thn (ha _ pins s σ H _ I h) fun us s1 ⟨vs, H1, I1, r1, q1⟩ => ?_))
  obtain ⟨v, w, e1, q1⟩ := q1
  subst e1
  obtain ⟨u1, u2, rfl, rv, rw'⟩ : ∃ u1 u2, us = [u1, u2] ∧ RelV v u1 ∧ RelV w u2 := by
    cases r1 with
    | cons p q =>
      cases q with
      | cons p' q' =>
        cases q'
        exact ⟨_, _, rfl, p, p'⟩
  refine wpAny_newObj_type ?_ (by show 2 ≤ sizeLine; decide)
  have I2 : Inv X pins σ H1 { s1 with heap := s1.heap.push { cls := .type "tuple", data := .seq [u1, u2].toArray } } := I1.kept (t' := s1.toks) fun b o e => Heap.get?_push_of_some _ e
  rw [hw]
  refine wpAny_bind (wpAny_pure ?_)
  show wpAny (model X.prog X.w) X.A (do rule "assign.swapped-stores"; let items ← unpackItems (.ref s1.heap.objs.size) 2 none; assignInOrder [fun v => bindName X.env y v, fun v => bindName X.env x v] items.reverse; pure Flow.next) _ _ _
  refine wpAny_bind (wpAny_rule (wpAny_bind (unpackItems_tuple (items := #[u1, u2]) (I.ok.hd hc) (IsTup.new s1.heap _) fun h' hx' => ?_)))
  have I3 := I2.kept (h' := h') (t' := s1.toks) fun b o e => hx' b o (Nat.ne_of_lt (Heap.lt_size e)) e
  show wpAny _ _ (assignInOrder [fun v => bindName X.env y v, fun v => bindName X.env x v] [u2, u1] >>= fun _ => pure Flow.next) _ _ _
  refine wpAny_bind (assignInOrder_cons (wpAny_bindName (store_ok I3 hN hj (.inl hy) rw' (fun s2 I4 => ?_) (.inr hy))))
  refine assignInOrder_cons (wpAny_bindName (store_ok I4 hN hi (.inl hx) rv (fun s3 I5 => assignInOrder_nil (wpAny_pure ?_)) (.inr hx)))
  rw [List.set_comm _ _ (Ne.symm hij)] at I5
  exact ⟨_, H1, I5, q1⟩
/-- name op= e -/
def tAug (i : Nat) (te : TE) (ti : TIp) : TS := fun D σ H => ∃ x, σ[i]? = some (some x) ∧ te σ H fun y H1 => ti x y H1 fun z H2 => D.nx (σ.set i (some z)) H2
theorem ps_aug {i : Nat} {x : Str} {e : Expr} {te : TE} {op : Operator} {ti : TIp} {pos' : Pos} (hN : X.N.Nodup) (hi : X.N[i]? = some x) (hx : Loc X.env.scope x) (he : PE X e te) (ho : PIp X op ti) (hf : X.fn x = true ∨ X.env.scope.names.lookup x = some .local := by first | exact .inl rfl | exact .inr rfl | assumption) :
    PS X (.AugAssign (.Name x pos') op e pos) (tAug i te ti) := by
  intro pins s σ H D I h
  obtain ⟨v, e1, h⟩ := h
  obtain ⟨m, hn, hl⟩ := I.loc
  have vis : Vis X.env.scope x := by rcases hx with k | k; exact .inl k; exact .inr (.inl k)
  obtain ⟨u, r, l⟩ := hl i x v hi e1 vis
  refine wpAny_AugAssign_Name ?_
  have go : wpAny (model X.prog X.w) X.A (eval e X.env) (fun w s₂ => wpAny (model X.prog X.w) X.A (inplaceOp op u w) (fun r s₃ => wpAny (model X.prog X.w) X.A (storeName X.env x r) (fun _ => SP X pins D .next) X.xe s₃) X.xe s₂) X.xe s := by
    refine thn (he pins s σ H _ I h) fun w s1 ⟨y, H1, I1, r1, q1⟩ => ?_
    refine thn (ho pins s1 σ H1 v y u w _ I1 r r1 q1) fun z s2 ⟨zv, H2, I2, r2, q2⟩ => ?_
    exact store_ok I2 hN hi hx r2 (fun s3 I3 => ⟨_, H2, I3, q2⟩) hf
  rcases l with ⟨hk, hm⟩ | ⟨hk, c, hc, hcell⟩
  · exact wpAny_loadName_local I.ok.kind hk hn hm go
  · rcases hk with hk | hk
    · exact wpAny_loadName_cell I.ok.kind hk hc hcell go
    · rcases hx with k | k
      · have : X.env.scope.names.lookup x = some .free := hk
        rw [k] at this; cases this
      · have : X.env.scope.names.lookup x = some .free := hk
        rw [k] at this; cases this
/-- o[i] op= e -/
def tAugS (to ti te : TE) (tget : V → V → Hp → VK → Prop) (tip : TIp) (tset : TSet) : TS := fun D σ H => to σ H fun o H1 => ti σ H1 fun i H2 => tget o i H2 fun x H3 => te σ H3 fun y H4 => tip x y H4 fun z H5 => tset o i z H5 fun H6 => D.nx σ H6
/-- o[i], by values -/
def PGet (X : Cx) (t : V → V → Hp → VK → Prop) : Prop :=
  ∀ (pins : List (Addr × Obj)) (s : Shared) (σ : St) (H : Hp) (o i : V) (ov iv : Value) (Q : VK), Inv X pins σ H s → RelV o ov → RelV i iv → t o i H Q →
    wpAny (model X.prog X.w) X.A (getItem ov iv) (EP X pins σ Q) X.xe s
theorem ps_augS {o i e : Expr} {to ti te : TE} {tget : V → V → Hp → VK → Prop} {tip : TIp} {tset : TSet} {op : Operator} {tpos : Pos} (ho : PE X o to) (hi : PE X i ti) (hg : PGet X tget) (he : PE X e te) (hp : PIp X op tip) (hs : PSet X tset)
    (ha : ∀ ov iv new, augStore i ov iv new = (do holding [new, ov, iv] (setItem ov iv new); release [new, ov, iv] []; pure .next) := by intros; rfl) : PS X (.AugAssign (.Subscript o i tpos) op e pos) (tAugS to ti te tget tip tset) := by
  intro pins s σ H D I h
  refine wpAny_AugAssign_SubscriptAny (thn (ho pins s σ H _ I h) fun ov s1 ⟨x1, H1, I1, r1, q1⟩ => ?_) ha
  refine thn (hi pins s1 σ H1 _ I1 q1) fun iv s2 ⟨x2, H2, I2, r2, q2⟩ => ?_
  refine thn (hg pins s2 σ H2 x1 x2 ov iv _ I2 r1 r2 q2) fun old s3 ⟨x3, H3, I3, r3, q3⟩ => ?_
  refine thn (he pins s3 σ H3 _ I3 q3) fun v s4 ⟨x4, H4, I4, r4, q4⟩ => ?_
  refine thn (hp pins s4 σ H4 x3 x4 old v _ I4 r3 r4 q4) fun new s5 ⟨x5, H5, I5, r5, q5⟩ => ?_
  exact thn (hs pins s5 σ H5 x1 x2 x5 ov iv new _ I5 r1 r2 r5 q5) fun _ s6 ⟨H6, I6, q6⟩ => ⟨σ, H6, I6, q6⟩
/-- ints -/
def ipI (f : Int → Int → Int) : TIp := fun x y H Q => ∃ i j, x = .int i ∧ y = .int j ∧ Q (.int (f i j)) H
theorem ip_add : PIp X .Add (ipI fun i j => i + j) := by
  intro pins s σ H x y v u Q I r1 r2 h
  obtain ⟨i, j, e1, e2, q⟩ := h
  subst e1; subst e2
  obtain ⟨t, rfl⟩ := r1
  obtain ⟨t', rfl⟩ := r2
  exact iadd_int ⟨.int _, H, I.tok _, ⟨_, rfl⟩, q⟩
theorem ip_sub : PIp X .Sub (ipI fun i j => i - j) := by
  intro pins s σ H x y v u Q I r1 r2 h
  obtain ⟨i, j, e1, e2, q⟩ := h
  subst e1; subst e2
  obtain ⟨t, rfl⟩ := r1
  obtain ⟨t', rfl⟩ := r2
  exact isub_int ⟨.int _, H, I.tok _, ⟨_, rfl⟩, q⟩
end

/-! ### while -/
section
variable {X : Cx} {pos : Pos}
/-- the invariant W with its measure -/
def tWhile (c : TT) (tb : TS) : TS := fun D σ H => ∃ W : Nat → St → Hp → Prop, (∃ m, W m σ H) ∧ ∀ m σ H, W m σ H →
  c σ H fun b H1 => if b = true then ∃ N : St → Hp → Prop, (∀ σ' H', N σ' H' → ∃ m', m' < m ∧ W m' σ' H') ∧ tb { D with nx := N, ct := N, bk := D.nx } σ H1 else D.nx σ H1
theorem ps_while {c : Expr} {body : List Stmt} {tc : TT} {tb : TS} (hp : PassesOwn (model X.prog X.w) X.A X.env X.xe) (hc : PT X c tc) (hb : PSs X body tb) : PS X (.While c body [] pos) (tWhile tc tb) := by
  intro pins s σ H D I h
  obtain ⟨W, ⟨m0, w0⟩, turn⟩ := h
  refine wpAny_While (codeAny_whileLoop (fun n s' => ∃ σ' H', Inv X pins σ' H' s' ∧ W n σ' H') ?_ m0 ⟨σ, H, I, w0⟩)
  rintro n s1 ⟨σ1, H1, I1, w1⟩
  refine wpAny_passesOwn hp (thn (hc pins s1 σ1 H1 _ I1 (turn n σ1 H1 w1)) fun b s2 ⟨H2, I2, q2⟩ => ?_)
  cases b with
  | true =>
    obtain ⟨N, hN, q2⟩ := q2
    rw [if_pos rfl]
    refine wpAny_passesOwn hp (thn (hb pins s2 σ1 H2 _ I2 q2) fun f s3 q3 => ?_)
    cases f with
    | next =>
      obtain ⟨σ3, H3, I3, n3⟩ := q3
      obtain ⟨m', hm, w3⟩ := hN σ3 H3 n3
      exact ⟨m', hm, σ3, H3, I3, w3⟩
    | cont =>
      obtain ⟨σ3, H3, I3, n3⟩ := q3
      obtain ⟨m', hm, w3⟩ := hN σ3 H3 n3
      exact ⟨m', hm, σ3, H3, I3, w3⟩
    | brk => exact q3
    | ret v => exact q3
  | false =>
    rw [if_neg Bool.false_ne_true]
    exact wpAny_execs_nil ⟨σ1, H2, I2, q2⟩
end

/-! ### what a loop or a comprehension walks -/
/-- at turn i: it yields x (the heap may grow), or it stops -/
structure It where
  go : Nat → Hp → Prop
  yld : Nat → Hp → V → Hp → Prop
  stop : Nat → Hp → Prop
/-- the iterator's own objects may turn: they are not the frame's, not pinned, younger than the entry (or a comprehension's own) -/
def FpOk (X : Cx) (pins : List (Addr × Obj)) (H : Hp) (b : Addr) : Prop :=
  H b = none ∧ b ≠ X.env.locals ∧ b ∉ X.fs ∧ (b ∈ X.ex ∨ X.s₀.heap.objs.size ≤ b) ∧ (∀ x c, X.env.cells.lookup x = some c → c ≠ b) ∧ ∀ p ∈ X.pn ++ pins, p.1 ≠ b
theorem Inv.fpOk {X : Cx} {pins : List (Addr × Obj)} {σ : St} {H H' : Hp} {s : Shared} {b : Addr} (I : Inv X pins σ H s) (hb : s.heap.objs.size ≤ b) (hn : H' b = none) : FpOk X pins H' b := by
  refine ⟨hn, Nat.ne_of_gt (Nat.lt_of_lt_of_le I.lt hb), I.nofs hb, .inr (Nat.le_trans I.sz hb), fun x c e z => ?_, fun p hp z => ?_⟩
  · obtain ⟨v, q⟩ := I.cell x c e
    exact absurd (Nat.lt_of_lt_of_le q.lt (by rw [z]; exact hb)) (Nat.lt_irrefl _)
  · exact absurd (Nat.lt_of_lt_of_le (Heap.lt_size (I.pin p hp).1) (by rw [z]; exact hb)) (Nat.lt_irrefl _)
structure Turn (P : Program) (w : World) (K : PySem.W.Frag) (tg : Expr) (J : It) (fp : List Addr) (it : Addr) (tn : Nat → Heap → Prop) : Prop where
  mem : it ∈ fp
  obj : ∀ i h, tn i h → ∀ b ∈ fp, ∃ o, h.get? b = some o ∧ ∀ v, o.data ≠ .cell v
  keep : ∀ i h h', tn i h → (∀ b ∈ fp, ∀ o, h.get? b = some o → h'.get? b = some o) → tn i h'
  item : ∀ (X : Cx), X.prog = P → X.w = w → X.K = K → X.calm = true → ∀ (i : Nat) (pins : List (Addr × Obj)) (s : Shared) (σ : St) (H : Hp) (E : Value → Shared → Prop), Inv X pins σ H s → (∀ b ∈ fp, FpOk X pins H b) → tn i s.heap → J.go i H →
    wpAny (model P w) X.A (pyNext (.ref it)) (fun r s1 => ∃ u, r = some u ∧
      wpAny (model P w) X.A (letOwnedTupleGo tg (.ref it) u) (fun _ s2 => ∃ x H', Inv X pins σ H' s2 ∧ RelV x u ∧ J.yld i H x H' ∧ tn (i + 1) s2.heap ∧ ∀ b ∈ fp, H' b = none) E s1) E s
  done : ∀ (X : Cx), X.prog = P → X.w = w → X.K = K → X.calm = true → ∀ (i : Nat) (pins : List (Addr × Obj)) (s : Shared) (σ : St) (H : Hp) (E : Value → Shared → Prop), Inv X pins σ H s → (∀ b ∈ fp, FpOk X pins H b) → tn i s.heap → J.stop i H →
    wpAny (model P w) X.A (pyNext (.ref it)) (fun r s1 => r = none ∧ Inv X pins σ H s1) E s
  self : ∀ (A : Around) (i : Nat) (s : Shared) (Q : Value → Shared → Prop) (E : Value → Shared → Prop), tn i s.heap → Q (.ref it) s → wpAny (model P w) A (pyIter (.ref it)) Q E s
abbrev TI := St → Hp → (It → Hp → Prop) → Prop
/-- an iterator has come -/
def PIE (X : Cx) (pins : List (Addr × Obj)) (σ : St) (tg : Expr) (R : It → Hp → Prop) (itv : Value) (s2 : Shared) : Prop :=
  ∃ (it : Addr) (fp : List Addr) (tn : Nat → Heap → Prop) (J : It) (H' : Hp), itv = .ref it ∧ Inv X pins σ H' s2 ∧ Turn X.prog X.w X.K tg J fp it tn ∧ tn 0 s2.heap ∧ (∀ b ∈ fp, FpOk X pins H' b) ∧ R J H'
def PI (X : Cx) (tg iter : Expr) (wi : TI) : Prop :=
  ∀ (pins : List (Addr × Obj)) (s : Shared) (σ : St) (H : Hp) (R : It → Hp → Prop), Inv X pins σ H s → wi σ H R →
    wpAny (model X.prog X.w) X.A (eval iter X.env) (fun v s1 => wpAny (model X.prog X.w) X.A (pyIter v) (PIE X pins σ tg R) X.xe s1) X.xe s

/-- the step ahead of the store is nothing for an iterator that keeps no tuple -/
theorem go_of {M : Model} {A : Around} {E : Value → Shared → Prop} {s : Shared} {tg : Expr} {it : Addr} {u : Value} {o : Obj} {n : String} {vs : Array Value} {Q : Unit → Shared → Prop} (ho : s.heap.get? it = some o) (hc : o.cls = .type n) (hd : o.data = .fields vs)
    (hn : ["enumerate", "zip", "dict_itemiterator", "dict_reverseitemiterator", "odict_iterator", "itertools.zip_longest", "itertools.pairwise"].contains n = false) (hQ : Q () s) : wpAny M A (letOwnedTupleGo tg (.ref it) u) Q E s := by
  unfold letOwnedTupleGo
  cases tg <;> first
    | exact wpAny_pure hQ
    | (cases u <;> first
        | exact wpAny_pure hQ
        | (refine wpAny_bind (wpAny_load ho ?_)
           rw [hc, hd]
           show wpAny M A (if (["enumerate", "zip", "dict_itemiterator", "dict_reverseitemiterator", "odict_iterator", "itertools.zip_longest", "itertools.pairwise"].contains n && vs[0]? == some (rawInt _)) = true then _ else _) Q E s
           rw [if_neg (by intro h; rw [hn, Bool.false_and] at h; cases h)]
           exact wpAny_pure hQ))

/-- the list at a, as it stands at each turn (a loop may append to it) -/
def Itl (K : PySem.W.Frag) (a : Addr) : It :=
  ⟨fun i H => ∃ xs x, SqL K H a xs ∧ xs[i]? = some x, fun i H x H' => H' = H ∧ ∀ xs, SqL K H a xs → xs[i]? = some x, fun i H => ∃ xs, SqL K H a xs ∧ xs.length ≤ i⟩
def Itt (K : PySem.W.Frag) (a : Addr) : It :=
  ⟨fun i H => ∃ xs x, SqT K H a xs ∧ xs[i]? = some x, fun i H x H' => H' = H ∧ ∀ xs, SqT K H a xs → xs[i]? = some x, fun i H => ∃ xs, SqT K H a xs ∧ xs.length ≤ i⟩
/-- lo, lo + 1, .. (n of them) -/
def Itr (lo : Int) (n : Nat) : It := ⟨fun i _ => i < n, fun i H x H' => H' = H ∧ x = .int (lo + i), fun i _ => n ≤ i⟩
theorem turn_list {P : Program} {w : World} {K : PySem.W.Frag} {tg : Expr} (a it : Addr) : Turn P w K tg (Itl K a) [it] it (fun i h => h.IsListIter it a i) where
  mem := by simp
  obj := fun i h st b hb => by
    have e : b = it := by simpa using hb
    subst e
    obtain ⟨o, e, c, d⟩ := st
    exact ⟨o, e, fun v z => by rw [d] at z; cases z⟩
  keep := fun i h h' st k => st.at fun o e => k it (by simp) o e
  item := by
    intro X hP hw hK hc i pins s σ H E I hf st hg
    subst hP hw hK
    obtain ⟨xs, x, hq, hx⟩ := hg
    obtain ⟨its, rv, p, hz⟩ := I.list hq
    obtain ⟨u, hu, ru⟩ := rv.get hx
    obtain ⟨f0, f1, f2, f3, f4, f5⟩ := hf it (by simp)
    refine wpAny_pyNext_list_item st p.isList (x := u) (by simpa using hu) fun h' st' sb => ?_
    have I1 : Inv X pins σ H { s with heap := h' } := I.turned (t' := s.toks) (fun b o hb e => (sb.2 b hb).trans e) f0 f1 f3 f4 f5
    obtain ⟨o, e, c, d⟩ := id st'
    exact ⟨u, rfl, go_of (s := { s with heap := h' }) e c d (by decide) ⟨x, H, I1, ru, ⟨rfl, fun ys hy => by rw [I.list_inj hy hq]; exact hx⟩, st', fun b hb => (hf b hb).1⟩⟩
  done := by
    intro X hP hw hK hc i pins s σ H E I hf st hg
    subst hP hw hK
    obtain ⟨xs, hq, hx⟩ := hg
    obtain ⟨its, rv, p, hz⟩ := I.list hq
    obtain ⟨f0, f1, f2, f3, f4, f5⟩ := hf it (by simp)
    have hl := rv.length
    exact wpAny_pyNext_list_end (I.ok.hd hc) st p.isList (by simp; omega) fun h' eb => ⟨rfl, I.turned (t' := s.toks) (fun b o hb e => eb b o hb e) f0 f1 f3 f4 f5⟩
  self := fun _ _ _ _ _ st h => wpAny_pyIter_listiter st h
theorem turn_tuple {P : Program} {w : World} {K : PySem.W.Frag} {tg : Expr} (a it : Addr) : Turn P w K tg (Itt K a) [it] it (fun i h => h.IsTupleIter it a i) where
  mem := by simp
  obj := fun i h st b hb => by
    have e : b = it := by simpa using hb
    subst e
    obtain ⟨o, e, c, d⟩ := st
    exact ⟨o, e, fun v z => by rw [d] at z; cases z⟩
  keep := fun i h h' st k => st.at fun o e => k it (by simp) o e
  item := by
    intro X hP hw hK hc i pins s σ H E I hf st hg
    subst hP hw hK
    obtain ⟨xs, x, hq, hx⟩ := hg
    obtain ⟨its, rv, p, hz⟩ := I.tuple hq
    obtain ⟨u, hu, ru⟩ := rv.get hx
    obtain ⟨f0, f1, f2, f3, f4, f5⟩ := hf it (by simp)
    refine wpAny_pyNext_tuple_item st (show s.heap.IsTuple a its.toArray from p) (x := u) (by simpa using hu) fun h' st' sb => ?_
    have I1 : Inv X pins σ H { s with heap := h' } := I.turned (t' := s.toks) (fun b o hb e => (sb.2 b hb).trans e) f0 f1 f3 f4 f5
    obtain ⟨o, e, c, d⟩ := id st'
    exact ⟨u, rfl, go_of (s := { s with heap := h' }) e c d (by decide) ⟨x, H, I1, ru, ⟨rfl, fun ys hy => by rw [I.tuple_inj hy hq]; exact hx⟩, st', fun b hb => (hf b hb).1⟩⟩
  done := by
    intro X hP hw hK hc i pins s σ H E I hf st hg
    subst hP hw hK
    obtain ⟨xs, hq, hx⟩ := hg
    obtain ⟨its, rv, p, hz⟩ := I.tuple hq
    obtain ⟨f0, f1, f2, f3, f4, f5⟩ := hf it (by simp)
    have hl := rv.length
    exact wpAny_pyNext_tuple_end (I.ok.hd hc) st (show s.heap.IsTuple a its.toArray from p) (by simp; omega) fun h' eb => ⟨rfl, I.turned (t' := s.toks) (fun b o hb e => eb b o hb e) f0 f1 f3 f4 f5⟩
  self := fun _ _ _ _ _ st h => wpAny_pyIter_tupleiter st h
theorem turn_range {P : Program} {w : World} {K : PySem.W.Frag} {tg : Expr} (it : Addr) (lo : Int) (n : Nat) : Turn P w K tg (Itr lo n) [it] it (fun i h => IsRangeIter h it (lo + (i : Nat) * 1) ((n : Int) - (i : Nat)) 1) where
  mem := by simp
  obj := fun i h st b hb => by
    have e : b = it := by simpa using hb
    subst e
    exact ⟨_, st, fun v z => by
      have z' : Data.fields _ = Data.cell v := z
      cases z'⟩
  keep := fun i h h' st k => k it (by simp) _ st
  item := by
    intro X hP hw hK hc i pins s σ H E I hf st hg
    subst hP hw hK
    obtain ⟨f0, f1, f2, f3, f4, f5⟩ := hf it (by simp)
    have W := Walks.range (prog := X.prog) (w := X.w) (I.ok.hd hc) it lo 1 n
    refine W.item i s _ _ hg st fun v h' tk hv st' kk => ?_
    obtain ⟨t, rfl⟩ := hv
    have I1 : Inv X pins σ H { s with heap := h', toks := tk } := I.turned (fun b o hb e => kk b o (by simpa using hb) e) f0 f1 f3 f4 f5
    refine ⟨_, rfl, go_of (s := { s with heap := h', toks := tk }) (n := "range_iterator") st' rfl rfl (by decide) ⟨.int (lo + i), H, I1, ⟨t, ?_⟩, ⟨rfl, rfl⟩, st', fun b hb => (hf b hb).1⟩⟩
    rw [Int.mul_one]
  done := by
    intro X hP hw hK hc i pins s σ H E I hf st hg
    subst hP hw hK
    obtain ⟨f0, f1, f2, f3, f4, f5⟩ := hf it (by simp)
    exact wpAny_pyNext_range_end (I.ok.hd hc) st (by have : n ≤ i := hg; omega) fun h' eb => ⟨rfl, I.turned (t' := s.toks) (fun b o hb e => eb b o hb e) f0 f1 f3 f4 f5⟩
  self := fun _ _ _ _ _ st h => wpAny_pyIter_rangeiter st h
end L2

namespace L2
open PySem PySem.Spec PyProof.Rows
section
variable {X : Cx} {tg : Expr}
def iList (K : PySem.W.Frag) (tl : TE) : TI := fun σ H R => tl σ H fun x H1 => ∃ a, x = .ref a ∧ (∃ xs, SqL K H1 a xs) ∧ R (Itl K a) H1
def iTup (K : PySem.W.Frag) (tl : TE) : TI := fun σ H R => tl σ H fun x H1 => ∃ a, x = .ref a ∧ (∃ xs, SqT K H1 a xs) ∧ R (Itt K a) H1
theorem pi_list {l : Expr} {tl : TE} (hl : PE X l tl) : PI X tg l (iList X.K tl) := by
  intro pins s σ H R I h
  refine thn (hl pins s σ H _ I h) fun v s1 ⟨x, H1, I1, r1, q1⟩ => ?_
  obtain ⟨a, e, ⟨xs, hq⟩, q⟩ := q1
  subst e
  cases r1
  obtain ⟨its, rv, p, hz⟩ := I1.list hq
  refine wpAny_pyIter_list p.isList ?_
  refine ⟨s1.heap.objs.size, [s1.heap.objs.size], _, _, H1, rfl, I1.kept (t' := s1.toks) fun b o e => Heap.get?_push_of_some _ e, turn_list a _, ⟨_, Heap.get?_push_size _ rfl, rfl, rfl⟩, fun b hb => ?_, q⟩
  have e : b = s1.heap.objs.size := by simpa using hb
  subst e
  exact I1.fpOk (Nat.le_refl _) (I1.hok.fresh (Nat.le_refl _))
theorem pi_tup {l : Expr} {tl : TE} (hl : PE X l tl) : PI X tg l (iTup X.K tl) := by
  intro pins s σ H R I h
  refine thn (hl pins s σ H _ I h) fun v s1 ⟨x, H1, I1, r1, q1⟩ => ?_
  obtain ⟨a, e, ⟨xs, hq⟩, q⟩ := q1
  subst e
  cases r1
  obtain ⟨its, rv, p, hz⟩ := I1.tuple hq
  refine wpAny_pyIter_tuple (show s1.heap.IsTuple a its.toArray from p) ?_
  refine ⟨s1.heap.objs.size, [s1.heap.objs.size], _, _, H1, rfl, I1.kept (t' := s1.toks) fun b o e => Heap.get?_push_of_some _ e, turn_tuple a _, ⟨_, Heap.get?_push_size _ rfl, rfl, rfl⟩, fun b hb => ?_, q⟩
  have e : b = s1.heap.objs.size := by simpa using hb
  subst e
  exact I1.fpOk (Nat.le_refl _) (I1.hok.fresh (Nat.le_refl _))
/-- a range object just made, walked -/
theorem range_it {pins : List (Addr × Obj)} {σ : St} {H : Hp} {s : Shared} {R : It → Hp → Prop} {E : Value → Shared → Prop} {lo hi : Int} {t u v : Tok} {tk : Nat} (I : Inv X pins σ H s) (h1 : -(2 ^ 62) ≤ lo) (h2 : lo < 2 ^ 62) (h3 : -(2 ^ 62) ≤ hi) (h4 : hi < 2 ^ 62)
    (q : R (Itr lo (hi - lo).toNat) H) : wpAny (model X.prog X.w) X.A (pyIter (.ref s.heap.objs.size)) (PIE X pins σ tg R) E { s with heap := s.heap.push { cls := .type "range", data := .fields #[.int lo t, .int hi u, .int 1 v] }, toks := tk } := by
  refine wpAny_pyIter_range (IsRange.new ..) (small_one h1 h2 h3 h4) ?_
  have I1 : Inv X pins σ H { s with heap := s.heap.push { cls := .type "range", data := .fields #[.int lo t, .int hi u, .int 1 v] }, toks := tk } := I.kept fun b o e => Heap.get?_push_of_some _ e
  refine ⟨(s.heap.push { cls := .type "range", data := .fields #[.int lo t, .int hi u, .int 1 v] }).objs.size, [(s.heap.push { cls := .type "range", data := .fields #[.int lo t, .int hi u, .int 1 v] }).objs.size], _, _, H, rfl,
    I1.kept (t' := tk) fun b o e => Heap.get?_push_of_some _ e, turn_range _ lo (hi - lo).toNat, ?_, fun b hb => ?_, q⟩
  · have e1 : lo + ((0 : Nat) : Int) * 1 = lo := by simp
    have e2 : (((hi - lo).toNat : Nat) : Int) - ((0 : Nat) : Int) = Builtin.Range.rangeSize lo hi 1 := by rw [rangeSize_one]; split <;> omega
    show IsRangeIter _ _ (lo + ((0 : Nat) : Int) * 1) ((((hi - lo).toNat : Nat) : Int) - ((0 : Nat) : Int)) 1
    rw [e1, e2]
    exact Heap.get?_push_size _ rfl
  · have e : b = (s.heap.push { cls := .type "range", data := .fields #[.int lo t, .int hi u, .int 1 v] }).objs.size := by simpa using hb
    subst e
    exact I1.fpOk (Nat.le_refl _) (I1.hok.fresh (Nat.le_refl _))
def iRng1 (ta : TA) : TI := fun σ H R => ta σ H fun vs H1 => ∃ j : Int, vs = [.int j] ∧ -(2 ^ 62) ≤ j ∧ j < 2 ^ 62 ∧ R (Itr 0 j.toNat) H1
def iRng2 (ta : TA) : TI := fun σ H R => ta σ H fun vs H1 => ∃ i j : Int, vs = [.int i, .int j] ∧ (-(2 ^ 62) ≤ i ∧ i < 2 ^ 62 ∧ -(2 ^ 62) ≤ j ∧ j < 2 ^ 62) ∧ R (Itr i (j - i).toNat) H1
theorem pi_range1 {a : Expr} {ta : TA} {p pos : Pos} (hg : Gl X "range") (hm : X.mg "range" = none) (ha : PA X [a] ta) (hs : starEach [a] X.env = [(false, eval a X.env)] := by rfl) : PI X tg (.Call (.Name "range" p) [a] [] pos) (iRng1 ta) := by
  intro pins s σ H R I h
  refine Call_ (ld_blt I hg hm boot_range (PyProof.Rows.callWith_type1 (thn (ha pos pins s σ H _ I h) fun us s1 ⟨vs, H1, I1, r1, q1⟩ => ?_) hs rfl))
  obtain ⟨j, e, q1, q2, q⟩ := q1
  subst e
  cases r1 with
  | cons r rr =>
    cases rr
    obtain ⟨t, rfl⟩ := r
    exact call_range_1 (range_it I1 (by omega) (by omega) q1 q2 (by simpa using q))
theorem pi_range2 {a b : Expr} {ta : TA} {p pos : Pos} (hg : Gl X "range") (hm : X.mg "range" = none) (ha : PA X [a, b] ta) (hs : starEach [a, b] X.env = [(false, eval a X.env), (false, eval b X.env)] := by rfl) (hs2 : starEach [b] X.env = [(false, eval b X.env)] := by rfl) :
    PI X tg (.Call (.Name "range" p) [a, b] [] pos) (iRng2 ta) := by
  intro pins s σ H R I h
  refine Call_ (ld_blt I hg hm boot_range (PyProof.Rows.callWith_type1 (thn (ha pos pins s σ H _ I h) fun us s1 ⟨vs, H1, I1, r1, q1⟩ => ?_) (by rw [hs, hs2]) (by rw [hs2]; rfl)))
  obtain ⟨i, j, e, ⟨q1, q2, q3, q4⟩, q⟩ := q1
  subst e
  cases r1 with
  | cons r rr =>
    cases rr with
    | cons r' rr =>
      cases rr
      obtain ⟨t, rfl⟩ := r
      obtain ⟨t', rfl⟩ := r'
      exact call_range_2 (range_it I1 q1 q2 q3 q4 q)

/-! ### for -/
/-- W: the invariant by the turn and a measure; N: what the body is to reach -/
def tFor (wi : TI) (g : TG) (tb : TS) : TS := fun D σ H => wi σ H fun J H1 => ∃ W : Nat → Nat → St → Hp → Prop, (∃ m, W 0 m σ H1) ∧ ∀ i m σ H, W i m σ H →
  (J.stop i H ∧ D.nx σ H) ∨ (J.go i H ∧ ∃ N : St → Hp → Prop, (∀ σ' H', N σ' H' → ∃ m', m' < m ∧ W (i + 1) m' σ' H') ∧ ∀ x H', J.yld i H x H' → g x σ H' fun σ2 H2 => tb { D with nx := N, ct := N, bk := D.nx } σ2 H2)
/-- the records at fp as they stand -/
def pinsAt (fp : List Addr) (h : Heap) : List (Addr × Obj) := fp.filterMap fun b => (h.get? b).map fun o => (b, o)
theorem mem_pinsAt {fp : List Addr} {h : Heap} {b : Addr} {o : Obj} (hb : b ∈ fp) (e : h.get? b = some o) : (b, o) ∈ pinsAt fp h := List.mem_filterMap.mpr ⟨b, hb, by rw [e]; rfl⟩
theorem of_pinsAt {fp : List Addr} {h : Heap} {p : Addr × Obj} (hp : p ∈ pinsAt fp h) : p.1 ∈ fp ∧ h.get? p.1 = some p.2 := by
  obtain ⟨b, hb, e⟩ := List.mem_filterMap.mp hp
  cases q : h.get? b with
  | none => rw [q] at e; cases e
  | some o =>
    rw [q] at e
    have e' : (b, o) = p := Option.some.inj e
    subst e'
    exact ⟨hb, q⟩
theorem Inv.pinned {pins : List (Addr × Obj)} {σ : St} {H : Hp} {s : Shared} {fp : List Addr} (I : Inv X pins σ H s) (hf : ∀ b ∈ fp, FpOk X pins H b) (ho : ∀ b ∈ fp, ∃ o, s.heap.get? b = some o ∧ ∀ v, o.data ≠ .cell v) : Inv X (pins ++ pinsAt fp s.heap) σ H s :=
  I.pins_of fun p hp => (List.mem_append.mp hp).elim (fun z => I.pin p (List.mem_append_right _ z)) fun z => by
    obtain ⟨hb, e⟩ := of_pinsAt z
    obtain ⟨f0, f1, f2, _⟩ := hf p.1 hb
    obtain ⟨o, e', d⟩ := ho p.1 hb
    rw [e] at e'; cases e'
    exact ⟨e, f0, f1, f2, d⟩
theorem Inv.unpinned {pins pl : List (Addr × Obj)} {σ : St} {H : Hp} {s : Shared} (I : Inv X (pins ++ pl) σ H s) : Inv X pins σ H s := I.pins_of fun p hp => I.pin p (List.mem_append_right _ (List.mem_append_left _ hp))
theorem ps_for {iter : Expr} {body : List Stmt} {wi : TI} {g : TG} {tb : TS} {pos : Pos} (hp : PassesOwn (model X.prog X.w) X.A X.env X.xe) (hc : X.calm = true) (hi : PI X tg iter wi) (hg : PG X tg g) (hb : PSs X body tb)
    (hs : ∀ x, foldedSetIterable iter X.env x = pure x := by intro _; rfl) : PS X (.For tg iter body [] pos) (tFor wi g tb) := by
  intro pins s σ H D I h
  refine wpAny_For (thn (hi pins s σ H _ I h) fun v s1 h1 => thn h1 fun itv s2 h2 => ?_) hs
  obtain ⟨it, fp, tn, J, H2, e, I2, T, st2, f2, W, ⟨m0, w0⟩, turn⟩ := h2
  subst e
  -- what stays true of the iterator's objects through the loop
  have stat : ∀ {H' : Hp}, (∀ b ∈ fp, H' b = none) → ∀ b ∈ fp, FpOk X pins H' b := fun hn b hb => ⟨hn b hb, (f2 b hb).2⟩
  refine codeAny_forLoop_any (fun n s' => ∃ i σ' H', Inv X pins σ' H' s' ∧ tn i s'.heap ∧ (∀ b ∈ fp, H' b = none) ∧ W i n σ' H') ?_ m0 ⟨0, σ, H2, I2, st2, fun b hb => (f2 b hb).1, w0⟩
  rintro n s3 ⟨i, σ3, H3, I3, st3, fr3, w3⟩
  rcases turn i n σ3 H3 w3 with ⟨stop, qn⟩ | ⟨go, N, hN, step⟩
  · refine wpAny_passesOwn hp (thn (T.done X rfl rfl rfl hc i pins s3 σ3 H3 X.xe I3 (stat fr3) st3 stop) fun r s4 ⟨hr, I4⟩ => ?_)
    subst hr
    exact wpAny_execs_nil ⟨σ3, H3, I4, qn⟩
  · refine wpAny_passesOwn hp (thn (T.item X rfl rfl rfl hc i pins s3 σ3 H3 X.xe I3 (stat fr3) st3 go) fun r s4 ⟨u, hr, h4⟩ => ?_)
    subst hr
    refine wpAny_passesOwn hp (thn h4 fun _ s5 ⟨x, H5, I5, r5, y5, st5, fr5⟩ => ?_)
    have I5' := I5.pinned (stat fr5) (T.obj _ _ st5)
    refine wpAny_passesOwn hp (thn (hg _ s5 σ3 H5 x u _ I5' r5 (step x H5 y5)) fun _ s6 ⟨σ6, H6, I6, q6⟩ => ?_)
    refine wpAny_passesOwn hp (thn (hb _ s6 σ6 H6 _ I6 q6) fun f s7 q7 => ?_)
    have again : ∀ {σ7 : St} {H7 : Hp}, Inv X (pins ++ pinsAt fp s5.heap) σ7 H7 s7 → N σ7 H7 → ∃ m, m < n ∧ ∃ i σ' H', Inv X pins σ' H' s7 ∧ tn i s7.heap ∧ (∀ b ∈ fp, H' b = none) ∧ W i m σ' H' := fun {σ7 H7} I7 n7 => by
      obtain ⟨m', hm, w7⟩ := hN σ7 H7 n7
      refine ⟨m', hm, i + 1, σ7, H7, I7.unpinned, T.keep _ _ _ st5 fun b hb o e => (I7.pin (b, o) (List.mem_append_right _ (List.mem_append_right _ (mem_pinsAt hb e)))).1, fun b hb => ?_, w7⟩
      obtain ⟨o, e, d⟩ := T.obj _ _ st5 b hb
      exact (I7.pin (b, o) (List.mem_append_right _ (List.mem_append_right _ (mem_pinsAt hb e)))).2.1
    cases f with
    | next => obtain ⟨σ7, H7, I7, n7⟩ := q7; exact again I7 n7
    | cont => obtain ⟨σ7, H7, I7, n7⟩ := q7; exact again I7 n7
    | brk => obtain ⟨σ7, H7, I7, q7⟩ := q7; exact ⟨σ7, H7, I7.unpinned, q7⟩
    | ret v => obtain ⟨x7, σ7, H7, I7, r7, q7⟩ := q7; exact ⟨x7, σ7, H7, I7.unpinned, r7, q7⟩
end

/-! ### the forms one uses -/
/-- over a list that the body leaves as it is -/
theorem for_list {K : PySem.W.Frag} {a : Addr} {xs : List V} {g : TG} {tb : TS} {D : Ends} {σ : St} {H : Hp} (Pv : Nat → St → Hp → Prop) (h0 : Pv 0 σ H) (hl : ∀ i σ H, i ≤ xs.length → Pv i σ H → SqL K H a xs)
    (hs : ∀ i x σ H, xs[i]? = some x → Pv i σ H → g x σ H fun σ2 H2 => tb { D with nx := Pv (i + 1), ct := Pv (i + 1), bk := D.nx } σ2 H2) (hd : ∀ σ H, Pv xs.length σ H → D.nx σ H) :
    ∃ W : Nat → Nat → St → Hp → Prop, (∃ m, W 0 m σ H) ∧ ∀ i m σ H, W i m σ H →
      ((Itl K a).stop i H ∧ D.nx σ H) ∨ ((Itl K a).go i H ∧ ∃ N : St → Hp → Prop, (∀ σ' H', N σ' H' → ∃ m', m' < m ∧ W (i + 1) m' σ' H') ∧ ∀ x H', (Itl K a).yld i H x H' → g x σ H' fun σ2 H2 => tb { D with nx := N, ct := N, bk := D.nx } σ2 H2) := by
  refine ⟨fun i m σ H => m = xs.length - i ∧ i ≤ xs.length ∧ Pv i σ H, ⟨xs.length, by simp, Nat.zero_le _, h0⟩, ?_⟩
  rintro i m σ H ⟨rfl, hi, p⟩
  have q := hl i σ H hi p
  by_cases hlt : i < xs.length
  · refine .inr ⟨⟨xs, xs[i], q, by simp [hlt]⟩, Pv (i + 1), fun σ' H' p' => ⟨xs.length - (i + 1), by omega, rfl, hlt, p'⟩, fun x H' y => ?_⟩
    obtain ⟨e, y⟩ := y
    subst e
    exact hs i x σ _ (y xs q) p
  · have e : i = xs.length := by omega
    subst e
    exact .inl ⟨⟨xs, q, Nat.le_refl _⟩, hd σ H p⟩
theorem for_tup {K : PySem.W.Frag} {a : Addr} {xs : List V} {g : TG} {tb : TS} {D : Ends} {σ : St} {H : Hp} (Pv : Nat → St → Hp → Prop) (h0 : Pv 0 σ H) (hl : ∀ i σ H, i ≤ xs.length → Pv i σ H → SqT K H a xs)
    (hs : ∀ i x σ H, xs[i]? = some x → Pv i σ H → g x σ H fun σ2 H2 => tb { D with nx := Pv (i + 1), ct := Pv (i + 1), bk := D.nx } σ2 H2) (hd : ∀ σ H, Pv xs.length σ H → D.nx σ H) :
    ∃ W : Nat → Nat → St → Hp → Prop, (∃ m, W 0 m σ H) ∧ ∀ i m σ H, W i m σ H →
      ((Itt K a).stop i H ∧ D.nx σ H) ∨ ((Itt K a).go i H ∧ ∃ N : St → Hp → Prop, (∀ σ' H', N σ' H' → ∃ m', m' < m ∧ W (i + 1) m' σ' H') ∧ ∀ x H', (Itt K a).yld i H x H' → g x σ H' fun σ2 H2 => tb { D with nx := N, ct := N, bk := D.nx } σ2 H2) := by
  refine ⟨fun i m σ H => m = xs.length - i ∧ i ≤ xs.length ∧ Pv i σ H, ⟨xs.length, by simp, Nat.zero_le _, h0⟩, ?_⟩
  rintro i m σ H ⟨rfl, hi, p⟩
  have q := hl i σ H hi p
  by_cases hlt : i < xs.length
  · refine .inr ⟨⟨xs, xs[i], q, by simp [hlt]⟩, Pv (i + 1), fun σ' H' p' => ⟨xs.length - (i + 1), by omega, rfl, hlt, p'⟩, fun x H' y => ?_⟩
    obtain ⟨e, y⟩ := y
    subst e
    exact hs i x σ _ (y xs q) p
  · have e : i = xs.length := by omega
    subst e
    exact .inl ⟨⟨xs, q, Nat.le_refl _⟩, hd σ H p⟩
theorem for_range {lo : Int} {n : Nat} {g : TG} {tb : TS} {D : Ends} {σ : St} {H : Hp} (Pv : Nat → St → Hp → Prop) (h0 : Pv 0 σ H)
    (hs : ∀ i σ H, i < n → Pv i σ H → g (.int (lo + i)) σ H fun σ2 H2 => tb { D with nx := Pv (i + 1), ct := Pv (i + 1), bk := D.nx } σ2 H2) (hd : ∀ σ H, Pv n σ H → D.nx σ H) :
    ∃ W : Nat → Nat → St → Hp → Prop, (∃ m, W 0 m σ H) ∧ ∀ i m σ H, W i m σ H →
      ((Itr lo n).stop i H ∧ D.nx σ H) ∨ ((Itr lo n).go i H ∧ ∃ N : St → Hp → Prop, (∀ σ' H', N σ' H' → ∃ m', m' < m ∧ W (i + 1) m' σ' H') ∧ ∀ x H', (Itr lo n).yld i H x H' → g x σ H' fun σ2 H2 => tb { D with nx := N, ct := N, bk := D.nx } σ2 H2) := by
  refine ⟨fun i m σ H => m = n - i ∧ i ≤ n ∧ Pv i σ H, ⟨n, by simp, Nat.zero_le _, h0⟩, ?_⟩
  rintro i m σ H ⟨rfl, hi, p⟩
  by_cases hlt : i < n
  · refine .inr ⟨hlt, Pv (i + 1), fun σ' H' p' => ⟨n - (i + 1), by omega, rfl, hlt, p'⟩, fun x H' y => ?_⟩
    obtain ⟨e, y⟩ := y
    subst e y
    exact hs i σ _ hlt p
  · have e : i = n := by omega
    subst e
    exact .inl ⟨Nat.le_refl _, hd σ H p⟩
/-- while, by a word and a measure of the state -/
theorem while_by {c : TT} {tb : TS} {D : Ends} {σ : St} {H : Hp} (Pv : St → Hp → Prop) (μ : St → Hp → Nat) (h0 : Pv σ H)
    (hs : ∀ σ H, Pv σ H → c σ H fun b H1 => if b = true then tb { D with nx := fun σ' H' => Pv σ' H' ∧ μ σ' H' < μ σ H, ct := fun σ' H' => Pv σ' H' ∧ μ σ' H' < μ σ H, bk := D.nx } σ H1 else D.nx σ H1)
    (mono : ∀ σ H Q Q', (∀ b H1, Q b H1 → Q' b H1) → c σ H Q → c σ H Q') : tWhile c tb D σ H := by
  refine ⟨fun m σ H => m = μ σ H ∧ Pv σ H, ⟨_, rfl, h0⟩, ?_⟩
  rintro m σ H ⟨rfl, p⟩
  refine mono σ H _ _ (fun b H1 q => ?_) (hs σ H p)
  cases b with
  | true => exact ⟨_, fun σ' H' ⟨p', l⟩ => ⟨_, l, rfl, p'⟩, q⟩
  | false => exact q
end L2

namespace L2
open PySem PySem.Spec PyProof.Rows

abbrev R2 := V → V → Hp → VK → Prop
/-- a two-place operation on values: f is binaryOp op, inplaceOp op or compareOp op -/
def OpR (X : Cx) (f : Value → Value → Sem Value) (r : R2) : Prop :=
  ∀ (pins : List (Addr × Obj)) (s : Shared) (σ : St) (H : Hp) (x y : V) (v u : Value) (Q : VK), Inv X pins σ H s → RelV x v → RelV y u → r x y H Q →
    wpAny (model X.prog X.w) X.A (f v u) (EP X pins σ Q) X.xe s
/-- a one-place operation -/
def UnR (X : Cx) (f : Value → Sem Value) (r : V → Hp → VK → Prop) : Prop :=
  ∀ (pins : List (Addr × Obj)) (s : Shared) (σ : St) (H : Hp) (x : V) (v : Value) (Q : VK), Inv X pins σ H s → RelV x v → r x H Q →
    wpAny (model X.prog X.w) X.A (f v) (EP X pins σ Q) X.xe s
/-- a call of a value that is known (a builtin, a type) with values -/
def CallR (X : Cx) (f : Value) (r : List V → Hp → VK → Prop) : Prop :=
  ∀ (pins : List (Addr × Obj)) (s : Shared) (σ : St) (H : Hp) (xs : List V) (us : List Value) (Q : VK), Inv X pins σ H s → Vals xs us → r xs H Q →
    wpAny (model X.prog X.w) X.A (call f us) (EP X pins σ Q) X.xe s
/-- a value's truth -/
def TruR (X : Cx) (r : V → Hp → (Bool → Hp → Prop) → Prop) : Prop :=
  ∀ (pins : List (Addr × Obj)) (s : Shared) (σ : St) (H : Hp) (x : V) (v : Value) (Q : Bool → Hp → Prop), Inv X pins σ H s → RelV x v → r x H Q →
    wpAny (model X.prog X.w) X.A (truthy v) (TP X pins σ Q) X.xe s

def tOp (r : R2) (ta tb : TE) : TE := fun σ H Q => ta σ H fun x H1 => tb σ H1 fun y H2 => r x y H2 Q
def tUn (r : V → Hp → VK → Prop) (ta : TE) : TE := fun σ H Q => ta σ H fun x H1 => r x H1 Q
/-- ints in, under C, and a value out -/
def rI (C : Int → Int → Prop) (g : Int → Int → V) : R2 := fun x y H Q => ∃ i j, x = .int i ∧ y = .int j ∧ C i j ∧ Q (g i j) H
def rI0 (g : Int → Int → V) : R2 := fun x y H Q => ∃ i j, x = .int i ∧ y = .int j ∧ Q (g i j) H
def rU (g : Int → V) : V → Hp → VK → Prop := fun x H Q => ∃ i, x = .int i ∧ Q (g i) H

section
variable {X : Cx} {a b c : Expr} {ta tb tc : TE} {pos : Pos}

theorem binT (ha : PE X a ta) (hb : PE X b tb) {pins : List (Addr × Obj)} {s : Shared} {σ : St} {H : Hp} {R : V → V → Hp → Prop} (I : Inv X pins σ H s)
    (h : ta σ H fun x H1 => tb σ H1 fun y H2 => R x y H2) {Q : Value → Shared → Prop} {f : Value → Value → Sem Value}
    (hf : ∀ v u s2 x y H2, Inv X pins σ H2 s2 → RelV x v → RelV y u → R x y H2 → wpAny (model X.prog X.w) X.A (f v u) Q X.xe s2) :
    wpAny (model X.prog X.w) X.A (eval a X.env) (fun v s₁ => wpAny (model X.prog X.w) X.A (eval b X.env) (fun u s₂ => wpAny (model X.prog X.w) X.A (f v u) Q X.xe s₂) X.xe s₁) X.xe s := by
  refine thn (ha pins s σ H _ I h) fun v s1 ⟨x, H1, I1, r1, q1⟩ => ?_
  refine thn (hb pins s1 σ H1 _ I1 q1) fun u s2 ⟨y, H2, I2, r2, q2⟩ => ?_
  exact hf v u s2 x y H2 I2 r1 r2 q2

theorem pe_op {op : Operator} {r : R2} (ho : OpR X (binaryOp op) r) (ha : PE X a ta) (hb : PE X b tb) : PE X (.BinOp a op b pos) (tOp r ta tb) := by
  intro pins s σ H Q I h
  exact wpAny_BinOp (binT ha hb I h fun v u s2 x y H2 I2 rx ry q => ho pins s2 σ H2 x y v u Q I2 rx ry q)
theorem pe_un {op : UnaryOp} {r : V → Hp → VK → Prop} (ho : UnR X (unaryOp op) r) (ha : PE X a ta) : PE X (.UnaryOp op a pos) (tUn r ta) := by
  intro pins s σ H Q I h
  exact UnaryOp_ (thn (ha pins s σ H _ I h) fun v s1 ⟨x, H1, I1, r1, q1⟩ => ho pins s1 σ H1 x v Q I1 r1 q1)
/-- a op= e at a name: the name's slot i -/
theorem augR {op : Operator} {r : R2} (ho : OpR X (inplaceOp op) r) {pins : List (Addr × Obj)} {s : Shared} {σ : St} {H : Hp} {x y : V} {v u : Value} {Q : VK} (I : Inv X pins σ H s)
    (rx : RelV x v) (ry : RelV y u) (q : r x y H Q) : wpAny (model X.prog X.w) X.A (inplaceOp op v u) (EP X pins σ Q) X.xe s := ho pins s σ H x y v u Q I rx ry q

/-! ### ints -/
theorem opI {f : Value → Value → Sem Value} {C : Int → Int → Prop} {g : Int → Int → Int}
    (rule : ∀ (i j : Int) (t u : Tok) (s : Shared) (Q : Value → Shared → Prop) (E : Value → Shared → Prop), C i j → Q (.int (g i j) s.toks) { s with toks := s.toks + 1 } → wpAny (model X.prog X.w) X.A (f (.int i t) (.int j u)) Q E s) :
    OpR X f (rI C fun i j => .int (g i j)) := by
  intro pins s σ H x y v u Q I rx ry h
  obtain ⟨i, j, rfl, rfl, hc, q⟩ := h
  obtain ⟨t, rfl⟩ := rx
  obtain ⟨t', rfl⟩ := ry
  exact rule i j t t' s _ _ hc ⟨.int (g i j), H, I.tok _, ⟨_, rfl⟩, q⟩
theorem opI0 {f : Value → Value → Sem Value} {g : Int → Int → Int}
    (rule : ∀ (i j : Int) (t u : Tok) (s : Shared) (Q : Value → Shared → Prop) (E : Value → Shared → Prop), Q (.int (g i j) s.toks) { s with toks := s.toks + 1 } → wpAny (model X.prog X.w) X.A (f (.int i t) (.int j u)) Q E s) :
    OpR X f (rI0 fun i j => .int (g i j)) := by
  intro pins s σ H x y v u Q I rx ry h
  obtain ⟨i, j, rfl, rfl, q⟩ := h
  obtain ⟨t, rfl⟩ := rx
  obtain ⟨t', rfl⟩ := ry
  exact rule i j t t' s _ _ ⟨.int (g i j), H, I.tok _, ⟨_, rfl⟩, q⟩
theorem opB0 {f : Value → Value → Sem Value} {g : Int → Int → Bool}
    (rule : ∀ (i j : Int) (t u : Tok) (s : Shared) (Q : Value → Shared → Prop) (E : Value → Shared → Prop), Q (.bool (g i j)) s → wpAny (model X.prog X.w) X.A (f (.int i t) (.int j u)) Q E s) :
    OpR X f (rI0 fun i j => .bl (g i j)) := by
  intro pins s σ H x y v u Q I rx ry h
  obtain ⟨i, j, rfl, rfl, q⟩ := h
  obtain ⟨t, rfl⟩ := rx
  obtain ⟨t', rfl⟩ := ry
  exact rule i j t t' s _ _ ⟨.bl (g i j), H, I, rfl, q⟩

def CDiv (i j : Int) : Prop := 0 < j ∧ j < 1073741824
def CDivN (i j : Int) : Prop := j ≠ 0 ∧ j.natAbs < 1073741824
def CPow (i j : Int) : Prop := 0 ≤ j ∧ j ≤ 1000000 ∧ i.natAbs < 2 ^ 64
def CMul (i j : Int) : Prop := (-(2 ^ 64) < i ∧ i < 2 ^ 64) ∨ (-(2 ^ 64) < j ∧ j < 2 ^ 64)
theorem CMul.ok {i j : Int} (h : CMul i j) : IntMulOk i j := by
  rcases h with ⟨h1, h2⟩ | ⟨h1, h2⟩
  · exact .of_left (intBits_le_64 h1 h2)
  · exact .of_right (intBits_le_64 h1 h2)
theorem two_pow_nn (k : Nat) : (0 : Int) ≤ 2 ^ k := by
  rw [two_pow_cast]
  exact Int.natCast_nonneg _

theorem op_add : OpR X (binaryOp .Add) (rI0 fun i j => .int (i + j)) := opI0 fun _ _ _ _ _ _ _ q => add_int q
theorem op_sub : OpR X (binaryOp .Sub) (rI0 fun i j => .int (i - j)) := opI0 fun _ _ _ _ _ _ _ q => sub_int q
theorem op_mul : OpR X (binaryOp .Mult) (rI CMul fun i j => .int (i * j)) := opI fun _ _ _ _ _ _ _ hc q => mul_int q hc.ok
/-- // by a positive divisor -/
theorem op_fdiv : OpR X (binaryOp .FloorDiv) (rI CDiv fun i j => .int (i / j)) := opI fun i j _ _ _ _ _ hc q => by
  have h1 : (0 : Int) < j := hc.1
  have h2 : j < 1073741824 := hc.2
  exact floordiv_int (by omega) (by rw [Int.fdiv_eq_ediv_of_nonneg i (by omega)]; exact q) (.inl (PyProof.noPylong_small (by omega)))
theorem op_fdivN : OpR X (binaryOp .FloorDiv) (rI CDivN fun i j => .int (i.fdiv j)) := opI fun _ _ _ _ _ _ _ hc q => floordiv_int hc.1 q (.inl (PyProof.noPylong_small hc.2))
/-- % by a positive divisor of any size -/
theorem op_mod : OpR X (binaryOp .Mod) (rI (fun _ j => 0 < j) fun i j => .int (i % j)) := opI fun i j _ _ _ _ _ hc q => by
  have h1 : (0 : Int) < j := hc
  exact mod_int' (by omega) (by rw [Int.fmod_eq_emod_of_nonneg i (by omega)]; exact q)
theorem op_modN : OpR X (binaryOp .Mod) (rI (fun _ j => j ≠ 0) fun i j => .int (i.fmod j)) := opI fun _ _ _ _ _ _ _ hc q => mod_int' hc q
theorem op_pow : OpR X (binaryOp .Pow) (rI CPow fun i j => .int (i ^ j.toNat)) := opI fun _ _ _ _ _ _ _ hc q => pow_int_small hc.1 hc.2.1 hc.2.2 q
theorem op_shl : OpR X (binaryOp .LShift) (rI CPow fun i j => .int (i * 2 ^ j.toNat)) := opI fun _ _ _ _ _ _ _ hc q => lshift_int_small hc.1 hc.2.1 hc.2.2 q
theorem op_shr : OpR X (binaryOp .RShift) (rI (fun _ j => 0 ≤ j) fun i j => .int (i / 2 ^ j.toNat)) := opI fun i j _ _ _ _ _ hc q =>
  rshift_int hc (by rw [Int.fdiv_eq_ediv_of_nonneg i (two_pow_nn _)]; exact q)
theorem op_and : OpR X (binaryOp .BitAnd) (rI0 fun i j => .int (Builtin.bitAnd i j)) := opI0 fun _ _ _ _ _ _ _ q => and_int q
theorem op_or : OpR X (binaryOp .BitOr) (rI0 fun i j => .int (Builtin.bitOr i j)) := opI0 fun _ _ _ _ _ _ _ q => or_int q
theorem op_xor : OpR X (binaryOp .BitXor) (rI0 fun i j => .int (Builtin.bitXor i j)) := opI0 fun _ _ _ _ _ _ _ q => xor_int q

theorem iop_add : OpR X (inplaceOp .Add) (rI0 fun i j => .int (i + j)) := opI0 fun _ _ _ _ _ _ _ q => iadd_int q
theorem iop_sub : OpR X (inplaceOp .Sub) (rI0 fun i j => .int (i - j)) := opI0 fun _ _ _ _ _ _ _ q => isub_int q
theorem iop_mul : OpR X (inplaceOp .Mult) (rI CMul fun i j => .int (i * j)) := opI fun _ _ _ _ _ _ _ hc q => imul_int q hc.ok
theorem iop_fdiv : OpR X (inplaceOp .FloorDiv) (rI CDiv fun i j => .int (i / j)) := opI fun i j _ _ _ _ _ hc q => by
  have h1 : (0 : Int) < j := hc.1
  have h2 : j < 1073741824 := hc.2
  exact ifloordiv_int (by omega) (by rw [Int.fdiv_eq_ediv_of_nonneg i (by omega)]; exact q) (.inl (PyProof.noPylong_small (by omega)))
theorem iop_mod : OpR X (inplaceOp .Mod) (rI (fun _ j => 0 < j) fun i j => .int (i % j)) := opI fun i j _ _ _ _ _ hc q => by
  have h1 : (0 : Int) < j := hc
  exact imod_int (by omega) (by rw [Int.fmod_eq_emod_of_nonneg i (by omega)]; exact q)
theorem iop_shl : OpR X (inplaceOp .LShift) (rI CPow fun i j => .int (i * 2 ^ j.toNat)) := opI fun _ _ _ _ _ _ _ hc q => ilshift_int_small hc.1 hc.2.1 hc.2.2 q
theorem iop_shr : OpR X (inplaceOp .RShift) (rI (fun _ j => 0 ≤ j) fun i j => .int (i / 2 ^ j.toNat)) := opI fun i j _ _ _ _ _ hc q =>
  irshift_int hc (by rw [Int.fdiv_eq_ediv_of_nonneg i (two_pow_nn _)]; exact q)
theorem iop_and : OpR X (inplaceOp .BitAnd) (rI0 fun i j => .int (Builtin.bitAnd i j)) := opI0 fun _ _ _ _ _ _ _ q => iand_int q
theorem iop_or : OpR X (inplaceOp .BitOr) (rI0 fun i j => .int (Builtin.bitOr i j)) := opI0 fun _ _ _ _ _ _ _ q => ior_int q
theorem iop_xor : OpR X (inplaceOp .BitXor) (rI0 fun i j => .int (Builtin.bitXor i j)) := opI0 fun _ _ _ _ _ _ _ q => ixor_int q

theorem unI {f : Value → Sem Value} {g : Int → Int}
    (rule : ∀ (i : Int) (t : Tok) (s : Shared) (Q : Value → Shared → Prop) (E : Value → Shared → Prop), Q (.int (g i) s.toks) { s with toks := s.toks + 1 } → wpAny (model X.prog X.w) X.A (f (.int i t)) Q E s) :
    UnR X f (rU fun i => .int (g i)) := by
  intro pins s σ H x v Q I rx h
  obtain ⟨i, rfl, q⟩ := h
  obtain ⟨t, rfl⟩ := rx
  exact rule i t s _ _ ⟨.int (g i), H, I.tok _, ⟨_, rfl⟩, q⟩
theorem un_neg : UnR X (unaryOp .USub) (rU fun i => .int (-i)) := unI fun _ _ _ _ _ q => neg_int q
theorem un_inv : UnR X (unaryOp .Invert) (rU fun i => .int (Builtin.bitNot i)) := unI fun _ _ _ _ _ q => invert_int q

/-! ### bools among ints: n += (a < b) -/
theorem op_add_ib : OpR X (binaryOp .Add) (fun x y H Q => ∃ i k, x = .int i ∧ y = .bl k ∧ Q (.int (i + b2i k)) H) := by
  intro pins s σ H x y v u Q I rx ry h
  obtain ⟨i, k, rfl, rfl, q⟩ := h
  obtain ⟨t, rfl⟩ := rx
  cases ry
  exact add_int_bool ⟨.int (i + b2i k), H, I.tok _, ⟨_, rfl⟩, q⟩
end

/-! ### comparisons -/
/-- the scalars that == tells apart as data does -/
def scal : V → V → Bool
  | .non, .non => true | .non, .int _ => true | .int _, .non => true | .non, .bl _ => true | .bl _, .non => true | .non, .str _ => true | .str _, .non => true
  | .int _, .int _ => true | .bl _, .bl _ => true | .str _, .str _ => true | .byt _, .byt _ => true
  | .int _, .str _ => true | .str _, .int _ => true | .bl _, .str _ => true | .str _, .bl _ => true
  | _, _ => false
def rEq : R2 := fun x y H Q => scal x y = true ∧ Q (.bl (decide (x = y))) H
def rNe : R2 := fun x y H Q => scal x y = true ∧ Q (.bl (!decide (x = y))) H

theorem dec_int {i j : Int} : decide (V.int i = V.int j) = (i == j) := by
  rw [Bool.eq_iff_iff]
  simp
theorem dec_bl {i j : Bool} : decide (V.bl i = V.bl j) = (i == j) := by
  rw [Bool.eq_iff_iff]
  simp
theorem dec_str {i j : Str} : decide (V.str i = V.str j) = (i == j) := by
  rw [Bool.eq_iff_iff]
  simp
theorem dec_byt {i j : Array UInt8} : decide (V.byt i = V.byt j) = (i.toList == j.toList) := by
  rw [Bool.eq_iff_iff]
  cases i
  cases j
  simp

section
variable {X : Cx} {a b c : Expr} {ta tb tc : TE} {pos : Pos}
theorem fin_bl {pins : List (Addr × Obj)} {σ : St} {H : Hp} {s : Shared} {Q : VK} {k k' : Bool} (I : Inv X pins σ H s) (q : Q (.bl k) H) (e : k = k') : EP X pins σ Q (.bool k') s := by
  subst e
  exact ⟨.bl k, H, I, rfl, q⟩
theorem op_eq : OpR X (compareOp .Eq) rEq := by
  intro pins s σ H x y v u Q I rx ry h
  obtain ⟨hs, q⟩ := h
  cases x with
  | non =>
    cases rx
    cases y with
    | non => cases ry; exact PySem.EqNone.eq_none_none (fin_bl I q (by simp))
    | bl j => cases ry; exact PySem.EqNone.eq_none_bool (fin_bl I q (by simp))
    | int j => obtain ⟨t', rfl⟩ := ry; exact PySem.EqNone.eq_none_int (fin_bl I q (by simp))
    | str j => obtain ⟨t', rfl⟩ := ry; exact PySem.EqNone.eq_none_str (fin_bl I q (by simp))
    | _ => exact absurd (show false = true from hs) Bool.false_ne_true
  | bl i =>
    cases rx
    cases y with
    | non => cases ry; exact PySem.EqNone.eq_bool_none (fin_bl I q (by simp))
    | bl j => cases ry; exact eq_bool (fin_bl I q dec_bl)
    | str j => obtain ⟨t', rfl⟩ := ry; exact PySem.EqMixed.eq_bool_str (fin_bl I q (by simp))
    | _ => exact absurd (show false = true from hs) Bool.false_ne_true
  | int i =>
    obtain ⟨t, rfl⟩ := rx
    cases y with
    | non => cases ry; exact PySem.EqNone.eq_int_none (fin_bl I q (by simp))
    | int j => obtain ⟨t', rfl⟩ := ry; exact eq_int (fin_bl I q dec_int)
    | str j => obtain ⟨t', rfl⟩ := ry; exact PySem.EqMixed.eq_int_str (fin_bl I q (by simp))
    | _ => exact absurd (show false = true from hs) Bool.false_ne_true
  | str i =>
    obtain ⟨t, rfl⟩ := rx
    cases y with
    | non => cases ry; exact PySem.EqNone.eq_str_none (fin_bl I q (by simp))
    | bl j => cases ry; exact PySem.EqMixed.eq_str_bool (fin_bl I q (by simp))
    | int j => obtain ⟨t', rfl⟩ := ry; exact PySem.EqMixed.eq_str_int (fin_bl I q (by simp))
    | str j => obtain ⟨t', rfl⟩ := ry; exact eq_str (fin_bl I q dec_str)
    | _ => exact absurd (show false = true from hs) Bool.false_ne_true
  | byt i =>
    obtain ⟨t, rfl⟩ := rx
    cases y with
    | byt j => obtain ⟨t', rfl⟩ := ry; exact PySem.W.eq_bytes (fin_bl I q dec_byt)
    | _ => exact absurd (show false = true from hs) Bool.false_ne_true
  | _ => cases y <;> exact absurd (show false = true from hs) Bool.false_ne_true
theorem op_ne : OpR X (compareOp .NotEq) rNe := by
  intro pins s σ H x y v u Q I rx ry h
  obtain ⟨hs, q⟩ := h
  cases x with
  | non =>
    cases rx
    cases y with
    | non => cases ry; exact PySem.EqNone.ne_none_none (fin_bl I q (by simp))
    | bl j => cases ry; exact PySem.EqNone.ne_none_bool (fin_bl I q (by simp))
    | int j => obtain ⟨t', rfl⟩ := ry; exact PySem.EqNone.ne_none_int (fin_bl I q (by simp))
    | str j => obtain ⟨t', rfl⟩ := ry; exact PySem.EqNone.ne_none_str (fin_bl I q (by simp))
    | _ => exact absurd (show false = true from hs) Bool.false_ne_true
  | bl i =>
    cases rx
    cases y with
    | non => cases ry; exact PySem.EqNone.ne_bool_none (fin_bl I q (by simp))
    | bl j => cases ry; exact ne_bool (fin_bl I q (congrArg not dec_bl))
    | str j => obtain ⟨t', rfl⟩ := ry; exact PySem.EqMixed.ne_bool_str (fin_bl I q (by simp))
    | _ => exact absurd (show false = true from hs) Bool.false_ne_true
  | int i =>
    obtain ⟨t, rfl⟩ := rx
    cases y with
    | non => cases ry; exact PySem.EqNone.ne_int_none (fin_bl I q (by simp))
    | int j => obtain ⟨t', rfl⟩ := ry; exact ne_int (fin_bl I q (congrArg not dec_int))
    | str j => obtain ⟨t', rfl⟩ := ry; exact PySem.EqMixed.ne_int_str (fin_bl I q (by simp))
    | _ => exact absurd (show false = true from hs) Bool.false_ne_true
  | str i =>
    obtain ⟨t, rfl⟩ := rx
    cases y with
    | non => cases ry; exact PySem.EqNone.ne_str_none (fin_bl I q (by simp))
    | bl j => cases ry; exact PySem.EqMixed.ne_str_bool (fin_bl I q (by simp))
    | int j => obtain ⟨t', rfl⟩ := ry; exact PySem.EqMixed.ne_str_int (fin_bl I q (by simp))
    | str j => obtain ⟨t', rfl⟩ := ry; exact ne_str (fin_bl I q (congrArg not dec_str))
    | _ => exact absurd (show false = true from hs) Bool.false_ne_true
  | byt i =>
    obtain ⟨t, rfl⟩ := rx
    cases y with
    | byt j => obtain ⟨t', rfl⟩ := ry; exact PySem.W.ne_bytes (fin_bl I q (congrArg not dec_byt))
    | _ => exact absurd (show false = true from hs) Bool.false_ne_true
  | _ => cases y <;> exact absurd (show false = true from hs) Bool.false_ne_true

theorem op_lt : OpR X (compareOp .Lt) (rI0 fun i j => .bl (decide (i < j))) := opB0 fun _ _ _ _ _ _ _ q => lt_int q
theorem op_le : OpR X (compareOp .LtE) (rI0 fun i j => .bl (decide (i ≤ j))) := opB0 fun _ _ _ _ _ _ _ q => le_int q
theorem op_gt : OpR X (compareOp .Gt) (rI0 fun i j => .bl (decide (j < i))) := opB0 fun _ _ _ _ _ _ _ q => gt_int q
theorem op_ge : OpR X (compareOp .GtE) (rI0 fun i j => .bl (decide (j ≤ i))) := opB0 fun _ _ _ _ _ _ _ q => ge_int q
theorem op_lt_str : OpR X (compareOp .Lt) (fun x y H Q => ∃ i j, x = .str i ∧ y = .str j ∧ Q (.bl (decide (i.cps.toList < j.cps.toList))) H) := by
  intro pins s σ H x y v u Q I rx ry h
  obtain ⟨i, j, rfl, rfl, q⟩ := h
  obtain ⟨t, rfl⟩ := rx
  obtain ⟨t', rfl⟩ := ry
  exact lt_str (fin_bl I q rfl)
/-- the one string within the other -/
theorem op_in_str : OpR X (compareOp .In) (fun x y H Q => ∃ i j, x = .str i ∧ y = .str j ∧ Q (.bl (!(Builtin.Str.occurrences j i 0 j.length 1).isEmpty)) H) := by
  intro pins s σ H x y v u Q I rx ry h
  obtain ⟨i, j, rfl, rfl, q⟩ := h
  obtain ⟨t, rfl⟩ := rx
  obtain ⟨t', rfl⟩ := ry
  exact in_str (fin_bl I q rfl)

/-- is None, is not None: the right side a value none -/
theorem op_isN : OpR X (compareOp .Is) (fun x y H Q => y = .non ∧ Q (.bl (decide (x = .non))) H) := by
  intro pins s σ H x y v u Q I rx ry h
  obtain ⟨rfl, q⟩ := h
  cases ry
  refine is_none_gen (fin_bl I q ?_)
  cases x <;> first
    | (cases rx; rfl)
    | (obtain ⟨t, rfl⟩ := rx; rfl)
theorem op_notN : OpR X (compareOp .IsNot) (fun x y H Q => y = .non ∧ Q (.bl (!decide (x = .non))) H) := by
  intro pins s σ H x y v u Q I rx ry h
  obtain ⟨rfl, q⟩ := h
  cases ry
  refine isnot_none_gen (fin_bl I q ?_)
  cases x <;> first
    | (cases rx; rfl)
    | (obtain ⟨t, rfl⟩ := rx; rfl)

theorem op_notin_str : OpR X (compareOp .NotIn) (fun x y H Q => ∃ i j, x = .str i ∧ y = .str j ∧ Q (.bl (!(!(Builtin.Str.occurrences j i 0 j.length 1).isEmpty))) H) := by
  intro pins s σ H x y v u Q I rx ry h
  obtain ⟨i, j, rfl, rfl, q⟩ := h
  obtain ⟨t, rfl⟩ := rx
  obtain ⟨t', rfl⟩ := ry
  exact notIn_str (fin_bl I q rfl)
/-- is, is not of two objects that are tracked lists or instances -/
def isObj : HO → Bool
  | .lst _ => true
  | .ins _ _ _ => true
  | _ => false
theorem obj_there {pins : List (Addr × Obj)} {s : Shared} {σ : St} {H : Hp} {a : Addr} {o : HO} (I : Inv X pins σ H s) (h : H a = some o) (p : isObj o = true) : ∃ ob, s.heap.get? a = some ob ∧ ob.cls ≠ .type "tuple" := by
  cases o with
  | lst xs =>
    obtain ⟨_, its, n, _, e⟩ : xs.length ≤ sizeLine ∧ ∃ (its : List Value) (n : Nat), Vals xs its ∧ s.heap.get? a = some { cls := .type "list", data := .seq its.toArray n } := I.hok a _ h
    exact ⟨_, e, (by show Value.type "list" ≠ .type "tuple"; decide +kernel)⟩
  | ins C dx fs =>
    have x := I.hok a _ h
    obtain ⟨_, _, _, e, _⟩ := x
    exact ⟨_, e, (by show Value.ref C ≠ .type "tuple"; exact fun z => by cases z)⟩
  | _ => exact absurd (show false = true from p) Bool.false_ne_true
theorem op_is_ref : OpR X (compareOp .Is) (fun x y H Q => ∃ a b oa ob, x = .ref a ∧ y = .ref b ∧ H a = some oa ∧ isObj oa = true ∧ H b = some ob ∧ isObj ob = true ∧ Q (.bl (decide (a = b))) H) := by
  intro pins s σ H x y v u Q I rx ry h
  obtain ⟨a, b, oa, ob, rfl, rfl, ha, pa, hb, pb, q⟩ := h
  cases rx
  cases ry
  obtain ⟨o1, e1, n1⟩ := obj_there I ha pa
  obtain ⟨o2, e2, _⟩ := obj_there I hb pb
  by_cases z : a = b
  · subst z
    exact wpAny_is_ref_self (fin_bl I q (by simp))
  · exact wpAny_is_ref_other z e1 e2 n1 (fin_bl I q (by simp [z]))
theorem op_isnot_ref : OpR X (compareOp .IsNot) (fun x y H Q => ∃ a b oa ob, x = .ref a ∧ y = .ref b ∧ H a = some oa ∧ isObj oa = true ∧ H b = some ob ∧ isObj ob = true ∧ Q (.bl (!decide (a = b))) H) := by
  intro pins s σ H x y v u Q I rx ry h
  obtain ⟨a, b, oa, ob, rfl, rfl, ha, pa, hb, pb, q⟩ := h
  cases rx
  cases ry
  obtain ⟨o1, e1, n1⟩ := obj_there I ha pa
  obtain ⟨o2, e2, _⟩ := obj_there I hb pb
  by_cases z : a = b
  · subst z
    exact wpAny_isNot_ref_self (fin_bl I q (by simp))
  · exact wpAny_isNot_ref_other z e1 e2 n1 (fin_bl I q (by simp [z]))

/-- two rules for one operation: by cases -/
theorem OpR.or {f : Value → Value → Sem Value} {r r' : R2} (h : OpR X f r) (h' : OpR X f r') : OpR X f (fun x y H Q => r x y H Q ∨ r' x y H Q) := by
  intro pins s σ H x y v u Q I rx ry q
  rcases q with q | q
  · exact h pins s σ H x y v u Q I rx ry q
  · exact h' pins s σ H x y v u Q I rx ry q

theorem nomark (b : Expr) {op : CmpOp} (h : op ≠ .In := by decide) (h2 : op ≠ .NotIn := by decide) : behindInMarks op b = false := by
  have e1 : (op == CmpOp.In) = false := by cases op <;> first | rfl | exact absurd rfl h
  have e2 : (op == CmpOp.NotIn) = false := by cases op <;> first | rfl | exact absurd rfl h2
  cases b <;> simp [behindInMarks, e1, e2]
/-- a comparison as a value; hm: nomark b, or (for in, not in) by with_unfolding_all rfl -/
theorem pe_cmpR {op : CmpOp} {r : R2} (ho : OpR X (compareOp op) r) (ha : PE X a ta) (hb : PE X b tb) (hm : behindInMarks op b = false) : PE X (.Compare a [op] [b] pos) (tOp r ta tb) := by
  intro pins s σ H Q I h
  exact wpAny_Compare1 (binT ha hb I h fun v u s2 x y H2 I2 rx ry q => ho pins s2 σ H2 x y v u Q I2 rx ry q) hm
/-- a reading of a value as a test -/
def tTest (t : TE) : TT := fun σ H Q => t σ H fun x H' => ∃ k, x = .bl k ∧ Q k H'
theorem pt_cmpR {op : CmpOp} {r : R2} (ho : OpR X (compareOp op) r) (ha : PE X a ta) (hb : PE X b tb) (hm : behindInMarks op b = false) : PT X (.Compare a [op] [b] pos) (tTest (tOp r ta tb)) := by
  intro pins s σ H Q I h
  refine wpAny_isTrue_Compare1 (thn (ha pins s σ H _ I h) fun v s1 ⟨x, H1, I1, r1, q1⟩ => thn (hb pins s1 σ H1 _ I1 q1) fun u s2 ⟨y, H2, I2, r2, q2⟩ =>
    thn (ho pins s2 σ H2 x y v u _ I2 r1 r2 q2) fun c s3 ⟨z, H3, I3, r3, k, e, q3⟩ => ?_) hm
  subst e
  cases r3
  exact wpAny_truthy_bool ⟨H3, I3, q3⟩
/-- a op1 b op2 c -/
def tChain (r r' : R2) (ta tb tc : TE) : TE := fun σ H Q => ta σ H fun x H1 => tb σ H1 fun y H2 => r x y H2 fun z H3 => ∃ k, z = .bl k ∧
  (if k = true then tc σ H3 fun w' H4 => r' y w' H4 Q else Q (.bl false) H3)
theorem pe_chain {op op' : CmpOp} {r r' : R2} (ho : OpR X (compareOp op) r) (ho' : OpR X (compareOp op') r') (ha : PE X a ta) (hb : PE X b tb) (hc : PE X c tc)
    (hm : lastMarks [op, op'] [b, c] = false := by with_unfolding_all rfl) : PE X (.Compare a [op, op'] [b, c] pos) (tChain r r' ta tb tc) := by
  intro pins s σ H Q I h
  refine Compare_chain (thn (ha pins s σ H _ I h) fun v s1 ⟨x, H1, I1, r1, q1⟩ => chain_link (thn (hb pins s1 σ H1 _ I1 q1) fun u s2 ⟨y, H2, I2, r2, q2⟩ =>
    thn (ho pins s2 σ H2 x y v u _ I2 r1 r2 q2) fun d s3 ⟨z, H3, I3, r3, k, e, q3⟩ => ?_)) hm
  subst e
  cases r3
  refine wpAny_truthy_bool ?_
  cases k with
  | false => exact ite_ff ⟨.bl false, H3, I3, rfl, q3⟩
  | true => exact ite_tt (chain_last (thn (hc pins s3 σ H3 _ I3 q3) fun w' s4 ⟨z', H4, I4, r4, q4⟩ => ho' pins s4 σ H4 y z' u w' Q I4 r2 r4 q4))
theorem pt_chain {op op' : CmpOp} {r r' : R2} (ho : OpR X (compareOp op) r) (ho' : OpR X (compareOp op') r') (ha : PE X a ta) (hb : PE X b tb) (hc : PE X c tc)
    (hm : lastMarks [op, op'] [b, c] = false := by with_unfolding_all rfl) : PT X (.Compare a [op, op'] [b, c] pos) (tTest (tChain r r' ta tb tc)) := by
  intro pins s σ H Q I h
  refine isTrue_chain (thn (ha pins s σ H _ I h) fun v s1 ⟨x, H1, I1, r1, q1⟩ => test_link (thn (hb pins s1 σ H1 _ I1 q1) fun u s2 ⟨y, H2, I2, r2, q2⟩ =>
    thn (ho pins s2 σ H2 x y v u _ I2 r1 r2 q2) fun d s3 ⟨z, H3, I3, r3, k, e, q3⟩ => ?_)) hm
  subst e
  cases r3
  refine wpAny_truthy_bool ?_
  cases k with
  | false =>
    obtain ⟨k', e', q'⟩ := q3
    cases e'
    exact ite_ff ⟨H3, I3, q'⟩
  | true =>
    refine ite_tt (test_last (thn (hc pins s3 σ H3 _ I3 q3) fun w' s4 ⟨z', H4, I4, r4, q4⟩ => thn (ho' pins s4 σ H4 y z' u w' _ I4 r2 r4 q4) fun d' s5 ⟨z2, H5, I5, r5, k2, e2, q5⟩ => ?_))
    subst e2
    cases r5
    exact wpAny_truthy_bool ⟨H5, I5, q5⟩

/-! ### truth -/
/-- a value's truth by the abstract heap -/
def TruV (K : PySem.W.Frag) (x : V) (H : Hp) (k : Bool) : Prop :=
  match x with
  | .non => k = false
  | .bl b => k = b
  | .int i => k = (i != 0)
  | .str y => y.length ≤ sizeLine ∧ k = ((y.length : Int) != 0)
  | .byt y => y.size ≤ sizeLine ∧ k = ((y.size : Int) != 0)
  | .ref p => (∃ xs, SqL K H p xs ∧ k = !xs.isEmpty) ∨ (∃ xs, SqT K H p xs ∧ k = !xs.isEmpty) ∨ ∃ kvs, H p = some (.dK kvs) ∧ k = !kvs.isEmpty
  | _ => False
theorem isEmpty_kv {κ : Type} {kvs : List (κ × V)} {vs : List (κ × Value)} (r : KV kvs vs) : (!vs.isEmpty) = !kvs.isEmpty := by
  cases r <;> rfl
theorem isEmpty_of {xs : List V} {its : List Value} (r : Vals xs its) : (!its.toArray.isEmpty) = !xs.isEmpty := by
  cases r <;> simp
theorem line63 : (sizeLine : Nat) < 2 ^ 63 := by rw [sizeLine_eq]; decide
theorem tru_ok : TruR X (fun x H Q => ∃ k, TruV X.K x H k ∧ Q k H) := by
  intro pins s σ H x v Q I rx h
  obtain ⟨k, e, q⟩ := h
  have hl := line63
  have hs : sizeLine = 16777216 := sizeLine_eq
  cases x with
  | non =>
    cases rx
    have e' : k = false := e
    subst e'
    exact truthy_none ⟨H, I, q⟩
  | bl b =>
    cases rx
    have e' : k = b := e
    subst e'
    exact wpAny_truthy_bool ⟨H, I, q⟩
  | int i =>
    obtain ⟨t, rfl⟩ := rx
    have e' : k = (i != 0) := e
    subst e'
    exact PySem.P.truthy_int ⟨H, I, q⟩
  | str y =>
    obtain ⟨t, rfl⟩ := rx
    obtain ⟨hy, e'⟩ : y.length ≤ sizeLine ∧ k = ((y.length : Int) != 0) := e
    subst e'
    exact PySem.P.truthy_str (by omega) ⟨H, I.tok _, q⟩
  | byt y =>
    obtain ⟨t, rfl⟩ := rx
    obtain ⟨hy, e'⟩ : y.size ≤ sizeLine ∧ k = ((y.size : Int) != 0) := e
    subst e'
    exact PySem.W.truthy_bytes (by omega) ⟨H, I.tok _, q⟩
  | ref p =>
    cases rx
    have e' : (∃ xs, SqL X.K H p xs ∧ k = !xs.isEmpty) ∨ (∃ xs, SqT X.K H p xs ∧ k = !xs.isEmpty) ∨ ∃ kvs, H p = some (.dK kvs) ∧ k = !kvs.isEmpty := e
    rcases e' with ⟨xs, hx, e'⟩ | ⟨xs, hx, e'⟩ | ⟨kvs, hx, e'⟩
    · subst e'
      obtain ⟨its, r, pl, hz⟩ := I.list hx
      have hlen := r.length
      exact wpAny_truthy_list pl.isList (by simp only [List.size_toArray]; omega) ⟨H, I.tok _, by rw [isEmpty_of r]; exact q⟩
    · subst e'
      obtain ⟨its, r, pl, hz⟩ := I.tuple hx
      have hlen := r.length
      exact truthy_tuple pl (by simp only [List.size_toArray]; omega) ⟨H, I.tok _, by rw [isEmpty_of r]; exact q⟩
    · subst e'
      obtain ⟨hz, hS, vs, r, m⟩ : kvs.length ≤ sizeLine ∧ (p == sysModules) = false ∧ ∃ vs, KV kvs vs ∧ s.heap.DictOf (mixKind X.prog X.w) p vs := I.hok p _ hx
      have hlen : kvs.length = vs.length := Paired.length r
      exact wpAny_truthy_dict hS m (by omega) ⟨H, I.tok _, by rw [isEmpty_kv r]; exact q⟩
  | _ => exact (show False from e).elim
/-- any expression whose test is its value's truth (a name, a call, a subscript, a field ..: he by fun _ => rfl) -/
theorem pt_truth (ha : PE X a ta) (he : ∀ whole, isTrue a X.env whole = (do let v ← whole; standAt a.pos; holding [v] (truthy v))) :
    PT X a (fun σ H Q => ta σ H fun x H' => ∃ k, TruV X.K x H' k ∧ Q k H') := by
  intro pins s σ H Q I h
  exact isTrue_plain (thn (ha pins s σ H _ I h) fun v s1 ⟨x, H1, I1, r1, q1⟩ => tru_ok pins s1 σ H1 x v Q I1 r1 q1) (he _)

/-! ### strs and bytes -/
theorem pe_byt {x : List UInt8} {k : Nat} : PE X (.Constant (.bytes x) k pos) (fun _ H Q => Q (.byt x.toArray) H) := fun _ _ _ H _ I h => PySem.W.Constant_bytes ⟨.byt x.toArray, H, I.tok _, ⟨_, rfl⟩, h⟩
theorem op_add_str : OpR X (binaryOp .Add) (fun x y H Q => ∃ i j, x = .str i ∧ y = .str j ∧ i.length + j.length ≤ sizeLine ∧ Q (.str (i ++ j)) H) := by
  intro pins s σ H x y v u Q I rx ry h
  obtain ⟨i, j, rfl, rfl, hz, q⟩ := h
  obtain ⟨t, rfl⟩ := rx
  obtain ⟨t', rfl⟩ := ry
  exact add_str (fun t' tk => ⟨.str (i ++ j), H, I.tok _, ⟨_, rfl⟩, q⟩) hz
theorem iop_add_str : OpR X (inplaceOp .Add) (fun x y H Q => ∃ i j, x = .str i ∧ y = .str j ∧ i.length + j.length ≤ sizeLine ∧ Q (.str (i ++ j)) H) := by
  intro pins s σ H x y v u Q I rx ry h
  obtain ⟨i, j, rfl, rfl, hz, q⟩ := h
  obtain ⟨t, rfl⟩ := rx
  obtain ⟨t', rfl⟩ := ry
  exact iadd_str (fun t' tk => ⟨.str (i ++ j), H, I.tok _, ⟨_, rfl⟩, q⟩) hz
theorem op_add_byt : OpR X (binaryOp .Add) (fun x y H Q => ∃ i j, x = .byt i ∧ y = .byt j ∧ i.size + j.size ≤ 16777216 ∧ Q (.byt (i ++ j)) H) := by
  intro pins s σ H x y v u Q I rx ry h
  obtain ⟨i, j, rfl, rfl, hz, q⟩ := h
  obtain ⟨t, rfl⟩ := rx
  obtain ⟨t', rfl⟩ := ry
  exact PySem.W.KBy.add_bytes hz (fun t' tk => ⟨.byt (i ++ j), H, I.tok _, ⟨_, rfl⟩, q⟩)

def PlainIxT (b : Expr) : Prop := ∀ o i, subscripted b false o i = operate [o, i] (getItem o i)
/-- s[i], 0 ≤ i < len -/
theorem pe_item_str (ha : PE X a ta) (hb : PE X b tb) (hs : PlainIxT b) :
    PE X (.Subscript a b pos) (tOp (fun x y H Q => ∃ z i c, x = .str z ∧ y = .int i ∧ 0 ≤ i ∧ i < 2 ^ 63 ∧ i < z.length ∧ z.cps[i.toNat]? = some c ∧ Q (.str ⟨#[c]⟩) H) ta tb) := by
  intro pins s σ H Q I h
  refine Subscript_ (binT ha hb I h fun v u s2 x y H2 I2 rx ry q => ?_)
  obtain ⟨z, i, c, rfl, rfl, h0, h63, h1, hc, q⟩ := q
  obtain ⟨t, rfl⟩ := rx
  obtain ⟨t', rfl⟩ := ry
  have e : seqIndex? i z.length = some i.toNat := PySem.StrLaws.seqIndex_nonneg h0 h1
  exact tail_any (typeIs_str s2 z t) slot_str_getitem.lookup (getItem_str (c := c) (by
    have e1 : decide (i < -(2 ^ 63 : Int)) = false := decide_eq_false (by omega)
    have e2 : decide (i ≥ 2 ^ 63) = false := decide_eq_false (by omega)
    rw [e1, e2] <;> rfl) (by rw [e]; exact hc) ⟨.str ⟨#[c]⟩, H2, I2.tok _, ⟨_, rfl⟩, q⟩) (hs _ _)
/-- b[i], 0 ≤ i < len -/
theorem pe_item_byt (ha : PE X a ta) (hb : PE X b tb) (hs : PlainIxT b) :
    PE X (.Subscript a b pos) (tOp (fun x y H Q => ∃ (z : List UInt8) (i : Int), x = .byt z.toArray ∧ y = .int i ∧ z.length ≤ sizeLine ∧ 0 ≤ i ∧ i < z.length ∧ Q (.int ((z.getD i.toNat 0).toNat : Nat)) H) ta tb) := by
  intro pins s σ H Q I h
  refine Subscript_ (binT ha hb I h fun v u s2 x y H2 I2 rx ry q => ?_)
  obtain ⟨z, i, rfl, rfl, hz, h0, h1, q⟩ := q
  obtain ⟨t, rfl⟩ := rx
  obtain ⟨t', rfl⟩ := ry
  have hl : sizeLine = 16777216 := sizeLine_eq
  exact tail_any (PySem.W.typeIs_bytes s2 z.toArray t) PySem.W.FB.slot_bytes_getitem.lookup (PySem.W.getItem_bytes (by omega) h0 h1 ⟨.int ((z.getD i.toNat 0).toNat : Nat), H2, I2.tok _, ⟨_, rfl⟩, q⟩) (hs _ _)

/-! ### scalar builtins, by CallR -/
theorem vals1 {x : V} {us : List Value} (r : Vals [x] us) : ∃ u, us = [u] ∧ RelV x u := by
  cases r with
  | cons r1 r2 => cases r2; exact ⟨_, rfl, r1⟩
theorem vals2 {x y : V} {us : List Value} (r : Vals [x, y] us) : ∃ u w', us = [u, w'] ∧ RelV x u ∧ RelV y w' := by
  cases r with
  | cons r1 r2 =>
    cases r2 with
    | cons r3 r4 => cases r4; exact ⟨_, _, rfl, r1, r3⟩
theorem call_abs : CallR X (.builtin "abs") (fun xs H Q => ∃ i, xs = [.int i] ∧ Q (.int (if i < 0 then -i else i)) H) := by
  intro pins s σ H xs us Q I r h
  obtain ⟨i, rfl, q⟩ := h
  obtain ⟨u, rfl, t, rfl⟩ := vals1 r
  exact call_abs_int fun u tk => ⟨.int (if i < 0 then -i else i), H, I.tok _, ⟨_, rfl⟩, q⟩
theorem call_max2 (hc : X.calm = true) : CallR X (.builtin "max") (fun xs H Q => ∃ i j, xs = [.int i, .int j] ∧ Q (.int (if j > i then j else i)) H) := by
  intro pins s σ H xs us Q I r h
  obtain ⟨i, j, rfl, q⟩ := h
  obtain ⟨u, w', rfl, ⟨t, rfl⟩, ⟨t', rfl⟩⟩ := vals2 r
  refine max_two_ints (I.ok.hd hc) fun h' tk k => ⟨_, H, I.kept k, ?_, q⟩
  by_cases hj : j > i
  · rw [if_pos hj, if_pos hj]; exact ⟨_, rfl⟩
  · rw [if_neg hj, if_neg hj]; exact ⟨_, rfl⟩
theorem call_min2 (hc : X.calm = true) : CallR X (.builtin "min") (fun xs H Q => ∃ i j, xs = [.int i, .int j] ∧ Q (.int (if j < i then j else i)) H) := by
  intro pins s σ H xs us Q I r h
  obtain ⟨i, j, rfl, q⟩ := h
  obtain ⟨u, w', rfl, ⟨t, rfl⟩, ⟨t', rfl⟩⟩ := vals2 r
  refine min_two_ints (I.ok.hd hc) fun h' tk k => ⟨_, H, I.kept k, ?_, q⟩
  by_cases hj : j < i
  · rw [if_pos hj, if_pos hj]; exact ⟨_, rfl⟩
  · rw [if_neg hj, if_neg hj]; exact ⟨_, rfl⟩
theorem call_int1 : CallR X (.type "int") (fun xs H Q => (∃ i, xs = [.int i] ∧ Q (.int i) H) ∨ ∃ k, xs = [.bl k] ∧ Q (.int (if k then 1 else 0)) H) := by
  intro pins s σ H xs us Q I r h
  rcases h with ⟨i, rfl, q⟩ | ⟨k, rfl, q⟩
  · obtain ⟨u, rfl, t, rfl⟩ := vals1 r
    exact call_int_int ⟨.int i, H, I, ⟨_, rfl⟩, q⟩
  · obtain ⟨u, rfl, r1⟩ := vals1 r
    cases r1
    exact call_int_bool ⟨.int (if k then 1 else 0), H, I.tok _, ⟨_, rfl⟩, q⟩
theorem call_bool1 : CallR X (.type "bool") (fun xs H Q => (∃ i, xs = [.int i] ∧ Q (.bl (i != 0)) H) ∨ ∃ k, xs = [.bl k] ∧ Q (.bl k) H) := by
  intro pins s σ H xs us Q I r h
  rcases h with ⟨i, rfl, q⟩ | ⟨k, rfl, q⟩
  · obtain ⟨u, rfl, t, rfl⟩ := vals1 r
    exact call_bool_int ⟨.bl (i != 0), H, I, rfl, q⟩
  · obtain ⟨u, rfl, r1⟩ := vals1 r
    cases r1
    exact call_bool_bool ⟨.bl k, H, I, rfl, q⟩
theorem call_str_int : CallR X (.type "str") (fun xs H Q => ∃ i, xs = [.int i] ∧ i.natAbs.log2 < 1920 ∧ Q (.str (toString i)) H) := by
  intro pins s σ H xs us Q I r h
  obtain ⟨i, rfl, hz, q⟩ := h
  obtain ⟨u, rfl, t, rfl⟩ := vals1 r
  exact PySem.P.str_of_int hz ⟨.str _, H, I.tok _, ⟨_, rfl⟩, q⟩
theorem call_ord : CallR X (.builtin "ord") (fun xs H Q => ∃ x, xs = [.str x] ∧ x.length = 1 ∧ Q (.int (x.cps.getD 0 0 : Nat)) H) := by
  intro pins s σ H xs us Q I r h
  obtain ⟨x, rfl, hz, q⟩ := h
  obtain ⟨u, rfl, t, rfl⟩ := vals1 r
  exact ord_of_one hz ⟨.int _, H, I.tok _, ⟨_, rfl⟩, q⟩
theorem call_chr : CallR X (.builtin "chr") (fun xs H Q => ∃ i, xs = [.int i] ∧ 0 ≤ i ∧ i ≤ 1114111 ∧ Q (.str ⟨#[i.toNat]⟩) H) := by
  intro pins s σ H xs us Q I r h
  obtain ⟨i, rfl, h0, h1, q⟩ := h
  obtain ⟨u, rfl, t, rfl⟩ := vals1 r
  exact chr_of_range h0 h1 ⟨.str _, H, I.tok _, ⟨_, rfl⟩, q⟩
/-- len of a str, a bytes, a list, a tuple -/
def LenV (K : PySem.W.Frag) (x : V) (H : Hp) (n : Nat) : Prop :=
  match x with
  | .str y => y.length ≤ sizeLine ∧ n = y.length
  | .byt y => y.size ≤ sizeLine ∧ n = y.size
  | .ref p => (∃ xs, SqL K H p xs ∧ n = xs.length) ∨ ∃ xs, SqT K H p xs ∧ n = xs.length
  | _ => False
theorem call_len : CallR X (.builtin "len") (fun xs H Q => ∃ x n, xs = [x] ∧ LenV X.K x H n ∧ Q (.int n) H) := by
  intro pins s σ H xs us Q I r h
  obtain ⟨x, n, rfl, e, q⟩ := h
  obtain ⟨u, rfl, rx⟩ := vals1 r
  have hl := line63
  have hs : sizeLine = 16777216 := sizeLine_eq
  cases x with
  | str y =>
    obtain ⟨t, rfl⟩ := rx
    obtain ⟨hy, e'⟩ : y.length ≤ sizeLine ∧ n = y.length := e
    subst e'
    exact len_str (by omega) ⟨.int _, H, I.tok _, ⟨_, rfl⟩, q⟩
  | byt y =>
    obtain ⟨t, rfl⟩ := rx
    obtain ⟨hy, e'⟩ : y.size ≤ sizeLine ∧ n = y.size := e
    subst e'
    exact PySem.W.len_bytes (by omega) ⟨.int _, H, I.tok _, ⟨_, rfl⟩, q⟩
  | ref p =>
    cases rx
    have e' : (∃ xs, SqL X.K H p xs ∧ n = xs.length) ∨ ∃ xs, SqT X.K H p xs ∧ n = xs.length := e
    rcases e' with ⟨xs, hx, e'⟩ | ⟨xs, hx, e'⟩
    · subst e'
      obtain ⟨its, r', pl, hz⟩ := I.list hx
      have hlen := r'.length
      exact Calls.call_len_list pl.isList (by simp only [List.size_toArray]; omega) ⟨.int xs.length, H, I.tok _, ⟨_, by simp only [List.size_toArray]; rw [hlen]⟩, q⟩
    · subst e'
      obtain ⟨its, r', pl, hz⟩ := I.tuple hx
      have hlen := r'.length
      exact len_tuple pl (by simp only [List.size_toArray]; omega) ⟨.int xs.length, H, I.tok _, ⟨_, by simp only [List.size_toArray]; rw [hlen]⟩, q⟩
  | _ => exact (show False from e).elim
/-- divmod: a new tuple -/
theorem call_divmod : CallR X (.builtin "divmod") (fun xs H Q => ∃ i j, xs = [.int i, .int j] ∧ CDiv i j ∧ ∀ p, H p = none → Q (.ref p) (upd H p (.tup [.int (i / j), .int (i % j)]))) := by
  intro pins s σ H xs us Q I r h
  obtain ⟨i, j, rfl, ⟨h1, h2⟩, q⟩ := h
  obtain ⟨u, w', rfl, ⟨t, rfl⟩, ⟨t', rfl⟩⟩ := vals2 r
  refine divmod_int (by omega) ?_ (.inl (PyProof.noPylong_small (by omega)))
  rw [Int.fdiv_eq_ediv_of_nonneg i (by omega), Int.fmod_eq_emod_of_nonneg i (by omega)]
  have hn : H s.heap.objs.size = none := I.hok.fresh (Nat.le_refl _)
  refine ⟨.ref s.heap.objs.size, _, ?_, rfl, q _ hn⟩
  refine I.laid (fun b o e => Heap.get?_push_of_some _ e) (Nat.le_refl _) ⟨by simp only [List.length_cons, List.length_nil]; rw [sizeLine_eq]; decide, [.int (i / j) s.toks, .int (i % j) (s.toks + 1)], .cons ⟨_, rfl⟩ (.cons ⟨_, rfl⟩ .nil), ?_⟩
  exact ⟨_, Heap.get?_push_size s.heap rfl, rfl, 0, rfl⟩
end
end L2

namespace L2
open PySem PySem.Spec PyProof.Rows

/-! ### an instance, its attributes a map -/
structure ObjM (h : Heap) (x dx C : Addr) (mA : Str → Option Value) : Prop where
  obj : h.get? x = some (PySem.W.instObj C dx)
  ns : h.Ns1 dx mA
  ne : dx ≠ x

theorem lookIn_ns {h : Heap} {dx : Addr} {mA : Str → Option Value} (n : h.Ns1 dx mA) : ∃ od, h.get? dx = some od ∧ ∀ name, PySem.W.lookIn name od = some (mA name) := by
  obtain ⟨o, es, ep, ho, hd, hk, _, hm⟩ := n
  refine ⟨o, ho, fun name => ?_⟩
  have e := hm name
  unfold nsFind findBy at e
  rw [← Array.find?_toList] at e
  unfold PySem.W.lookIn
  rw [hd]
  dsimp only
  split
  · rename_i y q
    rw [q] at e
    exact congrArg some e
  · rename_i q
    rw [q] at e
    have a : es.toList.any (·.refKey) = false := by
      rw [List.any_eq_false]
      intro y hy
      obtain ⟨z, t, hkey⟩ := hk y (Array.mem_toList_iff.mp hy)
      simp [DictEntry.refKey, hkey]
    have a' : ¬ es.toList.any (·.refKey) = true := by rw [a]; exact Bool.false_ne_true
    rw [if_neg a']
    exact congrArg some e

theorem ObjM.look {h : Heap} {x dx C : Addr} {mA : Str → Option Value} (I : ObjM h x dx C mA) : ∃ od, PySem.W.InstAt h x (PySem.W.instObj C dx) C (some od) ∧ ∀ name, PySem.W.lookIn name od = some (mA name) :=
  let ⟨od, ho, hl⟩ := lookIn_ns I.ns
  ⟨od, ⟨I.obj, rfl, rfl, ho⟩, hl⟩

section
variable {prog : Program} {w : World} {A : Around} {E : Value → Shared → Prop} {s : Shared} {K : PySem.W.Frag} {x dx C f : Addr} {mA : Str → Option Value} {name : Str} {v : Value}

theorem get_map {expr : Bool} {Q : Value → Shared → Prop} (X : K.In s.heap) (I : ObjM s.heap x dx C mA) (hg : PySem.W.plainGet K C name = true) (hh : PySem.W.hasDictIn K C = true)
    (ha : PySem.W.findIn K (.ref C) name = some none) (hv : mA name = some v) (hv' : PySem.W.handedIn v = true) (h : Q v { s with toks := s.toks + 1 }) :
    wpAny (model prog w) A (getAttr (.ref x) name expr) Q E s := by
  obtain ⟨od, J, hl⟩ := I.look
  exact PySem.W.get_value X J (PySem.W.plainGet_of hg).1 (PySem.W.findObj_own hh ha rfl (by rw [hl, hv])) hv' h

theorem get_const {expr : Bool} {a : Value} {Q : Value → Shared → Prop} (X : K.In s.heap) (I : ObjM s.heap x dx C mA) (hg : PySem.W.plainGet K C name = true) (hh : PySem.W.hasDictIn K C = true)
    (ha : PySem.W.findIn K (.ref C) name = some (some a)) (hn : PySem.W.specialIn K a "__get__" = some none) (hc : PySem.W.copiedNames.contains name = false) (hv : mA name = none) (hv' : PySem.W.handedIn a = true)
    (h : Q a { s with toks := s.toks + 1 }) : wpAny (model prog w) A (getAttr (.ref x) name expr) Q E s := by
  obtain ⟨od, J, hl⟩ := I.look
  exact PySem.W.get_value X J (PySem.W.plainGet_of hg).1 (PySem.W.findObj_cls hh ha hn hv' hc (by rw [hl, hv])) hv' h

theorem get_meth {pl : Sem Bool} {Q : Value × List Value → Shared → Prop} (X : K.In s.heap) (I : ObjM s.heap x dx C mA) (hg : PySem.W.plainGet K C name = true)
    (hf : PySem.W.findIn K (.ref C) name = some (some (.ref f))) (ht : PySem.W.isFn K (.ref f) = true) (hv : mA name = none) (h : Q (.ref f, [.ref x]) s) :
    wpAny (model prog w) A (getMethod (.ref x) name pl) Q E s := by
  obtain ⟨od, J, hl⟩ := I.look
  exact PySem.W.method_fn X J (PySem.W.plainGet_of hg).1 (PySem.W.plainGet_of hg).2 hf (beq_iff_eq.mp ht) (by show (PySem.W.lookIn name od).map (·.isSome) = some false; rw [hl, hv]; rfl) h

theorem set_map {ns : List Str} {Q : Unit → Shared → Prop} (X : K.In s.heap) (I : ObjM s.heap x dx C mA)
    (hs : PySem.W.findIn K (.ref C) "__setattr__" = some (some (.builtin "object.__setattr__"))) (hp : PySem.W.plainOver K C = true) (ht : PySem.W.takerIn K C name = some none) (hh : PySem.W.hasDictIn K C = true)
    (hw : PySem.Within mA ns) (hsz : ns.length ≤ sizeLine)
    (h : ∀ h', ObjM h' x dx C (fun y => if y = name then some v else mA y) → Heap.SameBut dx s.heap h' → Q () { s with heap := h', toks := s.toks + 2 }) :
    wpAny (model prog w) A (setAttr (.ref x) name v) Q E s := by
  obtain ⟨od, J, hl⟩ := I.look
  refine PySem.W.set_plain X J hs (PySem.W.osa_open (s := { s with toks := s.toks + 1 }) (r := none) X J hp ht fun b => ?_)
  obtain ⟨cd, hc, hd'⟩ := PySem.W.any_some hh
  have hx : s.heap.get? x = some ⟨.ref C, some dx, .plain, #[]⟩ := I.obj
  refine wpAny_bind (wpAny_pure (wpAny_bind (wpAny_bind (wpAny_loadPart hx (wpAny_bind (PySem.W.Looks.here (s := { s with toks := s.toks + 1 }) (PySem.W.looks_clsIn X hc) ?_))))))
  rw [hd']
  refine wpAny_pure (a := some dx) (wpAny_bind (wpAny_pure (wpAny_bind ?_)))
  refine wpAny_nsSet1 (s := { s with toks := s.toks + 1 }) I.ns fun h' hn2 hs2 => ?_
  obtain ⟨oD, esD, epD, hoD, hdD, hcD⟩ := hn2.count (PySem.Within.cons name v hw)
  refine wpAny_bind (wpAny_lookBehind hoD (by rw [hdD]; exact pastItsLine_dict (Nat.le_trans hcD (by rw [List.length_cons]; omega))) ?_)
  exact wpAny_pure (h _ ⟨(hs2.2 _ (Ne.symm I.ne)).trans I.obj, hn2, I.ne⟩ hs2)

/-- C(..): the dict at the heap's end, the instance behind it; then its __init__ -/
theorem make_map {R : Result → Shared → Prop} {vs : List Value} {kw : List (Str × Value)} (X : K.In s.heap) (hm : PySem.W.makesIn K C = true)
    (hi : PySem.W.findIn K (.ref C) "__init__" = some (some (.ref f))) (hf : PySem.W.typeIn K (.ref f) = some (.type "function"))
    (h : codeAny (model prog w) (A.under (.builtin "type.__call__" ⟨.ref C :: vs, kw⟩)) (.call (.ref f) ⟨.ref (s.heap.objs.size + 1) :: vs, kw⟩) (PySem.W.InitBack (s.heap.objs.size + 1) R)
      { s with heap := (s.heap.push PySem.W.emptyDict).push (PySem.W.instObj C s.heap.objs.size) }) :
    codeAny (model prog w) A (.call (.ref C) ⟨vs, kw⟩) R s := by
  obtain ⟨hh, g, d, t, os⟩ := s
  exact PySem.W.make_core (PySem.W.makes_of X hm) (PySem.W.looks_findIn X hi) (fun self => PySem.W.bind_fn X self hf) (.inl rfl) h
/-- C() where there is no __init__ but object's -/
theorem make_map0 {R : Result → Shared → Prop} (X : K.In s.heap) (hm : PySem.W.makesIn K C = true)
    (hi : PySem.W.findIn K (.ref C) "__init__" = some (some (.builtin "object.__init__")))
    (hb : ∀ self, PySem.W.Looks (model prog w) s.heap (bindSpecial (.builtin "object.__init__") self) (.builtin "object.__init__", [self]))
    (h : codeAny (model prog w) (A.under (.builtin "type.__call__" ⟨[.ref C], []⟩)) (.call (.builtin "object.__init__") ⟨[.ref (s.heap.objs.size + 1)], []⟩) (PySem.W.InitBack (s.heap.objs.size + 1) R)
      { s with heap := (s.heap.push PySem.W.emptyDict).push (PySem.W.instObj C s.heap.objs.size) }) :
    codeAny (model prog w) A (.call (.ref C) ⟨[], []⟩) R s := by
  obtain ⟨hh, g, d, t, os⟩ := s
  exact PySem.W.make_core (PySem.W.makes_of X hm) (PySem.W.looks_findIn X hi) hb (.inr ⟨rfl, rfl⟩) h
end

/-! ### the attributes as a list of pairs -/
def putF (f : Str) (v : V) : List (Str × V) → List (Str × V)
  | [] => [(f, v)]
  | (g, x) :: r => if g = f then (g, v) :: r else (g, x) :: putF f v r
theorem lookup_putF (f g : Str) (v : V) : ∀ fs : List (Str × V), (putF f v fs).lookup g = if g = f then some v else fs.lookup g
  | [] => by
    show List.lookup g [(f, v)] = _
    by_cases h : g = f
    · have hb : (g == f) = true := beq_iff_eq.mpr h
      simp only [List.lookup, hb, if_pos h]
    · have hb : (g == f) = false := beq_eq_false_iff_ne.mpr h
      simp only [List.lookup, hb, if_neg h]
  | (k, x) :: r => by
    have ih := lookup_putF f g v r
    rw [show putF f v ((k, x) :: r) = (if k = f then (k, v) :: r else (k, x) :: putF f v r) from rfl]
    by_cases hk : k = f
    · rw [if_pos hk]
      by_cases h : g = k
      · have hb : (g == k) = true := beq_iff_eq.mpr h
        simp only [List.lookup, hb, if_pos (h.trans hk)]
      · have hb : (g == k) = false := beq_eq_false_iff_ne.mpr h
        simp only [List.lookup, hb, if_neg (fun e : g = f => h (e.trans hk.symm))]
    · rw [if_neg hk]
      by_cases h : g = k
      · have hb : (g == k) = true := beq_iff_eq.mpr h
        simp only [List.lookup, hb, if_neg (fun e : g = f => hk (h.symm.trans e))]
      · have hb : (g == k) = false := beq_eq_false_iff_ne.mpr h
        simp only [List.lookup, hb]
        exact ih
theorem keys_putF (f : Str) (v : V) : ∀ fs : List (Str × V), f ∈ (putF f v fs).map (·.1) ∧ ∀ g, g ∈ fs.map (·.1) → g ∈ (putF f v fs).map (·.1)
  | [] => ⟨by simp [putF], fun g h => by simp at h⟩
  | (k, x) :: r => by
    obtain ⟨i1, i2⟩ := keys_putF f v r
    rw [show putF f v ((k, x) :: r) = (if k = f then (k, v) :: r else (k, x) :: putF f v r) from rfl]
    by_cases hk : k = f
    · rw [if_pos hk]
      subst hk
      exact ⟨by simp, fun g h => by simpa using h⟩
    · rw [if_neg hk]
      refine ⟨?_, fun g h => ?_⟩
      · rw [List.map_cons]
        exact List.mem_cons_of_mem _ i1
      · rw [List.map_cons] at h ⊢
        rcases List.mem_cons.mp h with e | e
        · exact List.mem_cons.mpr (.inl e)
        · exact List.mem_cons_of_mem _ (i2 g e)
theorem length_putF (f : Str) (v : V) : ∀ fs : List (Str × V), (putF f v fs).length ≤ fs.length + 1
  | [] => by simp [putF]
  | (k, x) :: r => by
    have ih := length_putF f v r
    rw [show putF f v ((k, x) :: r) = (if k = f then (k, v) :: r else (k, x) :: putF f v r) from rfl]
    by_cases hk : k = f
    · rw [if_pos hk, List.length_cons, List.length_cons]; omega
    · rw [if_neg hk, List.length_cons, List.length_cons]; omega

theorem RelO.some_of {v : V} {o : Option Value} (r : RelO (some v) o) : ∃ u, o = some u ∧ RelV v u := by
  cases o with
  | none => exact (show False from r).elim
  | some u => exact ⟨u, rfl, r⟩
theorem RelO.none_of {o : Option Value} (r : RelO none o) : o = none := by
  cases o with
  | none => rfl
  | some u => exact (show False from r).elim
theorem handed_of {v : V} {u : Value} (r : RelV v u) : PySem.W.handedIn u = true := by
  cases v with
  | non => cases (show u = Value.none from r); rfl
  | bl b => cases (show u = Value.bool b from r); rfl
  | int i => obtain ⟨t, e⟩ := (show ∃ t, u = Value.int i t from r); cases e; rfl
  | str x => obtain ⟨t, e⟩ := (show ∃ t, u = Value.str x t from r); cases e; rfl
  | byt b => obtain ⟨t, e⟩ := (show ∃ t, u = Value.bytes b t from r); cases e; rfl
  | flt b => obtain ⟨t, e⟩ := (show ∃ t, u = Value.float b t from r); cases e; rfl
  | ref a => cases (show u = Value.ref a from r); rfl
  | ty n => cases (show u = Value.type n from r); rfl

section
variable {P : Program} {w : World} {H H' : Hp} {h h' : Heap} {a C dx : Addr} {fs fs' : List (Str × V)}
theorem ins_get (hok : HOk P w H h) (e : H a = some (.ins C dx fs)) : ∃ mA, ObjM h a dx C mA ∧ (∀ f, RelO (fs.lookup f) (mA f)) ∧ PySem.Within mA (fs.map (·.1)) ∧ fs.length ≤ 1000 ∧ H dx = some (.own a) := by
  obtain ⟨d, z, ne, ob, mA, n, r, q⟩ := (show ObjOk P w H h a (.ins C dx fs) from hok a _ e)
  exact ⟨mA, ⟨ob, n, ne⟩, r, q, z, d⟩
end

/-! ### what of the text a class must have -/
structure Cls (K : PySem.W.Frag) (C : Addr) : Prop where
  pg : PySem.W.plainGet K C Str.empty = true
  hd : PySem.W.hasDictIn K C = true
  po : PySem.W.plainOver K C = true
  sa : PySem.W.findIn K (.ref C) "__setattr__" = some (some (.builtin "object.__setattr__"))
theorem Cls.get {K : PySem.W.Frag} {C : Addr} (c : Cls K C) (f : Str) : PySem.W.plainGet K C f = true := c.pg
/-- no class of it has the name -/
def NoAttr (K : PySem.W.Frag) (C : Addr) (f : Str) : Prop := PySem.W.findIn K (.ref C) f = some none
theorem NoAttr.taker {K : PySem.W.Frag} {C : Addr} {f : Str} (n : NoAttr K C f) : PySem.W.takerIn K C f = some none := by
  unfold PySem.W.takerIn
  rw [show PySem.W.findIn K (.ref C) f = some none from n]
  rfl
/-- a constant of the class -/
structure Con (K : PySem.W.Frag) (C : Addr) (f : Str) (v : V) (u : Value) : Prop where
  at_ : PySem.W.findIn K (.ref C) f = some (some u)
  rel : RelV v u
  get : PySem.W.specialIn K u "__get__" = some none
  cp : PySem.W.copiedNames.contains f = false
/-- a method: a plain def of the class or of one above it -/
structure Meth (K : PySem.W.Frag) (C : Addr) (m : Str) (f : Addr) : Prop where
  at_ : PySem.W.findIn K (.ref C) m = some (some (.ref f))
  fn : PySem.W.isFn K (.ref f) = true
  kp : PySem.W.keepIn K (.ref f) = true

section
variable {X : Cx} {pins : List (Addr × Obj)} {σ : St} {H : Hp} {s : Shared} {a C dx : Addr} {fs : List (Str × V)} {f : Str} {v : V} {A : Around} {E : Value → Shared → Prop}

theorem getattr_ok {b : Bool} {Q : Value → Shared → Prop} (I : Inv X pins σ H s) (e : H a = some (.ins C dx fs)) (c : Cls X.K C) (n : NoAttr X.K C f) (l : fs.lookup f = some v)
    (h : ∀ u s', Inv X pins σ H s' → RelV v u → Q u s') : wpAny (model X.prog X.w) A (getAttr (.ref a) f b) Q E s := by
  obtain ⟨mA, O, r, _, _, _⟩ := ins_get I.hok e
  obtain ⟨u, hu, ru⟩ := RelO.some_of (v := v) (o := mA f) (by rw [← l]; exact r f)
  exact get_map I.kIn O (c.get f) c.hd n hu (handed_of ru) (h u _ (I.tok _) ru)

theorem getcon_ok {b : Bool} {u : Value} {Q : Value → Shared → Prop} (I : Inv X pins σ H s) (e : H a = some (.ins C dx fs)) (c : Cls X.K C) (k : Con X.K C f v u) (l : fs.lookup f = none)
    (h : ∀ s', Inv X pins σ H s' → Q u s') : wpAny (model X.prog X.w) A (getAttr (.ref a) f b) Q E s := by
  obtain ⟨mA, O, r, _, _, _⟩ := ins_get I.hok e
  have hn : mA f = none := RelO.none_of (by rw [← l]; exact r f)
  exact get_const I.kIn O (c.get f) c.hd k.at_ k.get k.cp hn (handed_of k.rel) (h _ (I.tok _))

theorem getmeth_ok {m : Str} {g : Addr} {pl : Sem Bool} {Q : Value × List Value → Shared → Prop} (I : Inv X pins σ H s) (e : H a = some (.ins C dx fs)) (c : Cls X.K C) (k : Meth X.K C m g) (l : fs.lookup m = none)
    (h : Q (.ref g, [.ref a]) s) : wpAny (model X.prog X.w) A (getMethod (.ref a) m pl) Q E s := by
  obtain ⟨mA, O, r, _, _, _⟩ := ins_get I.hok e
  have hn : mA m = none := RelO.none_of (by rw [← l]; exact r m)
  exact get_meth I.kIn O (c.get m) k.at_ k.fn hn h

theorem setattr_ok {y : V} {u : Value} {Q : Unit → Shared → Prop} (I : Inv X pins σ H s) (e : H a = some (.ins C dx fs)) (c : Cls X.K C) (n : NoAttr X.K C f) (hl : fs.length < 1000) (ry : RelV y u)
    (h : ∀ s', Inv X pins σ (upd H a (.ins C dx (putF f y fs))) s' → Q () s') : wpAny (model X.prog X.w) A (setAttr (.ref a) f u) Q E s := by
  obtain ⟨mA, O, r, wi, _, ho⟩ := ins_get I.hok e
  have hz : (fs.map (·.1)).length ≤ sizeLine := by rw [List.length_map, sizeLine_eq]; omega
  refine set_map I.kIn O c.sa c.po n.taker c.hd wi hz fun h' O' sb => h _ ?_
  have hd : ∃ o, h'.get? dx = some o := let ⟨o, _, _, e', _⟩ := O'.ns; ⟨o, e'⟩
  refine I.write (x := a) (e := dx) (by rw [e]; exact True.intro) (.inr ho) (fun b q hb z => (sb.2 b hb).trans z) hd ?_
  refine ⟨by rw [upd_ne O.ne]; exact ho, ?_, O.ne, O'.obj, _, O'.ns, fun g => ?_, fun g hg => ?_⟩
  · have := length_putF f y fs; omega
  · show RelO ((putF f y fs).lookup g) (if g = f then some u else mA g)
    rw [lookup_putF]
    by_cases q : g = f
    · rw [if_pos q, if_pos q]; exact ry
    · rw [if_neg q, if_neg q]; exact r g
  · by_cases q : g = f
    · rw [q]; exact (keys_putF f y fs).1
    · refine (keys_putF f y fs).2 g (wi g fun z => hg ?_)
      show (if g = f then some u else mA g) = none
      rw [if_neg q]; exact z

/-- a new instance, tracked, without attributes -/
theorem Inv.made (I : Inv X pins σ H s) : Inv X pins σ (upd (upd H s.heap.objs.size (.own (s.heap.objs.size + 1))) (s.heap.objs.size + 1) (.ins C s.heap.objs.size []))
    { s with heap := (s.heap.push PySem.W.emptyDict).push (PySem.W.instObj C s.heap.objs.size) } := by
  have e1 : (s.heap.push PySem.W.emptyDict).get? s.heap.objs.size = some PySem.W.emptyDict := Heap.get?_push_size s.heap rfl
  have e2 : ((s.heap.push PySem.W.emptyDict).push (PySem.W.instObj C s.heap.objs.size)).get? (s.heap.objs.size + 1) = some (PySem.W.instObj C s.heap.objs.size) := by
    have := Heap.get?_push_size (s.heap.push PySem.W.emptyDict) (o := PySem.W.instObj C s.heap.objs.size) rfl
    rwa [Heap.size_push] at this
  have e3 : (s.heap.push PySem.W.emptyDict).Ns s.heap.objs.size (fun _ => none) := ⟨PySem.W.emptyDict, #[], _, e1, rfl, (fun e he => absurd he (by simp)), fun _ => rfl⟩
  have I1 := I.laid (a := s.heap.objs.size) (o := .own (s.heap.objs.size + 1)) (h' := s.heap.push PySem.W.emptyDict) (t' := s.toks) (fun b u q => Heap.get?_push_of_some _ q) (Nat.le_refl _) ⟨_, e1⟩
  refine I1.laid (a := s.heap.objs.size + 1) (o := .ins C s.heap.objs.size []) (t' := s.toks) (fun b u q => Heap.get?_push_of_some _ q) (Nat.le_of_eq (Heap.size_push _ _)) ?_
  have ne : s.heap.objs.size ≠ s.heap.objs.size + 1 := Nat.ne_of_lt (Nat.lt_succ_self _)
  refine ⟨by rw [upd_ne ne, upd_same], Nat.zero_le _, ne, e2, fun _ => none, (Heap.Ns1.of_empty e3).at fun o q => Heap.get?_push_of_some _ q, fun _ => True.intro, fun y hy => absurd rfl hy⟩

/-- e.f where nothing but the object is asked: through attributeBase (super) and the last hold -/
theorem attr_of {prog : Program} {w : World} {env : Env} {e : Expr} {f : Str} {pos : Pos} {s : Shared} {Q : Value → Shared → Prop} (hb : attributeBase e f env (eval e env) = eval e env)
    (h : wpAny (model prog w) A (eval e env) (fun o s₁ => wpAny (model prog w) A (getAttr o f true) Q E s₁) E s) : wpAny (model prog w) A (eval (.Attribute e f pos) env) Q E s :=
  Attribute_any_ h (by rw [arm_eval_Attribute, hb])
end

/-! ### readings and rules -/
/-- e.f, an attribute of the instance -/
def tFld (K : PySem.W.Frag) (ta : TE) (f : Str) : TE := fun σ H Q => ta σ H fun x H1 => ∃ a C dx fs v, x = .ref a ∧ H1 a = some (.ins C dx fs) ∧ Cls K C ∧ NoAttr K C f ∧ fs.lookup f = some v ∧ Q v H1
/-- e.f, a constant of the class -/
def tCon (K : PySem.W.Frag) (ta : TE) (f : Str) : TE := fun σ H Q => ta σ H fun x H1 => ∃ a C dx fs v u, x = .ref a ∧ H1 a = some (.ins C dx fs) ∧ Cls K C ∧ Con K C f v u ∧ fs.lookup f = none ∧ Q v H1
/-- e.f = value -/
def sFld (K : PySem.W.Frag) (ta tv : TE) (f : Str) : TS := fun D σ H => tv σ H fun y H1 => ta σ H1 fun x H2 => ∃ a C dx fs, x = .ref a ∧ H2 a = some (.ins C dx fs) ∧ Cls K C ∧ NoAttr K C f ∧ fs.length < 1000 ∧
  D.nx σ (upd H2 a (.ins C dx (putF f y fs)))
/-- an augmented operator on two values -/
def InOp (X : Cx) (op : Operator) (rd : V → V → Hp → VK → Prop) : Prop :=
  ∀ (pins : List (Addr × Obj)) (s : Shared) (σ : St) (H : Hp) (x y : V) (u v : Value) (Q : VK), Inv X pins σ H s → RelV x u → RelV y v → rd x y H Q → wpAny (model X.prog X.w) X.A (inplaceOp op u v) (EP X pins σ Q) X.xe s
/-- e.f op= value -/
def sFldAug (K : PySem.W.Frag) (ta tv : TE) (rd : V → V → Hp → VK → Prop) (f : Str) : TS := fun D σ H => ta σ H fun x H1 => ∃ a C dx fs v, x = .ref a ∧ H1 a = some (.ins C dx fs) ∧ Cls K C ∧ NoAttr K C f ∧ fs.lookup f = some v ∧
  tv σ H1 fun y H2 => rd v y H2 fun z H3 => ∃ dx' fs', H3 a = some (.ins C dx' fs') ∧ fs'.length < 1000 ∧ D.nx σ (upd H3 a (.ins C dx' (putF f z fs')))

section
variable {X : Cx} {o e value : Expr} {f : Str} {pos pos' tpos : Pos} {ta tv : TE}
theorem pe_fld (he : PE X e ta) (hb : attributeBase e f X.env (eval e X.env) = eval e X.env) : PE X (.Attribute e f pos) (tFld X.K ta f) := by
  intro pins s σ H Q I h
  refine attr_of hb (thn (he pins s σ H _ I h) fun u s1 ⟨x, H1, I1, rx, a, C, dx, fs, v, ex, ea, c, n, l, q⟩ => ?_)
  subst ex
  obtain rfl : u = Value.ref a := rx
  exact getattr_ok I1 ea c n l fun u' s2 I2 ru => ⟨v, H1, I2, ru, q⟩
theorem pe_con (he : PE X e ta) (hb : attributeBase e f X.env (eval e X.env) = eval e X.env) : PE X (.Attribute e f pos) (tCon X.K ta f) := by
  intro pins s σ H Q I h
  refine attr_of hb (thn (he pins s σ H _ I h) fun u s1 ⟨x, H1, I1, rx, a, C, dx, fs, v, u0, ex, ea, c, k, l, q⟩ => ?_)
  subst ex
  obtain rfl : u = Value.ref a := rx
  exact getcon_ok I1 ea c k l fun s2 I2 => ⟨v, H1, I2, k.rel, q⟩
theorem ps_fld (ha : PE X o ta) (hv : PE X value tv) (hs : swapsWith value (some (.Attribute o f pos')) pos.line X.env = pure false) : PS X (.Assign [.Attribute o f pos'] value pos) (sFld X.K ta tv f) := by
  intro pins s σ H D I h
  refine plainObj_wpAny_Assign_Attribute (thn (hv pins s σ H _ I h) fun u s1 ⟨y, H1, I1, ry, q⟩ => thn (ha pins s1 σ H1 _ I1 q) fun ov s2 ⟨x, H2, I2, rx, a, C, dx, fs, ex, ea, c, n, l, q2⟩ => ?_) hs
  subst ex
  obtain rfl : ov = Value.ref a := rx
  exact setattr_ok I2 ea c n l ry fun s3 I3 => ⟨σ, _, I3, q2⟩
theorem ps_fldaug {op : Operator} {rd : V → V → Hp → VK → Prop} (ha : PE X o ta) (hv : PE X value tv) (hop : InOp X op rd) : PS X (.AugAssign (.Attribute o f tpos) op value pos) (sFldAug X.K ta tv rd f) := by
  intro pins s σ H D I h
  refine wpAny_AugAssign_AttributeAny (thn (ha pins s σ H _ I h) fun ov s1 ⟨x, H1, I1, rx, a, C, dx, fs, v, ex, ea, c, n, l, q⟩ => ?_)
  subst ex
  obtain rfl : ov = Value.ref a := rx
  refine getattr_ok I1 ea c n l fun u s2 I2 ru => thn (hv pins s2 σ H1 _ I2 q) fun w3 s3 ⟨y, H2, I3, ry, q3⟩ => thn (hop pins s3 σ H2 v y u w3 _ I3 ru ry q3) fun w4 s4 ⟨z, H3, I4, rz, dx', fs', ea', l', q4⟩ => ?_
  exact setattr_ok I4 ea' c n l' rz fun s5 I5 => ⟨σ, _, I5, q4⟩
def rAdd : V → V → Hp → VK → Prop := fun x y H Q => ∃ i j, x = .int i ∧ y = .int j ∧ Q (.int (i + j)) H
def rSub : V → V → Hp → VK → Prop := fun x y H Q => ∃ i j, x = .int i ∧ y = .int j ∧ Q (.int (i - j)) H
theorem in_add : InOp X .Add rAdd := by
  rintro pins s σ H x y u v Q I rx ry ⟨i, j, rfl, rfl, q⟩
  obtain ⟨t, rfl⟩ := (show ∃ t, u = Value.int i t from rx)
  obtain ⟨t', rfl⟩ := (show ∃ t', v = Value.int j t' from ry)
  exact PyProof.Rows.iadd_int ⟨.int (i + j), H, I.tok _, ⟨_, rfl⟩, q⟩
theorem in_sub : InOp X .Sub rSub := by
  rintro pins s σ H x y u v Q I rx ry ⟨i, j, rfl, rfl, q⟩
  obtain ⟨t, rfl⟩ := (show ∃ t, u = Value.int i t from rx)
  obtain ⟨t', rfl⟩ := (show ∃ t', v = Value.int j t' from ry)
  exact PyProof.Rows.isub_int ⟨.int (i - j), H, I.tok _, ⟨_, rfl⟩, q⟩

/-- what is between an instance and its method: the tree of a method call -/
theorem methcall_of {pl : Sem Bool} {m : Str} {apos : Pos} {args : List Expr} {pins : List (Addr × Obj)} {s : Shared} {σ : St} {H : Hp} {Q : Value → Shared → Prop} {te : TE} (he : PE X e te) (I : Inv X pins σ H s)
    (h : te σ H fun x H1 => ∃ a C dx fs g, x = .ref a ∧ H1 a = some (.ins C dx fs) ∧ Cls X.K C ∧ Meth X.K C m g ∧ fs.lookup m = none ∧
      ∀ s1, Inv X pins σ H1 s1 → wpAny (model X.prog X.w) X.A (callWith pos (.ref g) [.ref a] (backTo pos (starEach args X.env)) (backToKw pos (keywordEach [] X.env))) Q X.xe s1)
    (ht : eval (.Call (.Attribute e m apos) args [] pos) X.env = (do
      let ov ← eval e X.env
      standAt apos.atName
      let (f, first) ← holding [ov] (getMethod ov m pl)
      callWith pos f first (backTo pos (starEach args X.env)) (backToKw pos (keywordEach [] X.env)))) :
    wpAny (model X.prog X.w) X.A (eval (.Call (.Attribute e m apos) args [] pos) X.env) Q X.xe s := by
  refine PySem.W.methodCall_KW (pl := pl) (thn (he pins s σ H _ I h) fun u s1 ⟨x, H1, I1, rx, a, C, dx, fs, g, ex, ea, c, k, l, q⟩ => ?_) ht
  subst ex
  obtain rfl : u = Value.ref a := rx
  exact getmeth_ok I1 ea c k l (q s1 I1)
end

/-! ### isinstance -/
section
variable {X : Cx} {pins : List (Addr × Obj)} {σ : St} {H : Hp} {s : Shared} {A : Around} {E : Value → Shared → Prop} {Q : Value → Shared → Prop} {c : Value} {b : Bool}
/-- the type of a value, as the fragment's deciders take it; for an instance its class -/
inductive TyOf (K : PySem.W.Frag) (H : Hp) : V → Value → Prop where
  | non : TyOf K H .non (.type "NoneType")
  | bl (x : Bool) : TyOf K H (.bl x) (.type "bool")
  | int (i : Int) : TyOf K H (.int i) (.type "int")
  | str (x : Str) : TyOf K H (.str x) (.type "str")
  | flt (x : UInt64) : TyOf K H (.flt x) (.type "float")
  | lst {a : Addr} {xs : List V} (e : H a = some (.lst xs)) : TyOf K H (.ref a) (.type "list")
  | frz {a : Addr} {o : Obj} {xs : List V} (e : H a = some (.frz o (.lst xs))) : TyOf K H (.ref a) (.type "list")
  | tup {a : Addr} {xs : List V} (e : H a = some (.tup xs)) : TyOf K H (.ref a) (.type "tuple")
  | dK {a : Addr} {kvs : List (Key × V)} (e : H a = some (.dK kvs)) : TyOf K H (.ref a) (.type "dict")
  | dT {a : Addr} {kvs : List (List Key × V)} (e : H a = some (.dT kvs)) : TyOf K H (.ref a) (.type "dict")
  | ins {a C dx : Addr} {fs : List (Str × V)} (e : H a = some (.ins C dx fs)) (cl : Cls K C) (ha : PySem.W.findIn K (.ref C) "__class__" = some (some (.builtin "object.__class__")))
      (hn : PySem.W.specialIn K (.builtin "object.__class__") "__get__" = some (some (.builtin "getset_descriptor.__get__"))) (htk : PySem.W.takesIn K (.builtin "object.__class__") = some true)
      (hm : PySem.W.mroIn K C (.type "object") = some true) : TyOf K H (.ref a) (.ref C)
/-- isinstance(x, c) for one class c, a built-in or an own one: kitOne's answer -/
theorem isinst_ok {x : V} {u t : Value} (I : Inv X pins σ H s) (rx : RelV x u) (ty : TyOf X.K H x t) (e : PySem.W.kitOne X.K t c = some b) (h : ∀ tk, Q (.bool b) { s with toks := tk }) :
    wpAny (model X.prog X.w) A (call (.builtin "isinstance") [u, c]) Q E s := by
  cases ty with
  | non => cases (show u = Value.none from rx); exact PySem.W.kia_one PySem.W.kitx_none I.kIn True.intro e (fun z => nomatch z) h
  | bl y => cases (show u = Value.bool y from rx); exact PySem.W.kia_one PySem.W.kitx_bool I.kIn True.intro e (fun z => nomatch z) h
  | int i => obtain ⟨t, q⟩ := (show ∃ t, u = Value.int i t from rx); cases q; exact PySem.W.kia_one PySem.W.kitx_int I.kIn True.intro e (fun z => nomatch z) h
  | str y => obtain ⟨t, q⟩ := (show ∃ t, u = Value.str y t from rx); cases q; exact PySem.W.kia_one PySem.W.kitx_str I.kIn True.intro e (fun z => nomatch z) h
  | flt y => obtain ⟨t, q⟩ := (show ∃ t, u = Value.float y t from rx); cases q; exact PySem.W.kia_one PySem.W.kitx_float I.kIn True.intro e (fun z => nomatch z) h
  | @lst a xs ea =>
    cases (show u = Value.ref a from rx)
    obtain ⟨_, _, n, _, h1⟩ := (show ObjOk X.prog X.w H s.heap a (.lst xs) from I.hok a _ ea)
    exact PySem.W.kia_one PySem.W.kitx_list I.kIn ⟨_, h1, rfl⟩ e (fun z => nomatch z) h
  | @frz a ob xs ea =>
    cases (show u = Value.ref a from rx)
    obtain ⟨_, _, _, n, _, h1⟩ := (show ObjOk X.prog X.w H s.heap a (.frz ob (.lst xs)) from I.hok a _ ea)
    exact PySem.W.kia_one PySem.W.kitx_list I.kIn ⟨_, h1, rfl⟩ e (fun z => nomatch z) h
  | @tup a xs ea =>
    cases (show u = Value.ref a from rx)
    obtain ⟨_, _, _, p⟩ := (show ObjOk X.prog X.w H s.heap a (.tup xs) from I.hok a _ ea)
    obtain ⟨o, h1, h2, _⟩ := p
    exact PySem.W.kia_one PySem.W.kitx_tuple I.kIn ⟨o, h1, h2⟩ e (fun z => nomatch z) h
  | @dK a kvs ea =>
    cases (show u = Value.ref a from rx)
    obtain ⟨_, _, vs, _, p⟩ := (show ObjOk X.prog X.w H s.heap a (.dK kvs) from I.hok a _ ea)
    obtain ⟨o, es, ep, h1, h2, _⟩ := p
    exact PySem.W.kia_one PySem.W.kitx_dict I.kIn ⟨o, h1, h2.1⟩ e (fun z => nomatch z) h
  | @dT a kvs ea =>
    cases (show u = Value.ref a from rx)
    obtain ⟨_, _, xs, _, o, es, ep, h1, h2, _⟩ := (show ObjOk X.prog X.w H s.heap a (.dT kvs) from I.hok a _ ea)
    exact PySem.W.kia_one PySem.W.kitx_dict I.kIn ⟨o, h1, h2.1⟩ e (fun z => nomatch z) h
  | @ins a C dx fs ea cl ha hn htk hm =>
    cases (show u = Value.ref a from rx)
    obtain ⟨mA, O, _⟩ := ins_get I.hok ea
    obtain ⟨od, J, _⟩ := O.look
    exact PySem.W.kia_one (PySem.W.kitx_own (cl.get _) cl.hd ha hn htk hm) I.kIn J e (fun z => nomatch z) h
end
end L2

namespace L2
open PySem PySem.Spec PyProof.Rows

/-! ### room -/
structure Room (k : Nat) (A : Around) : Prop where
  hd : A.handled = none
  dp : A.depth + 3 * k + 5 < recursionLimit
  un : A.units + 16 * k + 200 < cLine
theorem Room.mono {j k : Nat} {A : Around} (r : Room k A) (h : j ≤ k) : Room j A := ⟨r.hd, by have := r.dp; omega, by have := r.un; omega⟩
theorem Room.deeper {k : Nat} {A : Around} (r : Room (k + 1) A) (env : Env) : Room k (A.deeper env) :=
  ⟨r.hd, by have := r.dp; show A.depth + 1 + 3 * k + 5 < _; omega, by have := r.un; show A.units + 3 + 16 * k + 200 < _; omega⟩
theorem Room.in1 {k : Nat} {A : Around} (r : Room (k + 1) A) : Room k A.in1 :=
  ⟨r.hd, by have := r.dp; show A.depth + 3 * k + 5 < _; omega, by have := r.un; show A.units + 1 + 16 * k + 200 < _; omega⟩
theorem make_depth {A : Around} {C : Addr} {us : List Value} {kw : List (Str × Value)} : (A.under (.builtin "type.__call__" ⟨.ref C :: us, kw⟩)).depth = A.depth + 1 := by
  first | rfl | simp [Around.under, Code.weight, Code.isCreation, Code.isGuard, Code.isCaller, Code.frames, Code.isFrame, guardIds]
theorem make_units {A : Around} {C : Addr} {us : List Value} {kw : List (Str × Value)} : (A.under (.builtin "type.__call__" ⟨.ref C :: us, kw⟩)).units = A.units + 1 := by
  first | rfl | simp [Around.under, Code.cUnits, Code.frames, Code.isFrame]
theorem Room.make {k : Nat} {A : Around} (r : Room (k + 1) A) (C : Addr) (us : List Value) (kw : List (Str × Value)) : Room k (A.under (.builtin "type.__call__" ⟨.ref C :: us, kw⟩)) :=
  ⟨r.hd, by have := r.dp; rw [make_depth]; omega, by have := r.un; rw [make_units]; omega⟩
theorem Room.depth {k : Nat} {A : Around} (r : Room k A) : A.depth < recursionLimit := by have := r.dp; omega
theorem Room.units {k : Nat} {A : Around} (r : Room k A) : A.units + 64 < cLine := by have := r.un; omega
theorem Room.units0 {k : Nat} {A : Around} (r : Room k A) : A.units < cLine := by have := r.un; omega

/-! ### argument lists and displays -/
def tNil : TA := fun _ H Q => Q [] H
def tCons (ta : TE) (tr : TA) : TA := fun σ H Q => ta σ H fun x H1 => tr σ H1 fun xs H2 => Q (x :: xs) H2
section
variable {X : Cx} {e : Expr} {es : List Expr} {te : TE} {t : TA} {pos : Pos}
theorem pa_nil : PA X [] tNil := fun _ _ _ _ H Q I h => Calls.spliced_nil ⟨[], H, I, .nil, h⟩
theorem pa_cons (ha : PE X e te) (hr : PA X es t) (hs : starEach (e :: es) X.env = (false, eval e X.env) :: starEach es X.env := by rfl) : PA X (e :: es) (tCons te t) := by
  intro pos pins s σ H Q I h
  rw [hs]
  show wpAny _ _ (spliced ((false, eval e X.env) :: backTo pos (starEach es X.env))) _ _ s
  refine Calls.spliced_cons (thn (ha pins s σ H _ I h) fun u s1 ⟨x, H1, I1, r1, q1⟩ => ?_)
  exact thn (hr pos pins s1 σ H1 _ I1 q1) fun us s2 ⟨xs, H2, I2, r2, q2⟩ => ⟨x :: xs, H2, I2, .cons r1 r2, q2⟩

/-- a tuple, a list of written items -/
def tTup (t : TA) : TE := fun σ H Q => t σ H fun xs H1 => xs.length ≤ sizeLine ∧ ∀ p, H1 p = none → Q (.ref p) (upd H1 p (.tup xs))
def tLst (t : TA) : TE := fun σ H Q => t σ H fun xs H1 => xs.length ≤ sizeLine ∧ ∀ p, H1 p = none → Q (.ref p) (upd H1 p (.lst xs))
theorem pe_tup {x1} (h : PA X es t) : PE X (.Tuple es x1 pos) (tTup t) := by
  intro pins s σ H Q I hq
  refine wpAny_Tuple_spliced (thn (h pos pins s σ H _ I hq) fun us s1 ⟨xs, H1, I1, r, z, q⟩ => ⟨by rw [← r.length]; exact z, ?_⟩)
  have hf : H1 s1.heap.objs.size = none := I1.hok.fresh (Nat.le_refl _)
  refine ⟨.ref s1.heap.objs.size, upd H1 s1.heap.objs.size (.tup xs), I1.laid (t' := s1.toks) (fun b u e => Heap.get?_push_of_some _ e) (Nat.le_refl _) ?_, rfl, q _ hf⟩
  exact ⟨z, us, r, ⟨_, Heap.get?_push_size _ rfl, rfl, _, rfl⟩⟩
theorem pe_lst (h : PA X es t) : PE X (.List es pos) (tLst t) := by
  intro pins s σ H Q I hq
  refine wpAny_List_spliced (thn (h pos pins s σ H _ I hq) fun us s1 ⟨xs, H1, I1, r, z, q⟩ => ⟨by rw [← r.length]; exact z, ?_⟩)
  have hf : H1 s1.heap.objs.size = none := I1.hok.fresh (Nat.le_refl _)
  refine ⟨.ref s1.heap.objs.size, upd H1 s1.heap.objs.size (.lst xs), I1.laid (t' := s1.toks) (fun b u e => Heap.get?_push_of_some _ e) (Nat.le_refl _) ?_, rfl, q _ hf⟩
  exact ⟨z, us, 0, r, Heap.get?_push_size _ rfl⟩
end

/-! ### what a def promises -/
/-- a def's promise: the bound arguments in the parameters' order, the heap, the wanted end, the wanted exception -/
abbrev Sp := List V → Hp → VK → XK → Prop
/-- how an exception lies behind a call (file 08 gives it): the callers' frames, abstract heap and state ahead of the call, the wish, the exception, the state -/
abbrev CXT := List Env → Hp → Shared → XK → Value → Shared → Prop

/-- the state at a call -/
structure Env0 (P : Program) (w : World) (K : PySem.W.Frag) (mg : Str → Option Value) (base : Heap) (A : Around) (outer : List Env) (s : Shared) (H : Hp) : Prop where
  frames : A.frames = some outer
  mod : Mod K mg base
  bs : ∀ b o, base.get? b = some o → s.heap.get? b = some o ∧ H b = none
  bsz : base.objs.size ≤ s.heap.objs.size
  funs : s.heap.FunFrames base outer
  frf : ∀ b ∈ frs outer, H b = none
  hok : HOk P w H s.heap
  bare : AllBare s.gens
/-- a call's end -/
def CE (outer : List Env) (P : Program) (w : World) (H : Hp) (s : Shared) (Q : VK) (u : Value) (s' : Shared) : Prop :=
  ∃ v H', s'.os = s.os ∧ AllBare s'.gens ∧ Un (frs outer) [] H H' s.heap s'.heap ∧ HOk P w H' s'.heap ∧ RelV v u ∧ Q v H'
def CR (CX : CXT) (outer : List Env) (P : Program) (w : World) (H : Hp) (s : Shared) (Q : VK) (E : XK) (r : Result) (s' : Shared) : Prop :=
  match r with
  | .ok (.ret u) => CE outer P w H s Q u s'
  | .ok _ => False
  | .error e => CX outer H s E e s'
structure FnOk (P : Program) (w : World) (K : PySem.W.Frag) (mg : Str → Option Value) (base : Heap) (CX : CXT) (k : Nat) (f : Addr) (fd : FuncData) (ps : List Str) (sp : Sp) : Prop where
  len : ∀ vs H Q E, sp vs H Q E → vs.length = ps.length
  run : ∀ (A : Around) (outer : List Env) (s : Shared) (H : Hp) (args : Args) (us : List Value) (vs : List V) (Q : VK) (E : XK), Room k A → Env0 P w K mg base A outer s H → BindsTo s fd args (ps.zip us) → Vals vs us → sp vs H Q E →
    codeAny (model P w) A (.call (.ref f) args) (CR CX outer P w H s Q E) s
theorem FnOk.mono {P : Program} {w : World} {K : PySem.W.Frag} {mg : Str → Option Value} {base : Heap} {CX : CXT} {j k : Nat} {f : Addr} {fd : FuncData} {ps : List Str} {sp : Sp} (F : FnOk P w K mg base CX j f fd ps sp) (h : j ≤ k) :
    FnOk P w K mg base CX k f fd ps sp := ⟨F.len, fun A outer s H args us vs Q E hr => F.run A outer s H args us vs Q E (hr.mono h)⟩
/-- a weaker promise -/
theorem FnOk.imp {P : Program} {w : World} {K : PySem.W.Frag} {mg : Str → Option Value} {base : Heap} {CX : CXT} {k : Nat} {f : Addr} {fd : FuncData} {ps : List Str} {sp sp' : Sp} (F : FnOk P w K mg base CX k f fd ps sp)
    (h : ∀ vs H Q E, sp' vs H Q E → sp vs H Q E) : FnOk P w K mg base CX k f fd ps sp' :=
  ⟨fun vs H Q E q => F.len vs H Q E (h _ _ _ _ q), fun A outer s H args us vs Q E hr he hb hv hs => F.run A outer s H args us vs Q E hr he hb hv (h _ _ _ _ hs)⟩

theorem Env0.make {P : Program} {w : World} {K : PySem.W.Frag} {mg : Str → Option Value} {base : Heap} {A : Around} {outer : List Env} {s : Shared} {H : Hp} (e : Env0 P w K mg base A outer s H) (C : Addr) (us : List Value) (kw : List (Str × Value)) :
    Env0 P w K mg base (A.under (.builtin "type.__call__" ⟨.ref C :: us, kw⟩)) outer s H := ⟨by first | exact e.frames | (simpa [Around.under, Code.envs, Code.isFrame, pushEnvs] using e.frames), e.mod, e.bs, e.bsz, e.funs, e.frf, e.hok, e.bare⟩
theorem Env0.in1 {P : Program} {w : World} {K : PySem.W.Frag} {mg : Str → Option Value} {base : Heap} {A : Around} {outer : List Env} {s : Shared} {H : Hp} (e : Env0 P w K mg base A outer s H) :
    Env0 P w K mg base A.in1 outer s H := ⟨e.frames, e.mod, e.bs, e.bsz, e.funs, e.frf, e.hok, e.bare⟩

section
variable {X : Cx} {pins : List (Addr × Obj)} {σ : St} {H : Hp} {s s' : Shared}
/-- from a body: what a callee wants -/
theorem Inv.env0 (I : Inv X pins σ H s) : Env0 X.prog X.w X.K X.mg X.base X.A X.stack s H :=
  ⟨I.ok.frames, I.ok.mod, I.bs, Nat.le_trans I.ok.bsz I.sz, I.stack, I.stkFree, I.hok, I.bare⟩
/-- behind a call -/
theorem Inv.after {Q : VK} {u : Value} (I : Inv X pins σ H s) (h : CE X.stack X.prog X.w H s Q u s') : EP X pins σ Q u s' := by
  obtain ⟨v, H', os, bare, un, hok, r, q⟩ := h
  obtain ⟨hh, g, d, t, os'⟩ := s'
  obtain rfl : os' = s.os := os
  exact ⟨v, H', I.call (h' := hh) (g' := g) (d' := d) (t' := t) (ch := []) un hok bare (fun b z => absurd z (by simp)), r, q⟩
end

/-! ### calls -/
/-- f(..): the written arguments, then the defaults dvs; E: what is wanted of an exception -/
def tCall (sp : Sp) (dvs : List V) (E : XK) (t : TA) : TE := fun σ H Q => t σ H fun vs H1 => sp (vs ++ dvs) H1 Q E
/-- o.m(..) of an instance of the class at C -/
def tMeth (C : Addr) (m : Str) (sp : Sp) (dvs : List V) (E : XK) (ta : TE) (t : TA) : TE := fun σ H Q => ta σ H fun x H1 => ∃ a dx fs, x = .ref a ∧ H1 a = some (.ins C dx fs) ∧ fs.lookup m = none ∧
  t σ H1 fun vs H2 => sp (x :: (vs ++ dvs)) H2 Q E
/-- C(..): a new instance and its dict, then __init__ -/
def tMake (C : Addr) (sp : Sp) (dvs : List V) (E : XK) (t : TA) : TE := fun σ H Q => t σ H fun vs H1 => ∀ x dx, H1 x = none → H1 dx = none → dx ≠ x →
  sp (.ref x :: (vs ++ dvs)) (upd (upd H1 dx (.own x)) x (.ins C dx [])) (fun v H2 => v = .non ∧ Q (.ref x) H2) E

/-- how the parameters are bound: us the positional arguments, kw the keywords' values by name, ds the defaults that fill up -/
def Binds (K : PySem.W.Frag) (fd : FuncData) (ps : List Str) (ds : List Value) : Prop :=
  ∀ (s : Shared) (us : List Value), K.In s.heap → (us ++ ds).length = ps.length → BindsTo s fd ⟨us, []⟩ (ps.zip (us ++ ds))
/-- every parameter is given -/
theorem Binds.all {K : PySem.W.Frag} {fd : FuncData} {ps : List Str} (h : ∀ us : List Value, us.length = ps.length → bindArgs fd ⟨us, []⟩ = pure (ps.zip us)) : Binds K fd ps [] := fun s us _ hl => by
  rw [List.append_nil] at hl ⊢
  exact .of_eq (h us hl)

/-- an exception of a callee reaches what this body wants of exceptions -/
def Passes (CX : CXT) (X : Cx) (E : XK) : Prop := ∀ (pins : List (Addr × Obj)) (σ : St) (H : Hp) (s : Shared) (e : Value) (s' : Shared), Inv X pins σ H s → CX X.stack H s E e s' → X.xe e s'

section
variable {X : Cx} {CX : CXT} {k : Nat} {f C : Addr} {fd : FuncData} {ps : List Str} {sp : Sp} {dvs : List V} {ds : List Value} {E : XK} {x m : Str} {p pos apos : Pos} {e o : Expr} {es : List Expr} {ta : TE} {t : TA}

/-- the callee runs -/
theorem run_fn {pins : List (Addr × Obj)} {σ : St} {H : Hp} {s : Shared} {Q : VK} {us : List Value} {vs : List V} (F : FnOk X.prog X.w X.K X.mg X.base CX k f fd ps sp) (hr : Room k X.A) (hb : Binds X.K fd ps ds) (hd : Vals dvs ds) (hx : Passes CX X E)
    (I : Inv X pins σ H s) (r : Vals vs us) (h : sp (vs ++ dvs) H Q E) : wpAny (model X.prog X.w) X.A (call (.ref f) us) (EP X pins σ Q) X.xe s := by
  have r2 : Vals (vs ++ dvs) (us ++ ds) := r.append hd
  have hl : (us ++ ds).length = ps.length := by rw [← r2.length]; exact F.len _ _ _ _ h
  refine wpAny_call (codeAny_mono (F.run X.A X.stack s H ⟨us, []⟩ (us ++ ds) (vs ++ dvs) Q E hr I.env0 (hb s us I.kIn hl) r2 h) fun r s' hq => ?_)
  cases r with
  | error e => exact hx pins σ H s e s' I hq
  | ok fl =>
    cases fl with
    | ret u => exact I.after hq
    | next => exact False.elim hq
    | brk => exact False.elim hq
    | cont => exact False.elim hq

theorem pe_call (F : FnOk X.prog X.w X.K X.mg X.base CX k f fd ps sp) (hr : Room k X.A) (hg : Gl X x) (hm : X.mg x = some (.ref f)) (hk : PySem.W.keepIn X.K (.ref f) = true) (hb : Binds X.K fd ps ds) (hd : Vals dvs ds) (hx : Passes CX X E)
    (ha : PA X (e :: es) t) (hdb : (x == ("__debug__" : Str)) = false := by decide) (he : starEach (e :: es) X.env = (false, eval e X.env) :: starEach es X.env := by rfl) (hpl : (backTo pos (starEach es X.env)).any (·.1) = false := by rfl) :
    PE X (.Call (.Name x p) (e :: es) [] pos) (tCall sp dvs E t) := by
  intro pins s σ H Q I h
  refine wpAny_Call_Name_kw (ld_glob I hg hm ?_ hdb)
  refine PySem.W.callWith_K (h₀ := X.base) I.ok.mod.kin hk (thn (ha pos pins s σ H _ I h) fun us s1 ⟨vs, H1, I1, r, q⟩ => ⟨I1.kIn, ?_⟩) he hpl
  exact run_fn F hr hb hd hx I1 r q
theorem pe_call0 (F : FnOk X.prog X.w X.K X.mg X.base CX k f fd ps sp) (hr : Room k X.A) (hg : Gl X x) (hm : X.mg x = some (.ref f)) (hk : PySem.W.keepIn X.K (.ref f) = true) (hb : Binds X.K fd ps ds) (hd : Vals dvs ds) (hx : Passes CX X E)
    (hdb : (x == ("__debug__" : Str)) = false := by decide) : PE X (.Call (.Name x p) [] [] pos) (tCall sp dvs E tNil) := by
  intro pins s σ H Q I h
  refine wpAny_Call_Name_kw (ld_glob I hg hm ?_ hdb)
  exact PySem.W.callWith_K0 I.kIn hk (run_fn (us := []) F hr hb hd hx I .nil h)

/-- o.m(e, ..) -/
theorem pe_meth {pl : Sem Bool} (he : PE X o ta) (c : Cls X.K C) (hm : Meth X.K C m f) (F : FnOk X.prog X.w X.K X.mg X.base CX k f fd ps sp) (hr : Room k X.A) (hb : Binds X.K fd ps ds) (hd : Vals dvs ds) (hx : Passes CX X E) (ha : PA X (e :: es) t)
    (hst : starEach (e :: es) X.env = (false, eval e X.env) :: starEach es X.env := by rfl) (hpl : (backTo pos (starEach es X.env)).any (·.1) = false := by rfl)
    (ht : eval (.Call (.Attribute o m apos) (e :: es) [] pos) X.env = (do
      let ov ← eval o X.env
      standAt apos.atName
      let (f, first) ← holding [ov] (getMethod ov m pl)
      callWith pos f first (backTo pos (starEach (e :: es) X.env)) (backToKw pos (keywordEach [] X.env))) := by rfl) :
    PE X (.Call (.Attribute o m apos) (e :: es) [] pos) (tMeth C m sp dvs E ta t) := by
  intro pins s σ H Q I h
  refine PySem.W.methodCall_KW (pl := pl) (thn (he pins s σ H _ I h) fun u s1 ⟨x, H1, I1, rx, a, dx, fs, ex, ea, l, q⟩ => ?_) ht
  subst ex
  obtain rfl : u = Value.ref a := rx
  refine getmeth_ok I1 ea c hm l ?_
  refine PySem.W.callWith_K (first := [.ref a]) (h₀ := X.base) I.ok.mod.kin hm.kp (thn (ha pos pins s1 σ H1 _ I1 q) fun us s2 ⟨vs, H2, I2, r, q2⟩ => ⟨I2.kIn, ?_⟩) hst hpl
  exact run_fn (us := .ref a :: us) (vs := .ref a :: vs) F hr hb hd hx I2 (.cons rfl r) q2
/-- o.m() -/
theorem pe_meth0 {pl : Sem Bool} (he : PE X o ta) (c : Cls X.K C) (hm : Meth X.K C m f) (F : FnOk X.prog X.w X.K X.mg X.base CX k f fd ps sp) (hr : Room k X.A) (hb : Binds X.K fd ps ds) (hd : Vals dvs ds) (hx : Passes CX X E)
    (ht : eval (.Call (.Attribute o m apos) [] [] pos) X.env = (do
      let ov ← eval o X.env
      standAt apos.atName
      let (f, first) ← holding [ov] (getMethod ov m pl)
      callWith pos f first (backTo pos (starEach [] X.env)) (backToKw pos (keywordEach [] X.env))) := by rfl) :
    PE X (.Call (.Attribute o m apos) [] [] pos) (tMeth C m sp dvs E ta tNil) := by
  intro pins s σ H Q I h
  refine PySem.W.methodCall_KW (pl := pl) (thn (he pins s σ H _ I h) fun u s1 ⟨x, H1, I1, rx, a, dx, fs, ex, ea, l, q⟩ => ?_) ht
  subst ex
  obtain rfl : u = Value.ref a := rx
  refine getmeth_ok I1 ea c hm l ?_
  exact PySem.W.callWith_K0 (first := [.ref a]) I1.kIn hm.kp (run_fn (us := [.ref a]) (vs := [.ref a]) F hr hb hd hx I1 (.cons rfl .nil) q)

/-- what a class must have to be made -/
structure Mk (K : PySem.W.Frag) (C f : Addr) : Prop where
  makes : PySem.W.makesIn K C = true
  init : PySem.W.findIn K (.ref C) "__init__" = some (some (.ref f))
  fn : PySem.W.isFn K (.ref f) = true
  kp : PySem.W.keepIn K (.ref C) = true

theorem run_make {pins : List (Addr × Obj)} {σ : St} {H : Hp} {s : Shared} {Q : VK} {us : List Value} {vs : List V} (M : Mk X.K C f) (F : FnOk X.prog X.w X.K X.mg X.base CX k f fd ps sp) (hr : Room (k + 1) X.A) (hb : Binds X.K fd ps ds) (hd : Vals dvs ds)
    (hx : Passes CX X E) (I : Inv X pins σ H s) (r : Vals vs us)
    (h : ∀ x dx, H x = none → H dx = none → dx ≠ x → sp (.ref x :: (vs ++ dvs)) (upd (upd H dx (.own x)) x (.ins C dx [])) (fun v H2 => v = .non ∧ Q (.ref x) H2) E) :
    wpAny (model X.prog X.w) X.A (call (.ref C) us) (EP X pins σ Q) X.xe s := by
  have hq := h (s.heap.objs.size + 1) s.heap.objs.size (I.hok.fresh (Nat.le_succ _)) (I.hok.fresh (Nat.le_refl _)) (Nat.ne_of_lt (Nat.lt_succ_self _))
  have I2 := Inv.made (C := C) I
  have r2 : Vals (V.ref (s.heap.objs.size + 1) :: (vs ++ dvs)) (Value.ref (s.heap.objs.size + 1) :: (us ++ ds)) := .cons rfl (r.append hd)
  have hl : (Value.ref (s.heap.objs.size + 1) :: us ++ ds).length = ps.length := by
    have e := r2.length
    rw [F.len _ _ _ _ hq] at e
    exact e.symm
  refine wpAny_call (make_map (f := f) I.kIn M.makes M.init (beq_iff_eq.mp M.fn) (codeAny_mono (F.run _ X.stack _ _ ⟨Value.ref (s.heap.objs.size + 1) :: us, []⟩ (Value.ref (s.heap.objs.size + 1) :: (us ++ ds)) _ _ E (hr.make C us [])
    (I2.env0.make C us []) (hb _ (Value.ref (s.heap.objs.size + 1) :: us) I2.kIn hl) r2 hq) fun r s' hq' => ?_))
  cases r with
  | error e => exact hx pins σ _ _ e s' I2 hq'
  | ok fl =>
    cases fl with
    | ret u =>
      obtain ⟨v, H', I3, rv, ev, q3⟩ := I2.after hq'
      subst ev
      exact ⟨rv, ⟨V.ref (s.heap.objs.size + 1), H', I3, rfl, q3⟩⟩
    | next => exact False.elim hq'
    | brk => exact False.elim hq'
    | cont => exact False.elim hq'
theorem pe_make (M : Mk X.K C f) (F : FnOk X.prog X.w X.K X.mg X.base CX k f fd ps sp) (hr : Room (k + 1) X.A) (hg : Gl X x) (hm : X.mg x = some (.ref C)) (hb : Binds X.K fd ps ds) (hd : Vals dvs ds) (hx : Passes CX X E)
    (ha : PA X (e :: es) t) (hdb : (x == ("__debug__" : Str)) = false := by decide) (he : starEach (e :: es) X.env = (false, eval e X.env) :: starEach es X.env := by rfl) (hpl : (backTo pos (starEach es X.env)).any (·.1) = false := by rfl) :
    PE X (.Call (.Name x p) (e :: es) [] pos) (tMake C sp dvs E t) := by
  intro pins s σ H Q I h
  refine wpAny_Call_Name_kw (ld_glob I hg hm ?_ hdb)
  refine PySem.W.callWith_K (h₀ := X.base) I.ok.mod.kin M.kp (thn (ha pos pins s σ H _ I h) fun us s1 ⟨vs, H1, I1, r, q⟩ => ⟨I1.kIn, ?_⟩) he hpl
  exact run_make M F hr hb hd hx I1 r q
theorem pe_make0 (M : Mk X.K C f) (F : FnOk X.prog X.w X.K X.mg X.base CX k f fd ps sp) (hr : Room (k + 1) X.A) (hg : Gl X x) (hm : X.mg x = some (.ref C)) (hb : Binds X.K fd ps ds) (hd : Vals dvs ds) (hx : Passes CX X E)
    (hdb : (x == ("__debug__" : Str)) = false := by decide) : PE X (.Call (.Name x p) [] [] pos) (tMake C sp dvs E tNil) := by
  intro pins s σ H Q I h
  refine wpAny_Call_Name_kw (ld_glob I hg hm ?_ hdb)
  exact PySem.W.callWith_K0 I.kIn M.kp (run_make (us := []) M F hr hb hd hx I .nil h)
end

/-! ### keywords -/
/-- the values of the keywords, from the left -/
def PK (X : Cx) (kws : List Keyword) (t : TA) : Prop :=
  ∀ (pos : Pos) (pins : List (Addr × Obj)) (s : Shared) (σ : St) (H : Hp) (Q : List V → Hp → Prop), Inv X pins σ H s → t σ H Q → wpAny (model X.prog X.w) X.A (evalAll ((backToKw pos (keywordEach kws X.env)).map (·.2))) (AP X pins σ Q) X.xe s
section
variable {X : Cx} {CX : CXT} {k : Nat} {f C : Addr} {fd : FuncData} {ps ks : List Str} {sp : Sp} {E : XK} {x m : Str} {p pos apos kpos : Pos} {e o : Expr} {es : List Expr} {kws : List Keyword} {te ta : TE} {t tk : TA} {nm : Option Str}
theorem pk_nil : PK X [] tNil := fun _ _ _ _ H Q I h => wpAny_evalAll_nil ⟨[], H, I, .nil, h⟩
theorem pk_cons (ha : PE X e te) (hr : PK X kws t) : PK X (⟨nm, e, kpos⟩ :: kws) (tCons te t) := by
  intro pos pins s σ H Q I h
  show wpAny _ _ (evalAll ((do let v ← eval e X.env; standAt pos; pure v) :: (backToKw pos (keywordEach kws X.env)).map (·.2))) _ _ s
  refine wpAny_evalAll_cons (wpAny_bind (thn (ha pins s σ H _ I h) fun u s1 ⟨x, H1, I1, r1, q1⟩ => wpAny_bind (wpAny_standAt (wpAny_pure ?_))))
  exact thn (hr pos pins s1 σ H1 _ I1 q1) fun us s2 ⟨xs, H2, I2, r2, q2⟩ => ⟨x :: xs, H2, I2, .cons r1 r2, q2⟩

/-- how a call with keywords binds: g puts the positional values us and the keywords' values ws (names ks) in the parameters' order, defaults among them -/
structure KBinds (K : PySem.W.Frag) (fd : FuncData) (ps ks : List Str) (g : List Value → List Value → List Value) (gV : List V → List V → List V) : Prop where
  to : ∀ (s : Shared) (us ws : List Value), K.In s.heap → (g us ws).length = ps.length → BindsTo s fd ⟨us, ks.zip ws⟩ (ps.zip (g us ws))
  rel : ∀ {vs : List V} {us : List Value} {zs : List V} {ws : List Value}, Vals vs us → Vals zs ws → Vals (gV vs zs) (g us ws)
def tCallK (sp : Sp) (gV : List V → List V → List V) (E : XK) (t tk : TA) : TE := fun σ H Q => t σ H fun vs H1 => tk σ H1 fun zs H2 => sp (gV vs zs) H2 Q E
variable {g : List Value → List Value → List Value} {gV : List V → List V → List V}
theorem run_fnk {pins : List (Addr × Obj)} {σ : St} {H : Hp} {s : Shared} {Q : VK} {us ws : List Value} {vs zs : List V} (F : FnOk X.prog X.w X.K X.mg X.base CX k f fd ps sp) (hr : Room k X.A) (hb : KBinds X.K fd ps ks g gV) (hx : Passes CX X E)
    (I : Inv X pins σ H s) (r : Vals vs us) (rz : Vals zs ws) (h : sp (gV vs zs) H Q E) : wpAny (model X.prog X.w) X.A (call (.ref f) us (ks.zip ws)) (EP X pins σ Q) X.xe s := by
  have r2 := hb.rel r rz
  have hl : (g us ws).length = ps.length := by rw [← r2.length]; exact F.len _ _ _ _ h
  refine wpAny_call (codeAny_mono (F.run X.A X.stack s H ⟨us, ks.zip ws⟩ (g us ws) (gV vs zs) Q E hr I.env0 (hb.to s us ws I.kIn hl) r2 h) fun r s' hq => ?_)
  cases r with
  | error e => exact hx pins σ H s e s' I hq
  | ok fl =>
    cases fl with
    | ret u => exact I.after hq
    | next => exact False.elim hq
    | brk => exact False.elim hq
    | cont => exact False.elim hq
/-- f(e, .., k = v, ..) -/
theorem pe_callK (F : FnOk X.prog X.w X.K X.mg X.base CX k f fd ps sp) (hr : Room k X.A) (hg : Gl X x) (hm : X.mg x = some (.ref f)) (hk : PySem.W.keepIn X.K (.ref f) = true) (hb : KBinds X.K fd ps ks g gV) (hx : Passes CX X E)
    (ha : PA X (e :: es) t) (hkw : PK X kws tk) (hall : (backToKw pos (keywordEach kws X.env)).all (·.1.isSome) = true := by rfl) (hks : (backToKw pos (keywordEach kws X.env)).filterMap (·.1) = ks := by rfl)
    (hdb : (x == ("__debug__" : Str)) = false := by decide) (he : starEach (e :: es) X.env = (false, eval e X.env) :: starEach es X.env := by rfl)
    (hpl : ((backTo pos (starEach (e :: es) X.env)).any (·.1) || (backToKw pos (keywordEach kws X.env)).any (·.1.isNone)) = false := by rfl) :
    PE X (.Call (.Name x p) (e :: es) kws pos) (tCallK sp gV E t tk) := by
  intro pins s σ H Q I h
  refine wpAny_Call_Name_kw (ld_glob I hg hm ?_ hdb)
  refine PySem.W.callWith_KW (h₀ := X.base) I.ok.mod.kin hk hall (thn (ha pos pins s σ H _ I h) fun us s1 ⟨vs, H1, I1, r, q⟩ => ?_) hpl he
  refine thn (hkw pos pins s1 σ H1 _ I1 q) fun ws s2 ⟨zs, H2, I2, rz, q2⟩ => ⟨I2.kIn, ?_⟩
  rw [hks]
  exact run_fnk F hr hb hx I2 r rz q2
end

/-! ### a def's body keeps its promise -/
/-- names: the parameters first -/
structure FnScope (N P : List Str) (sc : Scope) : Prop where
  kind : sc.kind = .function
  co : sc.isCoroutine = false
  gen : sc.isGenerator = false
  nd : N.Nodup
  pre : N.take P.length = P
  par : ∀ x ∈ P, sc.names.lookup x = some .local ∨ sc.names.lookup x = some .cell
  nofree : ∀ y ∈ sc.names, y.2 ≠ .free

theorem bindL_out {kindOf : Str → Option NameKind} {x : Str} : ∀ {binds : List (Str × Value)} {m : Str → Option Value}, (∀ v, (x, v) ∉ binds) → bindL kindOf binds m x = m x
  | [], _, _ => rfl
  | (n, v) :: r, m, h => by
    unfold bindL
    rw [bindL_out fun w hw => h w (List.mem_cons_of_mem _ hw)]
    split
    · have : x ≠ n := by rintro rfl; exact h v List.mem_cons_self
      simp [this]
    · rfl
theorem bindC_out {kindOf : Str → Option NameKind} {x : Str} : ∀ {binds : List (Str × Value)} {m : Str → Option Value}, (∀ v, (x, v) ∉ binds) → bindC kindOf binds m x = m x
  | [], _, _ => rfl
  | (n, v) :: r, m, h => by
    unfold bindC
    rw [bindC_out fun w hw => h w (List.mem_cons_of_mem _ hw)]
    split
    · rfl
    · have : x ≠ n := by rintro rfl; exact h v List.mem_cons_self
      simp [this]
theorem bindL_get {kindOf : Str → Option NameKind} {x : Str} {v : Value} : ∀ {P : List Str} {vs : List Value} {i : Nat} {m : Str → Option Value}, P.Nodup → P[i]? = some x → vs[i]? = some v → kindOf x = some .local →
    bindL kindOf (P.zip vs) m x = some v
  | [], _, _, _, _, h, _, _ => by simp at h
  | _ :: _, [], _, _, _, _, h, _ => by simp at h
  | p :: P, w :: vs, 0, m, nd, h1, h2, hk => by
    simp at h1 h2; subst h1; subst h2
    show bindL kindOf ((p, w) :: P.zip vs) m p = _
    unfold bindL
    rw [bindL_out fun v hv => (List.nodup_cons.mp nd).1 (List.of_mem_zip hv).1, if_pos hk]
    simp
  | p :: P, w :: vs, i + 1, m, nd, h1, h2, hk => by
    show bindL kindOf ((p, w) :: P.zip vs) m x = _
    unfold bindL
    exact bindL_get (i := i) (List.nodup_cons.mp nd).2 (by simpa using h1) (by simpa using h2) hk
theorem bindC_get {kindOf : Str → Option NameKind} {x : Str} {v : Value} : ∀ {P : List Str} {vs : List Value} {i : Nat} {m : Str → Option Value}, P.Nodup → P[i]? = some x → vs[i]? = some v → kindOf x ≠ some .local →
    bindC kindOf (P.zip vs) m x = some v
  | [], _, _, _, _, h, _, _ => by simp at h
  | _ :: _, [], _, _, _, _, h, _ => by simp at h
  | p :: P, w :: vs, 0, m, nd, h1, h2, hk => by
    simp at h1 h2; subst h1; subst h2
    show bindC kindOf ((p, w) :: P.zip vs) m p = _
    unfold bindC
    rw [bindC_out fun v hv => (List.nodup_cons.mp nd).1 (List.of_mem_zip hv).1, if_neg hk]
    simp
  | p :: P, w :: vs, i + 1, m, nd, h1, h2, hk => by
    show bindC kindOf ((p, w) :: P.zip vs) m x = _
    unfold bindC
    exact bindC_get (i := i) (List.nodup_cons.mp nd).2 (by simpa using h1) (by simpa using h2) hk

/-- the names' values at the entry -/
def start (N : List Str) (vs : List V) : St := vs.map some ++ List.replicate (N.length - vs.length) none

/-- the context of a def's body, at its entry; an exception leaves the frame, then lies as CX says -/
def cxOf (CX : CXT) (P : Program) (w : World) (K : PySem.W.Frag) (mg : Str → Option Value) (base : Heap) (N : List Str) (qual : Str) (scope : Scope) (f : Addr) (cd : Value) (A : Around) (outer : List Env) (s : Shared) (H : Hp) (E : XK) : Cx where
  prog := P
  w := w
  K := K
  mg := mg
  base := base
  A := A.deeper (envOfC qual scope s.heap.objs.size f cd)
  N := N
  s₀ := s
  H₀ := H
  env := envOfC qual scope s.heap.objs.size f cd
  outer := outer
  stack := envOfC qual scope s.heap.objs.size f cd :: outer
  ex := []
  calm := true
  fn := fun _ => true
  pn := []
  xe := fun e s' => wpAny (model P w) (A.deeper (envOfC qual scope s.heap.objs.size f cd)) (leaving (envOfC qual scope s.heap.objs.size f cd) e) (fun _ s'' => CX outer H s E e s'') (fun e' s'' => CX outer H s E e' s'') s'

theorem cell_has {sc : Scope} {n : Nat} {x : Str} (h : sc.names.lookup x = some .cell) : ∃ c, (cellsFrom n sc.names []).lookup x = some c := by
  have q := PySem.W.cellsFrom_some sc.names n [] (.inl h)
  exact Option.isSome_iff_exists.mp q

theorem inv_start {CX : CXT} {P : Program} {w : World} {K : PySem.W.Frag} {mg : Str → Option Value} {base : Heap} {N ps : List Str} {qual : Str} {scope : Scope} {f : Addr} {cd : Value} {A : Around} {outer : List Env} {s s1 : Shared} {H : Hp} {E : XK} {us : List Value} {vs : List V}
    (S : FnScope N ps scope) (hd : A.handled = none) (e0 : Env0 P w K mg base A outer s H) (hl : vs.length = ps.length) (r : Vals vs us)
    (x : InCallC s s.heap.objs.size (bindL (envOfC qual scope s.heap.objs.size f cd).kindOf (ps.zip us) fun _ => none) (cellsFrom (s.heap.objs.size + 1) scope.names []) (bindC (envOfC qual scope s.heap.objs.size f cd).kindOf (ps.zip us) fun _ => none) s1) :
    Inv (cxOf CX P w K mg base N qual scope f cd A outer s H E) [] (start N vs) H s1 := by
  have hpl : ps.length ≤ N.length := by have := congrArg List.length S.pre; rw [List.length_take] at this; omega
  obtain ⟨h1, tk, rfl, hk⟩ := x.done
  have noA : ∀ b : Addr, b ∉ (cxOf CX P w K mg base N qual scope f cd A outer s H E).ex := fun b z => absurd (show b ∈ ([] : List Addr) from z) (by simp)
  refine ⟨⟨e0.mod, S.kind, rfl, rfl, Nat.le_refl _, fun y z c h1 h2 => ?_, fun y hy => ?_, fun y c _ h => ?_, fun _ => hd, Around.frames_deeper e0.frames, .inr ⟨rfl, rfl⟩, fun b z => absurd z (noA b), e0.bs, e0.bsz, fun b _ _ => noA b, fun b z => absurd z (noA b), e0.funs, e0.frf⟩,
    rfl, e0.bare, Un.kept hk, ⟨_, x.toInCall.ns, fun i y v h1 h2 h3 => ?_⟩, fun y c h => ⟨_, x.cell y c h⟩, e0.hok.fresh (Nat.le_refl _), fun y c h => ?_, fun p hp => absurd (show p ∈ ([] : List (Addr × Obj)) from hp) (by simp), e0.hok.kept hk, ?_⟩
  · exact name_of_addr x.apart (PySem.mem_of_lookup h1) (PySem.mem_of_lookup h2)
  · have hy : scope.names.lookup y = some .cell ∨ scope.names.lookup y = some .free := hy
    rcases hy with hy | hy
    · exact cell_has hy
    · exact absurd rfl (S.nofree _ (PySem.mem_of_lookup hy))
  · exact Nat.le_of_lt (x.above y c (PySem.mem_of_lookup h))
  · have hi : i < vs.length := by
      unfold start at h2
      by_cases hi : i < vs.length
      · exact hi
      · rw [List.getElem?_append_right (by simpa using hi)] at h2
        rw [List.getElem?_replicate] at h2
        split at h2 <;> cases h2
    have ha : vs[i]? = some v := by
      unfold start at h2
      rw [List.getElem?_append_left (by simpa using hi), List.getElem?_map] at h2
      cases e : vs[i]? with
      | none => rw [e] at h2; cases h2
      | some a => rw [e] at h2; cases h2; rfl
    obtain ⟨u, hu, rv⟩ := r.get ha
    have hp : ps[i]? = some y := by
      rw [← S.pre, List.getElem?_take_of_lt (by omega)]; exact h1
    have ndP : ps.Nodup := by rw [← S.pre]; exact S.nd.sublist (List.take_sublist _ _)
    refine ⟨u, rv, ?_⟩
    rcases S.par y (List.mem_of_getElem? hp) with k | k
    · exact .inl ⟨k, bindL_get ndP hp hu k⟩
    · obtain ⟨c, e⟩ := cell_has (n := s.heap.objs.size + 1) k
      refine .inr ⟨.inl k, c, e, ?_⟩
      have q := x.cell y c e
      rw [bindC_get ndP hp hu (by show scope.names.lookup y ≠ _; rw [k]; decide)] at q
      exact q
  · exact e0.hok.fresh (Nat.le_of_lt (x.above y c (PySem.mem_of_lookup h)))
  · unfold start
    show _ = N.length
    rw [List.length_append, List.length_map, List.length_replicate]
    omega

/-- THE RULE: a def (or a method) of the text, by its body. The body's reading t is chosen for each entry; it is run at the parameters' values -/
theorem fn_of {CX : CXT} {P : Program} {w : World} {K : PySem.W.Frag} {mg : Str → Option Value} {base : Heap} {k : Nat} {f : Addr} {name qual : Str} {params : Arguments} {body : List Stmt} {scope : Scope} {dV kV doc pm cdv ct oc : Value} {an od : Option Addr}
    {osl : Array (Option Value)} {N ps : List Str} {sp : Sp} (lk : K.lookup f = some ⟨oc, od, .func (PySem.W.fnOf name qual params body scope dV kV doc pm an cdv ct), osl⟩) (hcd : PySem.W.codeIn K cdv qual = true) (S : FnScope N ps scope)
    (len : ∀ vs H Q E, sp vs H Q E → vs.length = ps.length)
    (hbody : ∀ (A : Around) (outer : List Env) (s : Shared) (H : Hp) (vs : List V) (Q : VK) (E : XK), Room k (A.deeper (envOfC qual scope s.heap.objs.size f cdv)) → sp vs H Q E →
      ∃ t, PSs (cxOf CX P w K mg base N qual scope f cdv A outer s H E) body t ∧ t { nx := fun _ H' => Q .non H', rt := Q } (start N vs) H) :
    FnOk P w K mg base CX (k + 1) f (PySem.W.fnOf name qual params body scope dV kV doc pm an cdv ct) ps sp := by
  refine ⟨len, fun A outer s H args us vs Q E hr e0 hb r hsp => ?_⟩
  have hl := len _ _ _ _ hsp
  have KX : K.In s.heap := e0.mod.kin.keeps fun b o e => (e0.bs b o e).1
  have lim : s.heap.NoLimit := e0.mod.nolimit.keeps fun b o e => (e0.bs b o e).1
  have hkind : ∀ y ∈ ps.zip us, scope.names.lookup y.1 = some .local ∨ (scope.names.lookup y.1 = some .cell ∧ ((cellsFrom (s.heap.objs.size + 1) scope.names []).lookup y.1).isSome = true) := fun ⟨n, v⟩ hy => by
    rcases S.par n (List.of_mem_zip hy).1 with q | q
    · exact .inl q
    · exact .inr ⟨q, PySem.W.cellsFrom_some _ _ _ (.inl q)⟩
  refine codeAny_call_function hr.depth (KX _ _ lk) rfl S.co S.gen rfl (PySem.W.codeRec_of KX hcd) (hb _ _ _ _ ?_)
  refine wpAny_newFunctionEnv_cells S.kind hkind fun env he s1 x => ?_
  subst he
  refine ⟨lim.keeps x.toInCall.keep, codeAny_func ?_⟩
  obtain ⟨t, ht, hq⟩ := hbody A outer s H vs Q E (hr.deeper _) hsp
  have I : Inv (cxOf CX P w K mg base N qual scope f cdv A outer s H E) [] (start N vs) H s1 := inv_start S hr.hd e0 hl r x
  refine wpAny_mono (ht [] s1 (start N vs) H _ I hq) (fun fl s' hs => ?_) fun e s' hs => hs
  have fin : ∀ {σ' : St} {H' : Hp} {v : V} {u : Value}, Inv (cxOf CX P w K mg base N qual scope f cdv A outer s H E) [] σ' H' s' → RelV v u → Q v H' → CE outer P w H s Q u s' :=
    fun {σ' H' v u} J rv q => ⟨v, H', J.os, J.bare, J.base, J.hok, rv, q⟩
  cases fl with
  | ret u =>
    obtain ⟨v, σ', H', J, rv, q⟩ := hs
    exact fin J rv q
  | next =>
    obtain ⟨σ', H', J, q⟩ := hs
    exact fin (v := V.non) (u := Value.none) J rfl q
  | brk =>
    obtain ⟨_, _, _, q⟩ := hs
    exact False.elim q
  | cont =>
    obtain ⟨_, _, _, q⟩ := hs
    exact False.elim q
end L2

namespace L2
open PySem PySem.Spec PyProof.Rows
section
variable {X : Cx} {x : Str} {p pos : Pos} {e : Expr} {es : List Expr} {t : TA} {id T : String} {r : List V → Hp → VK → Prop}

def tCB (r : List V → Hp → VK → Prop) (t : TA) : TE := fun σ H Q => t σ H fun vs H1 => r vs H1 Q
/-- f(e, ..), f a built-in function -/
theorem pe_callB (hc : CallR X (.builtin id) r) (hg : Gl X x) (hm : X.mg x = none) (hv : bootBuiltins x = some (.builtin id)) (ha : PA X (e :: es) t) (hn : x ≠ "__name__" := by decide) (hdb : (x == ("__debug__" : Str)) = false := by decide)
    (he : starEach (e :: es) X.env = (false, eval e X.env) :: starEach es X.env := by rfl) (hpl : (backTo pos (starEach es X.env)).any (·.1) = false := by rfl) : PE X (.Call (.Name x p) (e :: es) [] pos) (tCB r t) := by
  intro pins s σ H Q I h
  refine wpAny_Call_Name_kw (ld_blt I hg hm hv ?_ hn hdb)
  exact PyProof.Rows.callWith_builtin1 (thn (ha pos pins s σ H _ I h) fun us s1 ⟨vs, H1, I1, r1, q1⟩ => hc pins s1 σ H1 vs us Q I1 r1 q1) he hpl
/-- T(e, ..), T a built-in type -/
theorem pe_callTy (hc : CallR X (.type T) r) (hg : Gl X x) (hm : X.mg x = none) (hv : bootBuiltins x = some (.type T)) (ha : PA X (e :: es) t) (hn : x ≠ "__name__" := by decide) (hdb : (x == ("__debug__" : Str)) = false := by decide)
    (he : starEach (e :: es) X.env = (false, eval e X.env) :: starEach es X.env := by rfl) (hpl : (backTo pos (starEach es X.env)).any (·.1) = false := by rfl) : PE X (.Call (.Name x p) (e :: es) [] pos) (tCB r t) := by
  intro pins s σ H Q I h
  refine wpAny_Call_Name_kw (ld_blt I hg hm hv ?_ hn hdb)
  exact PyProof.Rows.callWith_type1 (thn (ha pos pins s σ H _ I h) fun us s1 ⟨vs, H1, I1, r1, q1⟩ => hc pins s1 σ H1 vs us Q I1 r1 q1) he hpl
/-- T() -/
theorem pe_callTy0 (hc : CallR X (.type T) r) (hg : Gl X x) (hm : X.mg x = none) (hv : bootBuiltins x = some (.type T)) (hn : x ≠ "__name__" := by decide) (hdb : (x == ("__debug__" : Str)) = false := by decide) :
    PE X (.Call (.Name x p) [] [] pos) (tCB r tNil) := by
  intro pins s σ H Q I h
  refine wpAny_Call_Name_kw (ld_blt I hg hm hv ?_ hn hdb)
  exact PyProof.Rows.callWith_type0 (hc pins s σ H [] [] Q I .nil h)
end
end L2

namespace HT
open PySem PyProof.Rows

/-- t < u of tuples of ints -/
def lexLt : List Int → List Int → Bool
  | [], [] => false
  | [], _ :: _ => true
  | _ :: _, [] => false
  | x :: xs, y :: ys => if x = y then lexLt xs ys else decide (x < y)
theorem lexLt_cons (x y : Int) (xs ys : List Int) : lexLt (x :: xs) (y :: ys) = if x = y then lexLt xs ys else decide (x < y) := rfl
theorem lexLt_nil_nil : lexLt [] [] = false := rfl
theorem lexLt_nil_cons (y : Int) (ys : List Int) : lexLt [] (y :: ys) = true := rfl
theorem lexLt_cons_nil (x : Int) (xs : List Int) : lexLt (x :: xs) [] = false := rfl

theorem eqAt_int (A : Around) (s : Shared) (a : Int) (t : Tok) (c : Int) (u : Tok) : ∃ e, SeqAt.EqAt A s (.int a t) (.int c u) e ∧ (e = true ↔ a = c) :=
  ⟨(a == c), SeqAt.EqAt.int_int a t c u, by simp⟩
theorem rcLt_int (A : Around) (s : Shared) (a : Int) (t : Tok) (c : Int) (u : Tok) (prog : Program) (w : World) (E : Value → Shared → Prop) (Q : Value → Shared → Prop) (h : Q (.bool (decide (a < c))) s) :
    wpAny (model prog w) A (richCompare .Lt (.int a t) (.int c u)) Q E s :=
  (PyProof.Rows.lt_int h : wpAny (model prog w) A (compareOp .Lt (.int a t) (.int c u)) Q E s)

section
open PySem.SeqAt
open PySem.AutoSeq1 (wpAny_loadPart')
open PySem.MeetsSeq PySem.MeetsSeq2 PySem.MeetsSeq3

theorem tuple_lt_ints (l b : Addr) (items items2 : Array Value) (n n2 : Nat) (dd dd2 : Option Addr) (sl sl2 : Array (Option Value)) (ns ms : List Int) (hi : IntsAre items.toList ns) (hj : IntsAre items2.toList ms) :
    Meets (Builtin.«tuple.__lt__» ⟨[.ref l, .ref b], []⟩)
      (fun _ R s => s.heap.get? l = some { cls := .type "tuple", dict := dd, data := .seq items n, slots := sl } ∧ s.heap.get? b = some { cls := .type "tuple", dict := dd2, data := .seq items2 n2, slots := sl2 } ∧
        R (.ok (.ret (.bool (lexLt ns ms)))) s) :=
  .of_wp fun prog w A R s h => by
    obtain ⟨hp, g, d, tk, os⟩ := s; obtain ⟨hl, hb, h⟩ := h
    have f2 := AutoSeq1.sub_tuple_tuple
    have z1 : items.size = ns.length := by rw [← hi.length]; simp
    have z2 : items2.size = ms.length := by rw [← hj.length]; simp
    wp_walk using wpAny_loadPart' hl, wpAny_loadPart' hb, wpAny_forIn_list _ (fun rest b s' => b.1 = none ∧ s' = ⟨hp, g, d, tk, os⟩ ∧ ∃ (vs ws : List Value) (ns' ms' : List Int), rest = vs.zip ws ∧
      IntsAre vs ns' ∧ IntsAre ws ms' ∧ ns'.length + items2.size = ms'.length + items.size ∧ R (.ok (.ret (.bool (lexLt ns' ms')))) ⟨hp, g, d, tk, os⟩) _
    case turn =>
      rintro ⟨y, x⟩ rest b s' ⟨hb', rfl, vs, ws, ns', ms', hz, hvi, hwi, hlen, hR⟩
      cases hvi with
      | nil => rw [List.zip_nil_left] at hz; cases hz
      | cons a t hvi' =>
        cases hwi with
        | nil => rw [List.zip_nil_right] at hz; cases hz
        | cons c u hwi' =>
          rw [List.zip_cons_cons] at hz
          injection hz with hyx hrest
          injection hyx with hy hx
          subst hy hx
          rw [lexLt_cons] at hR
          simp only [List.length_cons] at hlen
          obtain ⟨e, he, hiff⟩ := eqAt_int A.in1 ⟨hp, g, d, tk, os⟩ a t c u
          refine wpAny_bind (he prog w _ _ ?_)
          cases e with
          | true =>
            rw [if_pos (hiff.mp rfl)] at hR
            wp_walk
            exact ⟨rfl, rfl, _, _, _, _, hrest, hvi', hwi', by omega, hR⟩
          | false =>
            rw [if_neg (fun q => absurd (hiff.mpr q) Bool.false_ne_true)] at hR
            have hri := rcLt_int A.in1 ⟨hp, g, d, tk, os⟩ a t c u prog w
            wp_walk using hri
            exact ⟨_, rfl, by simpa using hR⟩
    case fin =>
      rintro ⟨b1, b2⟩ s' ⟨hb', rfl, vs, ws, ns', ms', hz, hvi, hwi, hlen, hR⟩
      simp only at hb'
      subst hb'
      have hv : lexLt ns' ms' = decide (items.size < items2.size) := by
        cases hvi with
        | nil =>
          cases hwi with
          | nil =>
            simp only [List.length_nil] at hlen
            rw [lexLt_nil_nil]
            exact (decide_eq_false (by omega)).symm
          | cons c u hw =>
            simp only [List.length_nil, List.length_cons] at hlen
            rw [lexLt_nil_cons]
            exact (decide_eq_true (by omega)).symm
        | cons a t hv =>
          cases hwi with
          | nil =>
            simp only [List.length_nil, List.length_cons] at hlen
            rw [lexLt_cons_nil]
            exact (decide_eq_false (by omega)).symm
          | cons c u hw =>
            rw [List.zip_cons_cons] at hz
            cases hz
      rw [hv] at hR
      wp_walk
      exact ⟨_, rfl, by simpa [Builtin.Tuple.tupleCompareSizes] using hR⟩
    case h =>
      exact ⟨rfl, rfl, items.toList, items2.toList, ns, ms, rfl, hi, hj, by omega, h⟩
end

section
variable {prog : Program} {w : World} {A : Around} {E : Value → Shared → Prop} {s : Shared}

theorem lt_tupInts {l b : Addr} {items items2 : Array Value} {ns ms : List Int} {Q : Value → Shared → Prop} (hl : IsTup s.heap l items) (hb : IsTup s.heap b items2) (hi : IntsAre items.toList ns) (hj : IntsAre items2.toList ms)
    (hu : A.units < cLine) (h : Q (.bool (lexLt ns ms)) s) : wpAny (model prog w) A (compareOp .Lt (.ref l) (.ref b)) Q E s := by
  obtain ⟨⟨cls, dd, data, sl⟩, ho, hc, n, hd⟩ := id hl
  obtain ⟨⟨cls2, dd2, data2, sl2⟩, ho2, hc2, n2, hd2⟩ := id hb
  simp only at hc hd hc2 hd2
  subst hc hd hc2 hd2
  exact richCompare_meets_room (op := .Lt) ⟨_, ho, rfl⟩ ⟨_, ho2, rfl⟩ PySem.F.slot_tuple_lt PySem.F.entry_tuple_lt (PySem.F.args_tuple_lt_2 _ _) (tuple_lt_ints l b items items2 n n2 dd dd2 sl sl2 ns ms hi hj)
    ⟨ho, ho2, show Value.bool (lexLt ns ms) ≠ Value.notImplemented ∧ Q (.bool (lexLt ns ms)) s from ⟨(fun x => nomatch x), h⟩⟩ hu

/-- t + u, t not empty -/
theorem cat_tup {t b : Addr} {vs ws : List Value} {Q : Value → Shared → Prop} (ht : IsTup s.heap t vs.toArray) (hb : IsTup s.heap b ws.toArray) (hv : vs ≠ [])
    (h1 : ws = [] → Q (.ref t) s) (h2 : ws ≠ [] → Q (.ref s.heap.objs.size) { s with heap := s.heap.push { cls := .type "tuple", data := .seq (vs ++ ws).toArray } })
    (hsz : vs.length + ws.length ≤ sizeLine) : wpAny (model prog w) A (binaryOp .Add (.ref t) (.ref b)) Q E s := by
  obtain ⟨⟨cls, dd, data, sl⟩, ho, hc, n, hd⟩ := id ht
  obtain ⟨⟨cls2, dd2, data2, sl2⟩, ho2, hc2, n2, hd2⟩ := id hb
  simp only at hc hd hc2 hd2
  subst hc hd hc2 hd2
  have e : vs.toArray ++ ws.toArray = (vs ++ ws).toArray := by simp
  by_cases hw : ws = []
  · exact concat_meets ⟨_, ho, rfl⟩ ⟨_, ho2, rfl⟩ noFill_tuple_add seq_tuple_add PySem.F.slot_tuple_add PySem.F.entry_tuple_add (PySem.F.args_tuple_add_2 _ _)
      (tuple_addW1 t b vs.toArray ws.toArray n n2 dd dd2 sl sl2 (by simpa using hv) (by simp [hw])) ⟨ho, ho2, h1 hw⟩
  · refine concat_meets ⟨_, ho, rfl⟩ ⟨_, ho2, rfl⟩ noFill_tuple_add seq_tuple_add PySem.F.slot_tuple_add PySem.F.entry_tuple_add (PySem.F.args_tuple_add_2 _ _)
      (tuple_addW2 t b vs.toArray ws.toArray n n2 dd dd2 sl sl2 (by simpa using hv) (by simpa using hw) (by rw [List.size_toArray, List.size_toArray]; exact hsz)) ⟨ho, ho2, ?_⟩
    rw [e]
    exact h2 hw

/-! ### t[a:b], not the whole -/
/-- a slice's bound as a place among n (d where it is left out) -/
def sIx (n d : Nat) : Option Int → Nat
  | none => d
  | some v => if v < 0 then (v + (n : Int)).toNat else min v.toNat n
theorem sIx_none (n d : Nat) : sIx n d none = d := rfl
theorem sIx_nat (n d k : Nat) : sIx n d (some (k : Int)) = min k n := by
  show (if (k : Int) < 0 then ((k : Int) + (n : Int)).toNat else min (k : Int).toNat n) = min k n
  rw [if_neg (by omega), Int.toNat_natCast]
theorem sIx_le (n d : Nat) (hd : d ≤ n) (o : Option Int) : sIx n d o ≤ n := by
  cases o with
  | none => exact hd
  | some v =>
    show (if v < 0 then (v + (n : Int)).toNat else min v.toNat n) ≤ n
    by_cases hv : v < 0
    · rw [if_pos hv]; omega
    · rw [if_neg hv]; exact Nat.min_le_right _ _
theorem clip_eq (v : Int) (n d : Nat) : (if v < 0 then max (v + (n : Int)) 0 else min v (n : Int)) = ((sIx n d (some v) : Nat) : Int) := by
  show (if v < 0 then max (v + (n : Int)) 0 else min v (n : Int)) = (((if v < 0 then (v + (n : Int)).toNat else min v.toNat n) : Nat) : Int)
  by_cases hv : v < 0
  · simp only [if_pos hv]; omega
  · simp only [if_neg hv]; omega
theorem adjust_gen (lo hi : Option Int) (n : Nat) : Builtin.Slice.sliceAdjust lo hi 1 (n : Int) = (((sIx n 0 lo : Nat) : Int), ((sIx n n hi : Nat) : Int)) := by
  have h1 : ¬ ((1 : Int) < 0) := by omega
  unfold Builtin.Slice.sliceAdjust
  simp only [h1, if_false]
  refine Prod.ext ?_ ?_
  · cases lo with
    | none => rfl
    | some v => exact clip_eq v n 0
  · cases hi with
    | none => rfl
    | some v => exact clip_eq v n n
theorem places_gen (i j : Nat) : Builtin.Slice.slicePlaces (i : Int) (j : Int) 1 = j - i := by
  unfold Builtin.Slice.slicePlaces
  have h1 : (1 : Int) > 0 := by omega
  simp only [h1, if_true, Int.ediv_one]
  split <;> omega
theorem slicePart_ {v : Value} {o : Option Int} {Q : Option Int → Shared → Prop} (p : IsPart v o) (h : Q o s) : wpAny (model prog w) A (Builtin.Slice.slicePartIndex v) Q E s := by
  cases p with
  | none => exact slicePart_none h
  | int i t => exact slicePart_int h
theorem sliceApplied_gen {sl : Addr} {vl vu : Value} {lo hi : Option Int} {n : Nat} {Q : Int × Int × Nat → Shared → Prop} (hs : s.heap.IsSliceOf sl vl vu .none) (pl : IsPart vl lo) (pu : IsPart vu hi)
    (h : Q (((sIx n 0 lo : Nat) : Int), 1, sIx n n hi - sIx n 0 lo) s) : wpAny (model prog w) A (Builtin.Slice.sliceApplied (.ref sl) (pure (n : Int))) Q E s := by
  obtain ⟨os, hos, hcs, hds⟩ := id hs
  unfold Builtin.Slice.sliceApplied Builtin.Slice.sliceFields
  refine wpAny_bind (wpAny_bind (wpAny_field hos hds (x := vl) rfl (wpAny_bind (wpAny_field hos hds (x := vu) rfl (wpAny_bind (wpAny_field hos hds (x := .none) rfl (wpAny_pure ?_)))))))
  refine wpAny_bind (slicePart_none ?_)
  show wpAny _ _ (if ((1 : Int) == 0) = true then _ else _) _ _ s
  rw [if_neg (by decide)]
  refine wpAny_bind (slicePart_ pl (wpAny_bind (slicePart_ pu (wpAny_bind (wpAny_pure ?_)))))
  show wpAny _ _ (match Builtin.Slice.sliceAdjust lo hi 1 (n : Int) with | (lo, hi) => pure (lo, (1 : Int), Builtin.Slice.slicePlaces lo hi 1)) _ _ s
  rw [adjust_gen lo hi n]
  show wpAny _ _ (pure (((sIx n 0 lo : Nat) : Int), (1 : Int), Builtin.Slice.slicePlaces ((sIx n 0 lo : Nat) : Int) ((sIx n n hi : Nat) : Int) 1)) _ _ s
  rw [places_gen]
  exact wpAny_pure h
theorem pick_gen (xs : Array Value) (i k : Nat) : ((List.range k).filterMap fun (m : Nat) => xs[((i : Int) + (m : Int) * 1).toNat]?).toArray = ((xs.toList.drop i).take k).toArray := by
  have e : (fun (m : Nat) => xs[((i : Int) + (m : Int) * 1).toNat]?) = fun m => xs[i + m]? := by
    funext m
    have : ((i : Int) + (m : Int) * 1).toNat = i + m := by omega
    rw [this]
  rw [e]
  have := pick_run xs i k
  rw [List.filterMap_map] at this
  have e2 : ((fun x => xs[x]?) ∘ fun x => i + x) = fun m => xs[i + m]? := rfl
  rw [e2] at this
  rw [this]

theorem getItem_tuple_cut {t sl : Addr} {items : Array Value} {vl vu : Value} {lo hi : Option Int} {Q : Value → Shared → Prop} (ht : IsTup s.heap t items) (hs : s.heap.IsSliceOf sl vl vu .none) (pl : IsPart vl lo) (pu : IsPart vu hi)
    (hw : ¬ (sIx items.size 0 lo = 0 ∧ sIx items.size items.size hi = items.size))
    (h : Q (.ref s.heap.objs.size) { s with heap := s.heap.push { cls := .type "tuple", data := .seq ((items.toList.drop (sIx items.size 0 lo)).take (sIx items.size items.size hi - sIx items.size 0 lo)).toArray } })
    (hsz : items.size ≤ sizeLine) : wpAny (model prog w) A (getItem (.ref t) (.ref sl)) Q E s := by
  have htake : sizeOk (.seq ((items.toList.drop (sIx items.size 0 lo)).take (sIx items.size items.size hi - sIx items.size 0 lo)).toArray) := by
    show ((items.toList.drop (sIx items.size 0 lo)).take (sIx items.size items.size hi - sIx items.size 0 lo)).toArray.size ≤ sizeLine
    rw [List.size_toArray, List.length_take, List.length_drop, Array.length_toList]
    omega
  have hj : sIx items.size items.size hi ≤ items.size := sIx_le _ _ (Nat.le_refl _) hi
  obtain ⟨os, hos, hcs, hds⟩ := id hs
  have hTs : s.TypeIs (.ref sl) "slice" := ⟨os, hos, hcs⟩
  unfold getItem
  try with_reducible refine wpAny_holding ?_
  first | refine wpAny_bind (wpAny_pure ?_) | skip
  refine wpAny_bind (wpAny_sequenceKey ht.typeIs (by decide) ?_)
  refine wpAny_bind (wpAny_callSpecial?_slot (name := Str.ofString "__getitem__") ht.typeIs PyProof.Rows.slot_tuple_getitem
    (wpAny_call_entry PyProof.Rows.slot_tuple_getitem ht.typeIs entry_tuple_getitem ?_ (args_tuple_getitem _ _)))
  show wpAny _ _ (Builtin.Tuple.tupleItemsOf (.ref t) >>= _) _ _ s
  refine wpAny_bind (tupleItemsOf_ ht ?_)
  refine wpAny_bind (wpAny_typeOf hTs ?_)
  rw [if_pos (by decide)]
  refine wpAny_bind (sliceApplied_gen hs pl pu ?_)
  have hno : ¬ ((((sIx items.size 0 lo : Nat) : Int) == 0 && (1 : Int) == 1 && (sIx items.size items.size hi - sIx items.size 0 lo) == items.size) = true) := by
    intro q
    rw [Bool.and_eq_true, Bool.and_eq_true] at q
    have q1 : ((sIx items.size 0 lo : Nat) : Int) = 0 := eq_of_beq q.1.1
    have q2 : sIx items.size items.size hi - sIx items.size 0 lo = items.size := eq_of_beq q.2
    exact hw ⟨by omega, by omega⟩
  show wpAny _ _ (if (((sIx items.size 0 lo : Nat) : Int) == 0 && (1 : Int) == 1 && (sIx items.size items.size hi - sIx items.size 0 lo) == items.size) = true then _ else _) _ _ s
  rw [if_neg hno, pick_gen]
  first
    | exact wpAny_bind (m := Builtin.Tuple.tupleExact _) (wpAny_newObj_type (wpAny_pure ⟨_, rfl, wpAny_pure h⟩) htake)
    | exact wpAny_bind (m := Builtin.Tuple.tupleExact _) (wpAny_newObj_type (wpAny_bind (wpAny_pure (wpAny_pure ⟨_, rfl, wpAny_pure h⟩))) htake)
    | exact wpAny_bind (wpAny_bind (m := Builtin.Tuple.tupleExact _) (wpAny_newObj_type (wpAny_pure (wpAny_pure ⟨_, rfl, wpAny_pure h⟩)) htake))
    | exact wpAny_bind (wpAny_bind (m := Builtin.Tuple.tupleExact _) (wpAny_newObj_type (wpAny_pure ⟨_, rfl, wpAny_pure h⟩) htake))
end
end HT

namespace L2
open PySem PySem.Spec PyProof.Rows

/-! ### the parts of a slice -/
abbrev TO := St → Hp → (Option Int → Hp → Prop) → Prop
/-- a slice's part (left out, or an int) -/
def PO (X : Cx) (e : Option Expr) (t : TO) : Prop :=
  ∀ (pins : List (Addr × Obj)) (s : Shared) (σ : St) (H : Hp) (Q : Option Int → Hp → Prop), Inv X pins σ H s → t σ H Q →
    wpAny (model X.prog X.w) X.A (evalPart e X.env) (fun u s' => ∃ o H', Inv X pins σ H' s' ∧ IsPart u o ∧ Q o H') X.xe s
def tNoPart : TO := fun _ H Q => Q none H
def tPart (t : TE) : TO := fun σ H Q => t σ H fun x H1 => ∃ i, x = .int i ∧ Q (some i) H1

theorem intsAre_of {ns : List Int} : ∀ {us : List Value}, Vals (ns.map V.int) us → IntsAre us ns := by
  induction ns with
  | nil => intro us r; rw [List.map_nil] at r; cases r; exact .nil
  | cons n ns ih =>
    intro us r
    rw [List.map_cons] at r
    cases r with
    | cons r1 r2 =>
      obtain ⟨t, e⟩ := r1
      subst e
      exact .cons n t (ih r2)

section
variable {X : Cx} {e : Expr} {te : TE} {lo hi : Option Expr} {tl th : TO} {pos p2 : Pos}

theorem po_none : PO X none tNoPart := by
  intro pins s σ H Q I h
  rw [evalPart_none]
  exact wpAny_pure ⟨none, H, I, .none, h⟩
theorem po_some (h : PE X e te) : PO X (some e) (tPart te) := by
  intro pins s σ H Q I hw
  rw [evalPart_some]
  refine thn (h pins s σ H _ I hw) fun u s1 ⟨x, H1, I1, r1, q1⟩ => ?_
  obtain ⟨i, rfl, q⟩ := q1
  obtain ⟨t, rfl⟩ := r1
  exact ⟨some i, H1, I1, .int i t, q⟩

/-- what a slice of a value is, by values: the slice object stands at sl -/
def SlR (X : Cx) (r : V → Option Int → Option Int → Hp → VK → Prop) : Prop :=
  ∀ (pins : List (Addr × Obj)) (s : Shared) (σ : St) (H : Hp) (x : V) (v vl vu : Value) (lo hi : Option Int) (sl : Addr) (Q : VK), Inv X pins σ H s → RelV x v → s.heap.IsSliceOf sl vl vu .none → IsPart vl lo → IsPart vu hi → r x lo hi H Q →
    ∃ T id, typeLookup (.type T) "__getitem__" = pure (some (.builtin id)) ∧ s.TypeIs v T ∧ wpAny (model X.prog X.w) X.A (getItem v (.ref sl)) (EP X pins σ Q) X.xe s
theorem SlR.or {r r' : V → Option Int → Option Int → Hp → VK → Prop} (h : SlR X r) (h' : SlR X r') : SlR X (fun x lo hi H Q => r x lo hi H Q ∨ r' x lo hi H Q) := by
  intro pins s σ H x v vl vu lo hi sl Q I rx hs pl pu q
  rcases q with q | q
  · exact h pins s σ H x v vl vu lo hi sl Q I rx hs pl pu q
  · exact h' pins s σ H x v vl vu lo hi sl Q I rx hs pl pu q
def tSl (r : V → Option Int → Option Int → Hp → VK → Prop) (te : TE) (tl th : TO) : TE := fun σ H Q => te σ H fun x H1 => tl σ H1 fun l H2 => th σ H2 fun u H3 => r x l u H3 Q
/-- a[lo:hi], any a -/
theorem pe_slice {r : V → Option Int → Option Int → Hp → VK → Prop} (hr : SlR X r) (he : PE X e te) (hl : PO X lo tl) (hu : PO X hi th) : PE X (.Subscript e (.Slice lo hi none p2) pos) (tSl r te tl th) := by
  intro pins s σ H Q I h
  refine Subscript_ (thn (he pins s σ H _ I h) fun v s1 ⟨x, H1, I1, r1, q1⟩ => ?_)
  refine wpAny_Slice (thn (hl pins s1 σ H1 _ I1 q1) fun vl s2 ⟨l, H2, I2, pl, q2⟩ => thn (hu pins s2 σ H2 _ I2 q2) fun vu s3 ⟨u, H3, I3, pu, q3⟩ => ?_)
  rw [evalPart_none]
  refine wpAny_pure ?_
  have I4 : Inv X pins σ H3 { s3 with heap := s3.heap.push { cls := .type "slice", data := .fields #[vl, vu, .none] } } := I3.kept (t' := s3.toks) fun b ob q => Heap.get?_push_of_some _ q
  obtain ⟨T, id, hT, ht, hg⟩ := hr pins { s3 with heap := s3.heap.push { cls := .type "slice", data := .fields #[vl, vu, .none] } } σ H3 x v vl vu l u s3.heap.objs.size Q I4 r1 (Heap.IsSliceOf.new ..) pl pu q3
  show wpAny (model X.prog X.w) X.A (subscriptTail e (.Slice lo hi none p2) v (.ref s3.heap.objs.size)) (EP X pins σ Q) X.xe { s3 with heap := s3.heap.push { cls := .type "slice", data := .fields #[vl, vu, .none] } }
  exact tail_any (ops := [.ref s3.heap.objs.size, v]) ht hT hg (by with_unfolding_all rfl)

/-- the items of xs[lo:hi] -/
def cutV (xs : List V) (lo hi : Option Int) : List V := (xs.drop (HT.sIx xs.length 0 lo)).take (HT.sIx xs.length xs.length hi - HT.sIx xs.length 0 lo)
theorem cutV_length (xs : List V) (lo hi : Option Int) : (cutV xs lo hi).length ≤ xs.length := by
  unfold cutV
  rw [List.length_take, List.length_drop]
  omega
/-- t[lo:hi], not the whole of it (the whole would be t itself) -/
def rSlT (K : PySem.W.Frag) : V → Option Int → Option Int → Hp → VK → Prop := fun x lo hi H Q => ∃ a xs, x = .ref a ∧ SqT K H a xs ∧
  ¬ (HT.sIx xs.length 0 lo = 0 ∧ HT.sIx xs.length xs.length hi = xs.length) ∧ ∀ p, H p = none → Q (.ref p) (upd H p (.tup (cutV xs lo hi)))
theorem sl_tup : SlR X (rSlT X.K) := by
  intro pins s σ H x v vl vu lo hi sl Q I rx hs pl pu h
  obtain ⟨a, xs, rfl, hx, hw, q⟩ := h
  cases rx
  obtain ⟨its, r, ht, hz⟩ := I.tuple hx
  have hlen : its.toArray.size = xs.length := by rw [List.size_toArray]; exact r.length.symm
  refine ⟨"tuple", _, PyProof.Rows.slot_tuple_getitem.lookup, ht.typeIs, ?_⟩
  refine HT.getItem_tuple_cut ht hs pl pu (by rw [hlen]; exact hw) ?_ (by rw [hlen]; exact hz)
  rw [hlen]
  refine ⟨.ref s.heap.objs.size, _, I.laid (t' := s.toks) (o := .tup (cutV xs lo hi)) (fun b ob q => Heap.get?_push_of_some _ q) (Nat.le_refl _) ?_, rfl, q _ (I.hok.fresh (Nat.le_refl _))⟩
  exact ⟨Nat.le_trans (cutV_length xs lo hi) hz, _, (r.drop (HT.sIx xs.length 0 lo)).take (HT.sIx xs.length xs.length hi - HT.sIx xs.length 0 lo), IsTup.new _ _⟩

/-! ### t < u, t + u -/
def rLtT (K : PySem.W.Frag) : R2 := fun x y H Q => ∃ a b ns ms, x = .ref a ∧ y = .ref b ∧ SqT K H a (ns.map V.int) ∧ SqT K H b (ms.map V.int) ∧ Q (.bl (HT.lexLt ns ms)) H
theorem op_ltT (hu : X.A.units < cLine) : OpR X (compareOp .Lt) (rLtT X.K) := by
  intro pins s σ H x y v u Q I rx ry h
  obtain ⟨a, b, ns, ms, rfl, rfl, ha, hb, q⟩ := h
  cases rx
  cases ry
  obtain ⟨its, r1, p1, _⟩ := I.tuple ha
  obtain ⟨its2, r2, p2, _⟩ := I.tuple hb
  have i1 : IntsAre its.toArray.toList ns := intsAre_of r1
  have i2 : IntsAre its2.toArray.toList ms := intsAre_of r2
  exact HT.lt_tupInts p1 p2 i1 i2 hu ⟨.bl (HT.lexLt ns ms), H, I, rfl, q⟩
/-- t + u, t not empty: u empty gives t itself -/
def rCatT (K : PySem.W.Frag) : R2 := fun x y H Q => ∃ a b xs ys, x = .ref a ∧ y = .ref b ∧ SqT K H a xs ∧ SqT K H b ys ∧ xs ≠ [] ∧ xs.length + ys.length ≤ sizeLine ∧
  (ys = [] → Q (.ref a) H) ∧ (ys ≠ [] → ∀ p, H p = none → Q (.ref p) (upd H p (.tup (xs ++ ys))))
theorem Vals.nil_iff {xs : List V} {us : List Value} (r : Vals xs us) : us = [] ↔ xs = [] := by
  cases r with
  | nil => simp
  | cons _ _ => simp
theorem op_catT : OpR X (binaryOp .Add) (rCatT X.K) := by
  intro pins s σ H x y v u Q I rx ry h
  obtain ⟨a, b, xs, ys, rfl, rfl, ha, hb, hx, hz, q1, q2⟩ := h
  cases rx
  cases ry
  obtain ⟨its, r1, p1, _⟩ := I.tuple ha
  obtain ⟨its2, r2, p2, _⟩ := I.tuple hb
  refine HT.cat_tup p1 p2 (fun z => hx (r1.nil_iff.mp z)) (fun z => ⟨.ref a, H, I, rfl, q1 (r2.nil_iff.mp z)⟩) (fun z => ?_) (by rw [← r1.length, ← r2.length]; exact hz)
  refine ⟨.ref s.heap.objs.size, _, I.laid (t' := s.toks) (o := .tup (xs ++ ys)) (fun b ob q => Heap.get?_push_of_some _ q) (Nat.le_refl _) ?_, rfl, q2 (fun w => z (r2.nil_iff.mpr w)) _ (I.hok.fresh (Nat.le_refl _))⟩
  exact ⟨by rw [List.length_append]; exact hz, _, r1.append r2, IsTup.new _ _⟩
/-- tuple(t) -/
theorem call_tupleT : CallR X (.type "tuple") (fun xs H Q => ∃ a ys, xs = [.ref a] ∧ SqT X.K H a ys ∧ Q (.ref a) H) := by
  intro pins s σ H xs us Q I r h
  obtain ⟨a, ys, rfl, ha, q⟩ := h
  obtain ⟨u, rfl, ru⟩ := vals1 r
  cases ru
  obtain ⟨its, _, p1, _⟩ := I.tuple ha
  exact call_tuple_same (items := its.toArray) p1 ⟨.ref a, H, I, rfl, q⟩
end
end L2

namespace L2
open PySem PySem.Spec PyProof.Rows

/-! ### places -/
/-- the place that an index of any sign means -/
def ixN (n : Nat) (i : Int) : Option Nat := if 0 ≤ i then (if i < n then some i.toNat else none) else if -(n : Int) ≤ i then some (i + n).toNat else none
def atI {α : Type} (xs : List α) (i : Int) : Option α := (ixN xs.length i).bind fun j => xs[j]?
theorem ixN_seq {n : Nat} {i : Int} {j : Nat} (h : ixN n i = some j) : seqIndex? i n = some j ∧ j < n ∧ -(n : Int) ≤ i ∧ i < n := by
  unfold ixN at h
  by_cases h0 : 0 ≤ i
  · rw [if_pos h0] at h
    by_cases h1 : i < n
    · rw [if_pos h1] at h
      have e : i.toNat = j := Option.some.inj h
      exact ⟨by rw [seqIndex_of h0 h1, e], by omega, by omega, h1⟩
    · rw [if_neg h1] at h; cases h
  · rw [if_neg h0] at h
    by_cases h1 : -(n : Int) ≤ i
    · rw [if_pos h1] at h
      have e : (i + n).toNat = j := Option.some.inj h
      exact ⟨by rw [seqIndex_neg (by omega) h1, e], by omega, h1, by omega⟩
    · rw [if_neg h1] at h; cases h
theorem atI_get {α : Type} {xs : List α} {i : Int} {v : α} (h : atI xs i = some v) : ∃ j, seqIndex? i xs.length = some j ∧ xs[j]? = some v ∧ j < xs.length ∧ -(xs.length : Int) ≤ i ∧ i < xs.length := by
  unfold atI at h
  cases e : ixN xs.length i with
  | none => rw [e] at h; cases h
  | some j =>
    rw [e] at h
    obtain ⟨h1, h2, h3, h4⟩ := ixN_seq e
    exact ⟨j, h1, h, h2, h3, h4⟩
theorem atI_nat {α : Type} {xs : List α} {j : Nat} {v : α} (h : xs[j]? = some v) : atI xs (j : Int) = some v := by
  have hj : j < xs.length := (List.getElem?_eq_some_iff.mp h).1
  have e : ixN xs.length (j : Int) = some j := by
    unfold ixN
    rw [if_pos (by omega), if_pos (by omega)]; simp
  unfold atI; rw [e]; exact h
theorem atI_last {α : Type} (xs : List α) (v : α) : atI (xs ++ [v]) (-1) = some v := by
  have hl : (xs ++ [v]).length = xs.length + 1 := by simp
  have e : ixN (xs ++ [v]).length (-1) = some xs.length := by
    unfold ixN
    rw [hl, if_neg (by decide), if_pos (by omega)]
    congr 1
    omega
  unfold atI
  rw [e]
  show (xs ++ [v])[xs.length]? = some v
  simp

/-! ### what may be subscripted -/
/-- what stands as an index of a plain subscript -/
def PlainIx (b : Expr) : Prop := ∀ o i, subscripted b false o i = operate [o, i] (getItem o i)
/-- a subscript by values -/
def IxR (X : Cx) (r : R2) : Prop :=
  ∀ (value slice : Expr) (pins : List (Addr × Obj)) (s : Shared) (σ : St) (H : Hp) (x y : V) (v u : Value) (Q : VK), Inv X pins σ H s → RelV x v → RelV y u → r x y H Q →
    subscripted slice false v u = operate [v, u] (getItem v u) → wpAny (model X.prog X.w) X.A (subscriptTail value slice v u) (EP X pins σ Q) X.xe s
/-- a call of a builtin's method by values: the receiver, the arguments -/
def MtR (X : Cx) (id : String) (r : V → List V → Hp → VK → Prop) : Prop :=
  ∀ (pins : List (Addr × Obj)) (s : Shared) (σ : St) (H : Hp) (x : V) (xs : List V) (v : Value) (us : List Value) (Q : VK), Inv X pins σ H s → RelV x v → Vals xs us → r x xs H Q →
    wpAny (model X.prog X.w) X.A (call (.builtin id) (v :: us)) (EP X pins σ Q) X.xe s
section
variable {X : Cx} {a b : Expr} {ta tb : TE} {pos : Pos}
theorem IxR.or {r r' : R2} (h : IxR X r) (h' : IxR X r') : IxR X (fun x y H Q => r x y H Q ∨ r' x y H Q) := by
  intro value slice pins s σ H x y v u Q I rx ry q hs
  rcases q with q | q
  · exact h value slice pins s σ H x y v u Q I rx ry q hs
  · exact h' value slice pins s σ H x y v u Q I rx ry q hs
theorem MtR.or {id : String} {r r' : V → List V → Hp → VK → Prop} (h : MtR X id r) (h' : MtR X id r') : MtR X id (fun x xs H Q => r x xs H Q ∨ r' x xs H Q) := by
  intro pins s σ H x xs v us Q I rx rs q
  rcases q with q | q
  · exact h pins s σ H x xs v us Q I rx rs q
  · exact h' pins s σ H x xs v us Q I rx rs q
/-- a[b] -/
theorem pe_ix {r : R2} (hr : IxR X r) (ha : PE X a ta) (hb : PE X b tb) (hs : PlainIx b) : PE X (.Subscript a b pos) (tOp r ta tb) := by
  intro pins s σ H Q I h
  exact Subscript_ (binT ha hb I h fun v u s2 x y H2 I2 rx ry q => hr a b pins s2 σ H2 x y v u Q I2 rx ry q (hs _ _))

def rIxL (K : PySem.W.Frag) : R2 := fun x y H Q => ∃ p xs i v, x = .ref p ∧ y = .int i ∧ SqL K H p xs ∧ atI xs i = some v ∧ Q v H
def rIxT (K : PySem.W.Frag) : R2 := fun x y H Q => ∃ p xs i v, x = .ref p ∧ y = .int i ∧ SqT K H p xs ∧ atI xs i = some v ∧ Q v H
def rIxS : R2 := fun x y H Q => ∃ z i c, x = .str z ∧ y = .int i ∧ z.length ≤ sizeLine ∧ atI z.cps.toList i = some c ∧ Q (.str ⟨#[c]⟩) H
theorem ix_list : IxR X (rIxL X.K) := by
  intro value slice pins s σ H x y v u Q I rx ry h hs
  obtain ⟨p, xs, i, z, rfl, rfl, hq, he, q⟩ := h
  cases rx
  obtain ⟨t, rfl⟩ := ry
  obtain ⟨its, r, pl, hz⟩ := I.list hq
  obtain ⟨j, h1, h2, h3, h4, h5⟩ := atI_get he
  obtain ⟨w, ew, rw'⟩ := r.get h2
  have hl := r.length
  have hn := line63
  have fin : EP X pins σ Q w s := ⟨z, H, I, rw', q⟩
  by_cases h0 : 0 ≤ i
  · have hj : i.toNat = j := by
      rw [seqIndex_of h0 h5] at h1
      exact Option.some.inj h1
    exact item_listR pl.isList h0 (by omega) (by rw [hj]; simpa using ew) fin hs
  · have hj : (i + (its.toArray.size : Int)).toNat = j := by
      rw [seqIndex_neg (by omega) h4] at h1
      rw [List.size_toArray, ← hl]
      exact Option.some.inj h1
    exact subscriptTail_builtinR (x := w) pl.isList.typeIs slot_list_getitem.lookup
      (wpAny_getItem_list_neg (Q := fun r s' => r = w ∧ EP X pins σ Q r s') pl.isList (by omega) (by rw [List.size_toArray] <;> omega) (by omega) (by rw [hj]; simpa using ew) ⟨rfl, fin⟩) hs
theorem ix_tup : IxR X (rIxT X.K) := by
  intro value slice pins s σ H x y v u Q I rx ry h hs
  obtain ⟨p, xs, i, z, rfl, rfl, hq, he, q⟩ := h
  cases rx
  obtain ⟨t, rfl⟩ := ry
  obtain ⟨its, r, pl, hz⟩ := I.tuple hq
  obtain ⟨j, h1, h2, h3, h4, h5⟩ := atI_get he
  obtain ⟨w, ew, rw'⟩ := r.get h2
  have hl := r.length
  have hn := line63
  have fin : EP X pins σ Q w s := ⟨z, H, I, rw', q⟩
  exact subscriptTail_builtinR (x := w) pl.typeIs slot_tuple_getitem.lookup
    (getItem_tuple (j := j) (Q := fun r s' => r = w ∧ EP X pins σ Q r s') pl (by omega) (by omega) (by rw [List.size_toArray, ← hl]; exact h1) (by simpa using ew) ⟨rfl, fin⟩) hs
theorem ix_str : IxR X rIxS := by
  intro value slice pins s σ H x y v u Q I rx ry h hs
  obtain ⟨z, i, c, rfl, rfl, hz, he, q⟩ := h
  obtain ⟨t, rfl⟩ := rx
  obtain ⟨t', rfl⟩ := ry
  obtain ⟨j, h1, h2, h3, h4, h5⟩ := atI_get he
  have hl : z.cps.toList.length = z.length := by simp [Str.length]
  rw [hl] at h1 h4 h5
  have hn := line63
  exact tail_any (typeIs_str s z t) slot_str_getitem.lookup (getItem_str (c := c) (by
    have e1 : decide (i < -(2 ^ 63 : Int)) = false := decide_eq_false (by omega)
    have e2 : decide (i ≥ 2 ^ 63) = false := decide_eq_false (by omega)
    rw [e1, e2, Bool.or_false]) (by rw [h1]; simpa using h2) ⟨.str ⟨#[c]⟩, H, I.tok _, ⟨_, rfl⟩, q⟩) hs
/-- list, tuple or str -/
def rIx (K : PySem.W.Frag) : R2 := fun x y H Q => rIxL K x y H Q ∨ rIxT K x y H Q ∨ rIxS x y H Q
theorem ix_seq : IxR X (rIx X.K) := ix_list.or (ix_tup.or ix_str)

/-! ### xs[i] = v, any sign -/
/-- the list's object behind a store -/
theorem mapSeq_set (its : List Value) (n j : Nat) (u : Value) : Obj.mapSeq (·.setIfInBounds j u) { cls := .type "list", data := .seq its.toArray n } = { cls := .type "list", data := .seq (its.set j u).toArray n } := by
  simp [Obj.mapSeq]
theorem Inv.lst {pins : List (Addr × Obj)} {σ : St} {H : Hp} {s : Shared} {p : Addr} {xs : List V} (I : Inv X pins σ H s) (h : H p = some (.lst xs)) :
    ∃ (its : List Value) (n : Nat), Vals xs its ∧ s.heap.get? p = some { cls := .type "list", data := .seq its.toArray n } ∧ xs.length ≤ sizeLine := by
  obtain ⟨z, its, n, r, e⟩ := I.hok p _ h
  exact ⟨its, n, r, e, z⟩
/-- the list at p is written by an update of its object -/
theorem Inv.lstUpd {pins : List (Addr × Obj)} {σ : St} {H : Hp} {s : Shared} {p : Addr} {xs ys : List V} {its its' : List Value} {n n' : Nat} {f : Obj → Obj} (I : Inv X pins σ H s) (h : H p = some (.lst xs))
    (ho : s.heap.get? p = some { cls := .type "list", data := .seq its.toArray n }) (hf : f { cls := .type "list", data := .seq its.toArray n } = { cls := .type "list", data := .seq its'.toArray n' }) (r : Vals ys its') (hz : ys.length ≤ sizeLine) (t : Nat) :
    Inv X pins σ (upd H p (.lst ys)) { s with heap := s.heap.update p f, toks := t } := by
  have e : (s.heap.update p f).get? p = some { cls := .type "list", data := .seq its'.toArray n' } := by
    rw [Heap.get?_update_self f ho (by rw [hf] <;> rfl), hf]
  refine I.write (x := p) (e := p) (by rw [h]; trivial) (.inl rfl) (fun b u hb q => (Heap.get?_update_other _ _ (Ne.symm hb)).trans q) ⟨_, e⟩ ?_
  exact ⟨hz, its', n', r, e⟩
def rSetL : V → V → V → Hp → (Hp → Prop) → Prop := fun o i v H Q => ∃ p xs k j, o = .ref p ∧ i = .int k ∧ H p = some (.lst xs) ∧ ixN xs.length k = some j ∧ Q (upd H p (.lst (xs.set j v)))
theorem set_list : PSet X rSetL := by
  intro pins s σ H o i v ov iv u Q I ro ri rv h
  obtain ⟨p, xs, k, j, rfl, rfl, hp, hj, q⟩ := h
  cases ro
  obtain ⟨t, rfl⟩ := ri
  obtain ⟨its, n, r, ho, hz⟩ := I.lst hp
  obtain ⟨h1, h2, h3, h4⟩ := ixN_seq hj
  have hl := r.length
  have hn := line63
  have I' : Inv X pins σ (upd H p (.lst (xs.set j v))) { s with heap := s.heap.update p (Obj.mapSeq (·.setIfInBounds j u)) } :=
    I.lstUpd hp ho (mapSeq_set its n j u) (r.set rv j) (by rw [List.length_set]; exact hz) s.toks
  by_cases h0 : 0 ≤ k
  · have hk : k.toNat = j := by
      rw [seqIndex_of h0 h4] at h1
      exact Option.some.inj h1
    exact PySem.W.ki_setAt ho h0 (by omega) (by rw [List.size_toArray, ← hl]; exact h4) (by rw [hk]; exact ⟨_, I', q⟩)
  · have hk : (k + (its.toArray.size : Int)).toNat = j := by
      rw [seqIndex_neg (by omega) h3] at h1
      rw [List.size_toArray, ← hl]
      exact Option.some.inj h1
    exact PySem.W.ki_setBack ho (by omega) (by rw [List.size_toArray, ← hl]; exact h3) (by omega) (by rw [hk]; exact ⟨_, I', q⟩)

/-! ### slices -/
theorem slice_bounds (lo hi : Option Int) (n : Nat) : (sliceBounds lo hi none n).1 = ((HT.sIx n 0 lo : Nat) : Int) ∧ (sliceBounds lo hi none n).2.1 = ((HT.sIx n n hi : Nat) : Int) ∧ (sliceBounds lo hi none n).2.2 = 1 := by
  refine ⟨?_, ?_, rfl⟩
  · cases lo with
    | none => simp [sliceBounds, HT.sIx]
    | some i =>
      simp only [sliceBounds, HT.sIx, Option.getD_none, show (1 : Int) > 0 by decide, if_true]
      by_cases h : i < 0
      · simp only [h, if_true] <;> omega
      · simp only [h, if_false] <;> omega
  · cases hi with
    | none => simp [sliceBounds, HT.sIx]
    | some i =>
      simp only [sliceBounds, HT.sIx, Option.getD_none, show (1 : Int) > 0 by decide, if_true]
      by_cases h : i < 0
      · simp only [h, if_true] <;> omega
      · simp only [h, if_false] <;> omega
theorem slicePick_cut (its : List Value) (lo hi : Option Int) : slicePick its.toArray lo hi none = ((its.drop (HT.sIx its.length 0 lo)).take (HT.sIx its.length its.length hi - HT.sIx its.length 0 lo)).toArray := by
  obtain ⟨h1, h2, h3⟩ := slice_bounds lo hi its.toArray.size
  unfold slicePick
  rw [h1, h2, h3]
  simp only [sliceRange_one, pick_run, List.size_toArray] <;> rfl
/-- xs[lo:hi] of a list: a new list -/
def rSlL (K : PySem.W.Frag) : V → Option Int → Option Int → Hp → VK → Prop := fun x lo hi H Q => ∃ a xs, x = .ref a ∧ SqL K H a xs ∧ ∀ p, H p = none → Q (.ref p) (upd H p (.lst (cutV xs lo hi)))
theorem sl_list : SlR X (rSlL X.K) := by
  intro pins s σ H x v vl vu lo hi sl Q I rx hs pl pu h
  obtain ⟨a, xs, rfl, hx, q⟩ := h
  cases rx
  obtain ⟨its, r, ht, hz⟩ := I.list hx
  have hlen := r.length
  refine ⟨"list", _, slot_list_getitem.lookup, ht.isList.typeIs, ?_⟩
  refine wpAny_getItem_list_slice ht.isList hs pl pu .none (by simp) ?_ (by rw [List.size_toArray] <;> omega)
  rw [slicePick_cut, ← hlen]
  refine ⟨.ref s.heap.objs.size, _, I.laid (t' := s.toks) (o := .lst (cutV xs lo hi)) (fun b ob q => Heap.get?_push_of_some _ q) (Nat.le_refl _) ?_, rfl, q _ (I.hok.fresh (Nat.le_refl _))⟩
  exact ⟨Nat.le_trans (cutV_length xs lo hi) hz, _, 0, (r.drop (HT.sIx xs.length 0 lo)).take (HT.sIx xs.length xs.length hi - HT.sIx xs.length 0 lo), Heap.get?_push_size _ rfl⟩

/-! ### in, not in: flat items -/
def flatV : V → Bool
  | .non => true
  | .bl _ => true
  | .int _ => true
  | .str _ => true
  | _ => false
/-- == of flat values -/
def eqV : V → V → Bool
  | .non, .non => true
  | .bl a, .bl b => a == b
  | .bl a, .int b => (if a then 1 else 0) == b
  | .int a, .bl b => a == (if b then 1 else 0)
  | .int a, .int b => a == b
  | .str a, .str b => a == b
  | _, _ => false
theorem eqAt_V {A : Around} {s : Shared} {y x : V} {u v : Value} (ry : RelV y u) (rx : RelV x v) (fy : flatV y = true) (fx : flatV x = true) : SeqAt.EqAt A s u v (eqV y x) := by
  cases y with
  | non =>
    cases ry
    cases x with
    | non => cases rx; exact SeqAt.EqAt.same _
    | bl b => cases rx; exact SeqAt.EqAt.none_bool b
    | int b => obtain ⟨t, rfl⟩ := rx; exact SeqAt.EqAt.none_int b t
    | str b => obtain ⟨t, rfl⟩ := rx; exact SeqAt.EqAt.none_str b t
    | _ => exact absurd (show false = true from fx) Bool.false_ne_true
  | bl a =>
    cases ry
    cases x with
    | non => cases rx; exact SeqAt.EqAt.bool_none a
    | bl b => cases rx; exact SeqAt.EqAt.bool_bool a b
    | int b => obtain ⟨t, rfl⟩ := rx; exact SeqAt.EqAt.bool_int a b t
    | str b => obtain ⟨t, rfl⟩ := rx; exact SeqAt.EqAt.bool_str a b t
    | _ => exact absurd (show false = true from fx) Bool.false_ne_true
  | int a =>
    obtain ⟨t', rfl⟩ := ry
    cases x with
    | non => cases rx; exact SeqAt.EqAt.int_none a t'
    | bl b => cases rx; exact SeqAt.EqAt.int_bool a t' b
    | int b => obtain ⟨t, rfl⟩ := rx; exact SeqAt.EqAt.int_int a t' b t
    | str b => obtain ⟨t, rfl⟩ := rx; exact SeqAt.EqAt.int_str a t' b t
    | _ => exact absurd (show false = true from fx) Bool.false_ne_true
  | str a =>
    obtain ⟨t', rfl⟩ := ry
    cases x with
    | non => cases rx; exact SeqAt.EqAt.str_none a t'
    | bl b => cases rx; exact SeqAt.EqAt.str_bool a t' b
    | int b => obtain ⟨t, rfl⟩ := rx; exact SeqAt.EqAt.str_int a t' b t
    | str b => obtain ⟨t, rfl⟩ := rx; exact SeqAt.EqAt.str_str a t' b t
    | _ => exact absurd (show false = true from fx) Bool.false_ne_true
  | _ => exact absurd (show false = true from fy) Bool.false_ne_true
/-- the items' answers, read off the values (a value's own answer does not lean on its token) -/
def eqU (x : V) (u : Value) : Bool := match u with
  | .none => eqV .non x
  | .bool b => eqV (.bl b) x
  | .int i _ => eqV (.int i) x
  | .str z _ => eqV (.str z) x
  | _ => false
theorem eqU_of {x y : V} {u : Value} (r : RelV y u) (f : flatV y = true) : eqU x u = eqV y x := by
  cases y with
  | non => cases r; rfl
  | bl b => cases r; rfl
  | int i => obtain ⟨t, rfl⟩ := r; rfl
  | str z => obtain ⟨t, rfl⟩ := r; rfl
  | _ => exact absurd (show false = true from f) Bool.false_ne_true
theorem any_eqU {x : V} : ∀ {xs : List V} {us : List Value}, Vals xs us → xs.all flatV = true → us.any (eqU x) = xs.any fun y => eqV y x
  | _, _, .nil, _ => rfl
  | y :: xs, u :: us, .cons r t, f => by
    rw [List.all_cons, Bool.and_eq_true] at f
    rw [List.any_cons, List.any_cons, eqU_of r f.1, any_eqU t f.2]
theorem mem_eqAt {A : Around} {s : Shared} {x : V} {v : Value} (rx : RelV x v) (fx : flatV x = true) : ∀ {xs : List V} {us : List Value}, Vals xs us → xs.all flatV = true → ∀ u ∈ us, SeqAt.EqAt A s u v (eqU x u)
  | _, _, .nil, _ => fun u hu => by cases hu
  | y :: xs, u :: us, .cons r t, f => fun u' hu => by
    rw [List.all_cons, Bool.and_eq_true] at f
    rcases List.mem_cons.mp hu with rfl | hu
    · rw [eqU_of r f.1]; exact eqAt_V r rx f.1 fx
    · exact mem_eqAt rx fx t f.2 u' hu
def inV (x : V) (xs : List V) : Bool := xs.any fun y => eqV y x
/-- x in a list or tuple of flat items -/
def rIn (K : PySem.W.Frag) (neg : Bool) : R2 := fun x y H Q => ∃ p xs, y = .ref p ∧ (SqL K H p xs ∨ SqT K H p xs) ∧ flatV x = true ∧ xs.all flatV = true ∧ Q (.bl (if neg then !inV x xs else inV x xs)) H
theorem op_in_seq : OpR X (compareOp .In) (rIn X.K false) := by
  intro pins s σ H x y v u Q I rx ry h
  obtain ⟨p, xs, rfl, hq, fx, fs, q⟩ := h
  cases ry
  rcases hq with hq | hq
  · obtain ⟨its, r, pl, hz⟩ := I.list hq
    refine SeqAt.in_listAt (eqU x) pl.isList (fun w hw => mem_eqAt rx fx r fs w (by simpa using hw)) ⟨.bl _, H, I, rfl, ?_⟩
    rw [show its.toArray.any (eqU x) = its.any (eqU x) by simp, any_eqU r fs]
    exact q
  · obtain ⟨its, r, pl, hz⟩ := I.tuple hq
    refine SeqAt.in_tupleAt (eqU x) pl (fun w hw => mem_eqAt rx fx r fs w (by simpa using hw)) ⟨.bl _, H, I, rfl, ?_⟩
    rw [show its.toArray.any (eqU x) = its.any (eqU x) by simp, any_eqU r fs]
    exact q
theorem op_notIn_seq : OpR X (compareOp .NotIn) (rIn X.K true) := by
  intro pins s σ H x y v u Q I rx ry h
  obtain ⟨p, xs, rfl, hq, fx, fs, q⟩ := h
  cases ry
  rcases hq with hq | hq
  · obtain ⟨its, r, pl, hz⟩ := I.list hq
    refine SeqAt.notIn_listAt (eqU x) pl.isList (fun w hw => mem_eqAt rx fx r fs w (by simpa using hw)) ⟨.bl _, H, I, rfl, ?_⟩
    rw [show its.toArray.any (eqU x) = its.any (eqU x) by simp, any_eqU r fs]
    exact q
  · obtain ⟨its, r, pl, hz⟩ := I.tuple hq
    refine SeqAt.notIn_tupleAt (eqU x) pl (fun w hw => mem_eqAt rx fx r fs w (by simpa using hw)) ⟨.bl _, H, I, rfl, ?_⟩
    rw [show its.toArray.any (eqU x) = its.any (eqU x) by simp, any_eqU r fs]
    exact q
theorem op_notIn_str : OpR X (compareOp .NotIn) (fun x y H Q => ∃ i j, x = .str i ∧ y = .str j ∧ Q (.bl (!(!(Builtin.Str.occurrences j i 0 j.length 1).isEmpty))) H) := by
  intro pins s σ H x y v u Q I rx ry h
  obtain ⟨i, j, rfl, rfl, q⟩ := h
  obtain ⟨t, rfl⟩ := rx
  obtain ⟨t', rfl⟩ := ry
  exact notIn_str ⟨.bl _, H, I, rfl, q⟩

/-! ### len, list(x), tuple(x) of any list or tuple that is read -/
theorem call_len_seq : CallR X (.builtin "len") (fun xs H Q => ∃ p ys, xs = [.ref p] ∧ (SqL X.K H p ys ∨ SqT X.K H p ys) ∧ Q (.int ys.length) H) := by
  intro pins s σ H xs us Q I r h
  obtain ⟨p, ys, rfl, hq, q⟩ := h
  obtain ⟨u, rfl, rx⟩ := vals1 r
  cases rx
  have hn := line63
  rcases hq with hq | hq
  · obtain ⟨its, r', pl, hz⟩ := I.list hq
    have hlen := r'.length
    exact Calls.call_len_list pl.isList (by simp only [List.size_toArray] <;> omega) ⟨.int ys.length, H, I.tok _, ⟨s.toks + 1, by rw [List.size_toArray, hlen]⟩, q⟩
  · obtain ⟨its, r', pl, hz⟩ := I.tuple hq
    have hlen := r'.length
    exact len_tuple pl (by simp only [List.size_toArray] <;> omega) ⟨.int ys.length, H, I.tok _, ⟨s.toks + 1, by rw [List.size_toArray, hlen]⟩, q⟩
theorem call_len_str : CallR X (.builtin "len") (fun xs H Q => ∃ z, xs = [.str z] ∧ z.length ≤ sizeLine ∧ Q (.int z.length) H) := by
  intro pins s σ H xs us Q I r h
  obtain ⟨z, rfl, hz, q⟩ := h
  obtain ⟨u, rfl, t, rfl⟩ := vals1 r
  have hn := line63
  exact len_str (by omega) ⟨.int z.length, H, I.tok _, ⟨_, rfl⟩, q⟩
theorem CallR.or {f : Value} {r r' : List V → Hp → VK → Prop} (h : CallR X f r) (h' : CallR X f r') : CallR X f (fun xs H Q => r xs H Q ∨ r' xs H Q) := by
  intro pins s σ H xs us Q I rs q
  rcases q with q | q
  · exact h pins s σ H xs us Q I rs q
  · exact h' pins s σ H xs us Q I rs q
theorem call_list_of : CallR X (.type "list") (fun xs H Q => ∃ p ys, xs = [.ref p] ∧ (SqL X.K H p ys ∨ SqT X.K H p ys) ∧ ∀ l, H l = none → Q (.ref l) (upd H l (.lst ys))) := by
  intro pins s σ H xs us Q I r h
  obtain ⟨p, ys, rfl, hq, q⟩ := h
  obtain ⟨u, rfl, rx⟩ := vals1 r
  cases rx
  have fin : ∀ (its : List Value), Vals ys its → ys.length ≤ sizeLine → ∀ (h' : Heap) (c' : Nat), (∀ b o', s.heap.get? b = some o' → h'.get? b = some o') →
      h'.get? s.heap.objs.size = some { cls := .type "list", dict := none, data := .seq its.toArray c', slots := #[] } → EP X pins σ Q (.ref s.heap.objs.size) { s with heap := h' } := fun its r' hz h' c' kp e =>
    ⟨.ref s.heap.objs.size, _, I.laid (t' := s.toks) kp (Nat.le_refl _) (show ObjOk X.prog X.w _ h' _ (.lst ys) from ⟨hz, its, c', r', e⟩), rfl, q _ (I.hok.fresh (Nat.le_refl _))⟩
  rcases hq with hq | hq
  · obtain ⟨its, r', pl, hz⟩ := I.list hq
    have hlen := r'.length
    obtain ⟨o, ho, hc, n, hd⟩ := pl.isList
    exact call_list_seq p (.inl rfl) ho hc hd (fun h' c' kp e => fin its r' hz h' c' kp e) (by simp only [List.size_toArray] <;> omega)
  · obtain ⟨its, r', pl, hz⟩ := I.tuple hq
    have hlen := r'.length
    obtain ⟨o, ho, hc, n, hd⟩ := pl
    exact call_list_seq p (.inr rfl) ho hc hd (fun h' c' kp e => fin its r' hz h' c' kp e) (by simp only [List.size_toArray] <;> omega)
theorem call_tuple_of : CallR X (.type "tuple") (fun xs H Q => ∃ p ys, xs = [.ref p] ∧ ((SqL X.K H p ys ∧ ∀ l, H l = none → Q (.ref l) (upd H l (.tup ys))) ∨ (SqT X.K H p ys ∧ Q (.ref p) H))) := by
  intro pins s σ H xs us Q I r h
  obtain ⟨p, ys, rfl, h⟩ := h
  obtain ⟨u, rfl, rx⟩ := vals1 r
  cases rx
  rcases h with ⟨hq, q⟩ | ⟨hq, q⟩
  · obtain ⟨its, r', pl, hz⟩ := I.list hq
    have hlen := r'.length
    refine call_tuple_list pl.isList (fun h' kp => ?_) (by simp only [List.size_toArray] <;> omega)
    have I1 : Inv X pins σ H { s with heap := h' } := I.kept (t' := s.toks) kp
    have I2 : Inv X pins σ (upd H h'.objs.size (.tup ys)) { s with heap := h'.push { cls := .type "tuple", data := .seq its.toArray } } :=
      I1.laid (t' := s.toks) (fun b o e => Heap.get?_push_of_some _ e) (Nat.le_refl _) (show ObjOk X.prog X.w _ _ _ (.tup ys) from ⟨hz, its, r', IsTup.new _ _⟩)
    exact ⟨.ref h'.objs.size, _, I2, rfl, q _ (I1.hok.fresh (Nat.le_refl _))⟩
  · obtain ⟨its, r', pl, hz⟩ := I.tuple hq
    exact call_tuple_same pl ⟨.ref p, H, I, rfl, q⟩

/-! ### the call of a builtin's method: o.m(..) -/
/-- the value is of that builtin type -/
def tyV (K : PySem.W.Frag) (T : String) (x : V) (H : Hp) : Prop := match x with
  | .str _ => T = "str"
  | .int _ => T = "int"
  | .ref p => (T = "list" ∧ ∃ xs, SqL K H p xs) ∨ (T = "tuple" ∧ ∃ o, K.lookup p = some o ∧ o.cls = .type "tuple" ∧ o.dict = none) ∨
      (T = "dict" ∧ ((∃ kvs, H p = some (.dK kvs)) ∨ ∃ kvs, H p = some (.dT kvs))) ∨ (T = "set" ∧ ∃ S n, H p = some (.set S n))
  | _ => False
theorem tyV_is {pins : List (Addr × Obj)} {σ : St} {H : Hp} {s : Shared} {T : String} {x : V} {v : Value} (I : Inv X pins σ H s) (r : RelV x v) (ty : tyV X.K T x H) :
    s.TypeIs v T ∧ ∀ a, v = .ref a → ∃ ob, s.heap.get? a = some ob ∧ ob.dict = none := by
  cases x with
  | str z =>
    obtain ⟨t, rfl⟩ := r
    cases (show T = "str" from ty)
    exact ⟨typeIs_str s z t, fun _ e => nomatch e⟩
  | int i =>
    obtain ⟨t, rfl⟩ := r
    cases (show T = "int" from ty)
    exact ⟨typeIs_int s i t, fun _ e => nomatch e⟩
  | ref p =>
    cases r
    rcases ty with ⟨rfl, xs, hq⟩ | ⟨rfl, o, hk, hc, hd⟩ | ⟨rfl, hk⟩ | ⟨rfl, S, n, hk⟩
    · obtain ⟨its, _, pl, _⟩ := I.list hq
      refine ⟨pl.isList.typeIs, fun a e => ?_⟩
      cases e
      obtain ⟨o, n, e, c, hd, _⟩ := pl
      exact ⟨o, e, hd⟩
    · refine ⟨⟨o, I.kIn p o hk, hc⟩, fun a e => ?_⟩
      cases e
      exact ⟨o, I.kIn _ o hk, hd⟩
    · have z : ∃ o, s.heap.get? p = some o ∧ o.ExactDict := by
        rcases hk with ⟨kvs, hk⟩ | ⟨kvs, hk⟩
        · obtain ⟨_, _, _, _, o, _, _, e, ex, _⟩ := I.hok p _ hk
          exact ⟨o, e, ex⟩
        · obtain ⟨_, _, _, _, o, _, _, e, ex, _⟩ := I.hok p _ hk
          exact ⟨o, e, ex⟩
      obtain ⟨o, e, ex⟩ := z
      refine ⟨⟨o, e, ex.1⟩, fun a e2 => ?_⟩
      cases e2
      exact ⟨o, e, ex.2.1⟩
    · obtain ⟨o, _, _, _, e, ex, _⟩ := I.hok p _ hk
      refine ⟨⟨o, e, ex.1⟩, fun a e2 => ?_⟩
      cases e2
      exact ⟨o, e, ex.2.1⟩
  | _ => exact False.elim ty
def tBM0 (K : PySem.W.Frag) (T : String) (r : V → List V → Hp → VK → Prop) (to : TE) : TE := fun σ H Q => to σ H fun x H1 => tyV K T x H1 ∧ r x [] H1 Q
def tBM (K : PySem.W.Frag) (T : String) (r : V → List V → Hp → VK → Prop) (to : TE) (t : TA) : TE := fun σ H Q => to σ H fun x H1 => tyV K T x H1 ∧ t σ H1 fun xs H2 => r x xs H2 Q
variable {o e : Expr} {es : List Expr} {to : TE} {t : TA} {name : Str} {apos cpos : Pos} {T id : String} {r : V → List V → Hp → VK → Prop}
theorem pe_bm0 (pa : PlainAttrs T) (slot : Slot T name id) (hty : typeOf (.builtin id) = pure (.type "method_descriptor")) (hm : MtR X id r) (ho : PE X o to)
    (hbase : attributeBase o name X.env (eval o X.env) = eval o X.env := by rfl) (hline : (apos.endLine == cpos.line) = true := by rfl) : PE X (.Call (.Attribute o name apos) [] [] cpos) (tBM0 X.K T r to) := by
  intro pins s σ H Q I h
  refine wpAny_Call_method0_late hbase hline (thn (ho pins s σ H _ I h) fun v s1 ⟨x, H1, I1, r1, ty, q1⟩ => ?_)
  obtain ⟨h1, h2⟩ := tyV_is I1 r1 ty
  exact ⟨T, id, pa, slot, hty, h1, h2, Calls.callWith_builtin rfl (PySem.evalArgs_none (hm pins s1 σ H1 x [] v [] Q I1 r1 .nil q1))⟩
theorem pe_bm (pa : PlainAttrs T) (slot : Slot T name id) (hty : typeOf (.builtin id) = pure (.type "method_descriptor")) (hm : MtR X id r) (ho : PE X o to) (ha : PA X (e :: es) t)
    (hbase : attributeBase o name X.env (eval o X.env) = eval o X.env := by rfl)
    (hfew : ((backTo cpos (starEach (e :: es) X.env)).all (fun x => !x.1) && (backToKw cpos (keywordEach [] X.env)).all (fun x => x.1.isSome)
      && decide ((e :: es).length + ([] : List Keyword).length + (if ([] : List Keyword).isEmpty then 0 else 1) < 30)) = true := by rfl)
    (hline : (apos.endLine == cpos.line) = true := by rfl) (hs : starEach (e :: es) X.env = (false, eval e X.env) :: starEach es X.env := by rfl) (hplain : (backTo cpos (starEach es X.env)).any (·.1) = false := by rfl) :
    PE X (.Call (.Attribute o name apos) (e :: es) [] cpos) (tBM X.K T r to t) := by
  intro pins s σ H Q I h
  refine wpAny_Call_method_late hbase hfew hline rfl (thn (ho pins s σ H _ I h) fun v s1 ⟨x, H1, I1, r1, ty, q1⟩ => ?_)
  obtain ⟨h1, h2⟩ := tyV_is I1 r1 ty
  refine ⟨T, id, pa, slot, hty, h1, h2, ?_⟩
  have hA := ha cpos pins s1 σ H1 _ I1 q1
  rw [hs] at hA ⊢
  refine Calls.callWith_builtin (by show (false || (backTo cpos (starEach es X.env)).any (·.1)) = false; rw [hplain] <;> rfl) (Calls.evalArgs_plain ?_)
  exact thn hA fun us s2 ⟨vs, H2, I2, r2, q2⟩ => hm pins s2 σ H2 x vs v us Q I2 r1 r2 q2
/- xs.append(e), list.index on a module's tuple .. are MtR facts of 06m -/
end
end L2

namespace L2
open PySem PySem.Spec PyProof.Rows

def MtM (X : Cx) (id : String) (r : V → List V → Hp → VK → Prop) : Prop :=
  ∀ (pins : List (Addr × Obj)) (s : Shared) (σ : St) (H : Hp) (x : V) (xs : List V) (v : Value) (us : List Value) (Q : VK), Inv X pins σ H s → RelV x v → Vals xs us → r x xs H Q →
    wpAny (model X.prog X.w) X.A (call (.builtin id) (v :: us)) (EP X pins σ Q) X.xe s

/-! ### lists of values -/
theorem Vals.one : ∀ {x : V} {us : List Value}, Vals [x] us → ∃ u, us = [u] ∧ RelV x u
  | _, _, .cons r .nil => ⟨_, rfl, r⟩
theorem Vals.two : ∀ {x y : V} {us : List Value}, Vals [x, y] us → ∃ u v, us = [u, v] ∧ RelV x u ∧ RelV y v
  | _, _, _, .cons r (.cons q .nil) => ⟨_, _, rfl, r, q⟩
theorem Vals.zero : ∀ {us : List Value}, Vals [] us → us = []
  | _, .nil => rfl
theorem Vals.dropLast {xs : List V} {us : List Value} (h : Vals xs us) : Vals xs.dropLast us.dropLast := by
  induction h with
  | nil => exact .nil
  | cons r t ih =>
    cases t with
    | nil => exact .nil
    | cons q t' => exact .cons r ih
theorem Vals.eraseIdx : ∀ {xs : List V} {us : List Value} (i : Nat), Vals xs us → Vals (xs.eraseIdx i) (us.eraseIdx i)
  | _, _, _, .nil => .nil
  | _, _, 0, .cons _ t => t
  | _, _, i + 1, .cons r t => .cons r (Vals.eraseIdx i t)
theorem Vals.reverse {xs : List V} {us : List Value} (h : Vals xs us) : Vals xs.reverse us.reverse := by
  induction h with
  | nil => exact .nil
  | cons r t ih => rw [List.reverse_cons, List.reverse_cons]; exact Vals.append ih (.cons r .nil)
theorem Vals.rep {xs : List V} {us : List Value} (h : Vals xs us) : ∀ k : Nat, Vals (List.replicate k xs).flatten (List.replicate k us).flatten
  | 0 => .nil
  | k + 1 => by
    rw [List.replicate_succ, List.replicate_succ, List.flatten_cons, List.flatten_cons]
    exact Vals.append h (Vals.rep h k)
theorem erase_last {α : Type} (l : List α) : l.eraseIdx (l.length - 1) = l.dropLast := by
  induction l with
  | nil => rfl
  | cons a r ih =>
    cases r with
    | nil => rfl
    | cons b r =>
      have e : (a :: b :: r).length - 1 = ((b :: r).length - 1) + 1 := by
        have h1 : (a :: b :: r).length = r.length + 2 := rfl
        have h2 : (b :: r).length = r.length + 1 := rfl
        omega
      rw [e, List.eraseIdx_cons_succ, ih]
      all_goals rfl
theorem len_erase {α : Type} : ∀ (l : List α) (i : Nat), (l.eraseIdx i).length ≤ l.length
  | [], _ => Nat.le_refl _
  | _ :: _, 0 => Nat.le_succ _
  | _ :: r, i + 1 => Nat.succ_le_succ (len_erase r i)
theorem foldl_rep (its : List Value) : ∀ (k : Nat) (acc : List Value),
    List.foldl (fun x1 x2 => x1 ++ x2) acc.toArray (List.replicate k its.toArray) = (acc ++ (List.replicate k its).flatten).toArray
  | 0, acc => by simp
  | k + 1, acc => by
    have e : acc.toArray ++ its.toArray = (acc ++ its).toArray := by simp
    have e2 : (acc ++ its) ++ (List.replicate k its).flatten = acc ++ (List.replicate (k + 1) its).flatten := by
      rw [List.replicate_succ, List.flatten_cons, List.append_assoc]
    rw [← e2, ← foldl_rep its k (acc ++ its), ← e, List.replicate_succ, List.foldl_cons]

section
variable {X : Cx} {pins : List (Addr × Obj)} {σ : St} {H : Hp} {s : Shared} {l b : Addr} {xs ys zs : List V}

/-! ### the two steps: a tracked list is rewritten, a new list is laid -/
theorem Inv.lset {its its' : List Value} {n : Nat} {f : Array Value → Array Value} {t' : Nat} (I : Inv X pins σ H s) (hH : H l = some (.lst xs))
    (e : s.heap.get? l = some { cls := .type "list", data := .seq its.toArray n }) (hf : f its.toArray = its'.toArray) (hv : Vals ys its') (hz : ys.length ≤ sizeLine) :
    Inv X pins σ (upd H l (.lst ys)) { s with heap := s.heap.update l (Obj.mapSeq f), toks := t' } := by
  have q := PySem.IsL.update e f
  rw [hf] at q
  refine I.write (x := l) (e := l) (by rw [hH]; exact trivial) (.inl rfl) (fun b' u hb hu => (Heap.get?_update_other s.heap (Obj.mapSeq f) (Ne.symm hb)).trans hu) ⟨_, q⟩ ?_
  exact ⟨hz, its', _, hv, q⟩
theorem Inv.lnew {its : List Value} {t' : Nat} (I : Inv X pins σ H s) (hv : Vals ys its) (hz : ys.length ≤ sizeLine) :
    Inv X pins σ (upd H s.heap.objs.size (.lst ys)) { s with heap := s.heap.push { cls := .type "list", data := .seq its.toArray }, toks := t' } :=
  I.laid (fun _ _ q => Heap.get?_push_of_some _ q) (Nat.le_refl _) ⟨hz, its, 0, hv, Heap.get?_push_size _ rfl⟩
theorem Inv.fresh (I : Inv X pins σ H s) : H s.heap.objs.size = none := I.hok.fresh (Nat.le_refl _)
theorem Inv.lstM (I : Inv X pins σ H s) (hH : H l = some (.lst xs)) : xs.length ≤ sizeLine ∧ ∃ (its : List Value) (n : Nat), Vals xs its ∧ xs.length = its.length ∧ s.heap.get? l = some { cls := .type "list", data := .seq its.toArray n } := by
  obtain ⟨z, its, n, r, e⟩ := I.hok l _ hH
  exact ⟨z, its, n, r, r.length, e⟩

theorem notLongL {n : Nat} (h : n ≤ sizeLine) : Builtin.List.listTooLong n = false := by
  unfold Builtin.List.listTooLong
  exact decide_eq_false (by omega)
end

section
variable {X : Cx}

/-! ### methods -/
def rAppend : V → List V → Hp → VK → Prop := fun x vs H Q => ∃ l xs y, x = .ref l ∧ vs = [y] ∧ H l = some (.lst xs) ∧ xs.length < sizeLine ∧ Q .non (upd H l (.lst (xs ++ [y])))
theorem mt_append : MtM X "list.append" rAppend := by
  intro pins s σ H x vs v us Q I rx rv h
  obtain ⟨l, xs, y, rfl, rfl, hH, hz, q⟩ := h
  cases rx
  obtain ⟨u, rfl, ru⟩ := rv.one
  obtain ⟨z, its, n, r, hl, e⟩ := I.lstM hH
  refine call_meets F.slot_list_append ⟨_, e, rfl⟩ F.entry_list_append (F.args_list_append_2 _ _) (PySem.list_append l its.toArray n u (by rw [List.size_toArray]; omega)) ⟨e, ?_⟩
  refine ⟨.non, _, I.lset (its' := its ++ [u]) hH e (by simp) (r.append (.cons ru .nil)) ?_, rfl, q⟩
  rw [List.length_append, List.length_singleton]
  omega

def rExtend : V → List V → Hp → VK → Prop := fun x vs H Q => ∃ l b xs zs, x = .ref l ∧ vs = [.ref b] ∧ H l = some (.lst xs) ∧ H b = some (.lst zs) ∧ xs.length + zs.length ≤ sizeLine ∧ Q .non (upd H l (.lst (xs ++ zs)))
theorem mt_extend : MtM X "list.extend" rExtend := by
  intro pins s σ H x vs v us Q I rx rv h
  obtain ⟨l, b, xs, zs, rfl, rfl, hH, hB, hz, q⟩ := h
  cases rx
  obtain ⟨u, rfl, ru⟩ := rv.one
  cases ru
  obtain ⟨z, its, n, r, hl, e⟩ := I.lstM hH
  obtain ⟨z2, its2, n2, r2, hl2, e2⟩ := I.lstM hB
  have hsz : its.toArray.size + its2.toArray.size ≤ sizeLine := by rw [List.size_toArray, List.size_toArray]; omega
  have hlong : ¬ (!its.toArray.isEmpty && Builtin.List.listTooLong (its.toArray.size + its2.toArray.size)) = true := by
    rw [notLongL hsz, Bool.and_false]
    exact Bool.false_ne_true
  refine call_meets F.slot_list_extend ⟨_, e, rfl⟩ F.entry_list_extend (F.args_list_extend_2 _ _)
    (AutoSeq1.list_extend_list_list_0 l its.toArray n b its2.toArray n2 hlong (by rw [List.size_toArray]; omega) (by omega)) ⟨e, e2, ?_⟩
  refine ⟨.non, _, I.lset (its' := its ++ its2) hH e (by simp) (r.append r2) ?_, rfl, q⟩
  rw [List.length_append]
  omega

def rPop : V → List V → Hp → VK → Prop := fun x vs H Q => ∃ l xs y, x = .ref l ∧ vs = [] ∧ H l = some (.lst xs) ∧ xs[xs.length - 1]? = some y ∧ Q y (upd H l (.lst xs.dropLast))
theorem mt_pop : MtM X "list.pop" rPop := by
  intro pins s σ H x vs v us Q I rx rv h
  obtain ⟨l, xs, y, rfl, rfl, hH, hy, q⟩ := h
  cases rx
  have hus := rv.zero
  subst hus
  obtain ⟨z, its, n, r, hl, e⟩ := I.lstM hH
  obtain ⟨u, hu, ru⟩ := r.get hy
  have hy' : its.toArray[its.toArray.size - 1]? = some u := by
    show its.toArray[its.length - 1]? = some u
    rw [← Array.getElem?_toList, ← hl]
    exact hu
  refine call_meets F.slot_list_pop ⟨_, e, rfl⟩ F.entry_list_pop (F.args_list_pop_1 _) (MeetsSeq.list_pop_last l its.toArray n u hy' (by rw [List.size_toArray]; omega)) ⟨e, ?_⟩
  refine ⟨y, _, I.lset (its' := its.dropLast) hH e ?_ r.dropLast ?_, ru, q⟩
  · show its.toArray.eraseIdxIfInBounds (its.toArray.size - 1) = its.dropLast.toArray
    rw [List.size_toArray, List.eraseIdxIfInBounds_toArray, erase_last]
  · rw [List.length_dropLast]
    omega

def rPopAt : V → List V → Hp → VK → Prop := fun x vs H Q => ∃ l xs i k y, x = .ref l ∧ vs = [.int i] ∧ H l = some (.lst xs) ∧ -(2 ^ 63) ≤ i ∧ i < 2 ^ 63 ∧ seqIndex? i xs.length = some k ∧ xs[k]? = some y ∧ Q y (upd H l (.lst (xs.eraseIdx k)))
theorem mt_popAt : MtM X "list.pop" rPopAt := by
  intro pins s σ H x vs v us Q I rx rv h
  obtain ⟨l, xs, i, k, y, rfl, rfl, hH, h1, h2, hk, hy, q⟩ := h
  cases rx
  obtain ⟨u, rfl, ru⟩ := rv.one
  obtain ⟨t, rfl⟩ := ru
  obtain ⟨z, its, n, r, hl, e⟩ := I.lstM hH
  obtain ⟨w, hw, rw'⟩ := r.get hy
  refine call_meets F.slot_list_pop ⟨_, e, rfl⟩ F.entry_list_pop (F.args_list_pop_2 _ _)
    (MeetsSeq.list_pop_at l its.toArray n i t k w (fitsIndex_both h1 h2) (by rw [List.size_toArray, ← hl]; exact hk) (by rw [← Array.getElem?_toList]; exact hw) (by rw [List.size_toArray]; omega)) ⟨e, ?_⟩
  refine ⟨y, _, I.lset (its' := its.eraseIdx k) hH e ?_ (r.eraseIdx k) ?_, rw', q⟩
  · show its.toArray.eraseIdxIfInBounds k = (its.eraseIdx k).toArray
    rw [List.eraseIdxIfInBounds_toArray]
  · have := len_erase xs k
    omega

def rReverse : V → List V → Hp → VK → Prop := fun x vs H Q => ∃ l xs, x = .ref l ∧ vs = [] ∧ H l = some (.lst xs) ∧ Q .non (upd H l (.lst xs.reverse))
theorem mt_reverse : MtM X "list.reverse" rReverse := by
  intro pins s σ H x vs v us Q I rx rv h
  obtain ⟨l, xs, rfl, rfl, hH, q⟩ := h
  cases rx
  have hus := rv.zero
  subst hus
  obtain ⟨z, its, n, r, hl, e⟩ := I.lstM hH
  refine call_meets F.slot_list_reverse ⟨_, e, rfl⟩ F.entry_list_reverse (F.args_list_reverse_1 _) (AutoSeq1.list_reverse_list_0 l its.toArray n (by rw [List.size_toArray]; omega)) ⟨e, ?_⟩
  refine ⟨.non, _, I.lset (its' := its.reverse) hH e (by simp) r.reverse ?_, rfl, q⟩
  rw [List.length_reverse]
  omega

def rClear : V → List V → Hp → VK → Prop := fun x vs H Q => ∃ l xs, x = .ref l ∧ vs = [] ∧ H l = some (.lst xs) ∧ Q .non (upd H l (.lst []))
theorem mt_clear : MtM X "list.clear" rClear := by
  intro pins s σ H x vs v us Q I rx rv h
  obtain ⟨l, xs, rfl, rfl, hH, q⟩ := h
  cases rx
  have hus := rv.zero
  subst hus
  obtain ⟨z, its, n, r, hl, e⟩ := I.lstM hH
  refine call_meets F.slot_list_clear ⟨_, e, rfl⟩ F.entry_list_clear (F.args_list_clear_1 _) (AutoSeq1.list_clear_list_0 l its.toArray n (by rw [List.size_toArray]; omega)) ⟨e, ?_⟩
  exact ⟨.non, _, I.lset (its' := []) (ys := []) hH e rfl .nil (Nat.zero_le _), rfl, q⟩

/-! ### list + list, list += list, list * int -/
def rCat : R2 := fun x y H Q => ∃ l b xs zs, x = .ref l ∧ y = .ref b ∧ H l = some (.lst xs) ∧ H b = some (.lst zs) ∧ xs.length + zs.length ≤ sizeLine ∧ ∀ p, H p = none → Q (.ref p) (upd H p (.lst (xs ++ zs)))
theorem op_cat : OpR X (binaryOp .Add) rCat := by
  intro pins s σ H x y v u Q I rx ry h
  obtain ⟨l, b, xs, zs, rfl, rfl, hH, hB, hz, q⟩ := h
  cases rx
  cases ry
  obtain ⟨z, its, n, r, hl, e⟩ := I.lstM hH
  obtain ⟨z2, its2, n2, r2, hl2, e2⟩ := I.lstM hB
  refine PySem.P.add_list e e2 ?_ (by rw [List.size_toArray, List.size_toArray]; omega)
  have ea : its.toArray ++ its2.toArray = (its ++ its2).toArray := by simp
  rw [ea]
  exact ⟨.ref _, _, I.lnew (t' := s.toks) (r.append r2) (by rw [List.length_append]; omega), rfl, q _ I.fresh⟩
/-- a list times an int (a negative one is nothing) -/
def rRep : R2 := fun x y H Q => ∃ l k xs, x = .ref l ∧ y = .int k ∧ H l = some (.lst xs) ∧ -(2 ^ 63) ≤ k ∧ k < 2 ^ 63 ∧ xs.length * k.toNat ≤ sizeLine ∧
  ∀ p, H p = none → Q (.ref p) (upd H p (.lst (List.replicate k.toNat xs).flatten))
theorem len_rep {α : Type} (xs : List α) (k : Nat) : (List.replicate k xs).flatten.length = k * xs.length := by
  induction k with
  | zero => simp
  | succ k ih => rw [List.replicate_succ, List.flatten_cons, List.length_append, ih, Nat.succ_mul, Nat.add_comm]
theorem op_rep : OpR X (binaryOp .Mult) rRep := by
  intro pins s σ H x y v u Q I rx ry h
  obtain ⟨l, k, xs, rfl, rfl, hH, h1, h2, hz, q⟩ := h
  cases rx
  obtain ⟨t, rfl⟩ := ry
  obtain ⟨z, its, n, r, hl, e⟩ := I.lstM hH
  have hlen : its.toArray.size * k.toNat ≤ sizeLine := by rw [List.size_toArray, ← hl]; exact hz
  have hcap : ¬ its.toArray.size * k.toNat > (2 ^ 63 - 1) / 8 := by
    have : (sizeLine : Nat) ≤ (2 ^ 63 - 1) / 8 := by decide
    omega
  have hfit : ¬ (!Builtin.List.listFitsIndex k) = true := by
    rw [fitsIndex_both h1 h2]
    exact Bool.false_ne_true
  have hlong : ¬ Builtin.List.listTooLong (its.toArray.size * k.toNat) = true := by
    rw [notLongL hlen]
    exact Bool.false_ne_true
  have hnew : List.foldl (fun x1 x2 => x1 ++ x2) #[] (List.replicate (if its.toArray.isEmpty = true then 0 else k.toNat) its.toArray) = (List.replicate k.toNat its).flatten.toArray := by
    have f0 : ∀ m : Nat, List.foldl (fun x1 x2 => x1 ++ x2) #[] (List.replicate m its.toArray) = (List.replicate m its).flatten.toArray := fun m => by
      have := foldl_rep its m []
      rw [List.nil_append] at this
      exact this
    rw [f0]
    cases its with
    | nil => simp
    | cons a r' => rw [if_neg (by simp)]
  refine wpAny_binaryOp_repeat_ref (T := "list") (U := "int") (by decide) ⟨_, e, rfl⟩ (fun s' => typeIs_int s' k t) noFill_list_mul F.fills_int_mul F.slot_int_rmul repeat_list F.slot_int_index.lookup
    (call_meets F.slot_int_rmul (typeIs_int s k t) F.entry_int_rmul (F.args_int_rmul_2 _ _) (int___rmul___int_list k t l its.toArray n)
      ⟨e, rfl, ⟨_, e, rfl⟩, call_meets F.slot_list_mul ⟨_, e, rfl⟩ F.entry_list_mul (F.args_list_mul_2 _ _) (AutoListH.list___mul___list_int_3 l its.toArray n k t hfit hcap hlong) ⟨e, ?_⟩⟩)
  rw [hnew]
  exact ⟨.ref _, _, I.lnew (t' := s.toks) (r.rep k.toNat) (by rw [len_rep, Nat.mul_comm]; exact hz), rfl, q _ I.fresh⟩

/-! ### del xs[i] -/
theorem del_list {pins : List (Addr × Obj)} {s : Shared} {σ : St} {H : Hp} {l : Addr} {xs : List V} {i : Int} {t : Tok} {k : Nat} {Q : Unit → Shared → Prop} (I : Inv X pins σ H s) (hH : H l = some (.lst xs))
    (h1 : -(2 ^ 63) ≤ i) (h2 : i < 2 ^ 63) (hk : seqIndex? i xs.length = some k) (h : ∀ s', Inv X pins σ (upd H l (.lst (xs.eraseIdx k))) s' → Q () s') :
    wpAny (model X.prog X.w) X.A (delItem (.ref l) (.int i t)) Q X.xe s := by
  obtain ⟨z, its, n, r, hl, e⟩ := I.lstM hH
  refine PySem.P.delItem_list (k := k) e (fitsIndex_both h1 h2) (by rw [List.size_toArray, ← hl]; exact hk) (h _ ?_) (by rw [List.size_toArray]; omega)
  refine I.lset (its' := its.eraseIdx k) (t' := s.toks) hH e ?_ (r.eraseIdx k) ?_
  · show its.toArray.eraseIdxIfInBounds k = (its.eraseIdx k).toArray
    rw [List.eraseIdxIfInBounds_toArray]
  · have := len_erase xs k
    omega
end

/-! ### xs[a:b] = ys -/
section
variable {prog : Program} {w : World} {A : Around} {E : Value → Shared → Prop} {s : Shared}
theorem splice_eq (its its2 : List Value) (a c : Nat) : its.toArray.extract 0 a ++ its2.toArray ++ its.toArray.extract c its.toArray.size = (its.take a ++ its2 ++ its.drop c).toArray := by
  apply Array.toList_inj.mp
  first
    | (simp
       exact List.take_of_length_le (by simp))
    | simp [List.take_of_length_le]
    | simp
theorem bounds_run {a c n : Nat} (hac : a ≤ c) (hc : c ≤ n) : sliceBounds (some (a : Int)) (some (c : Int)) none n = ((a : Int), (c : Int), 1) := by
  simp only [sliceBounds, Option.getD_none]
  have h1 : ¬ ((a : Int) < 0) := by omega
  have h2 : ¬ ((c : Int) < 0) := by omega
  simp only [h1, h2, if_false, show (1 : Int) > 0 by decide, if_true]
  congr 1
  · omega
  · congr 1; omega
set_option maxRecDepth 100000 in
/-- list.__setitem__ with a slice of step one and another list -/
theorem setItem_slice {l b sl : Addr} {items new : Array Value} {n n2 : Nat} {vl vu : Value} {a c : Nat} {Q : Unit → Shared → Prop}
    (e : s.heap.get? l = some { cls := .type "list", data := .seq items n }) (e2 : s.heap.get? b = some { cls := .type "list", data := .seq new n2 }) (hne : l ≠ b)
    (hs : s.heap.IsSliceOf sl vl vu .none) (pl : IsPart vl (some (a : Int))) (pu : IsPart vu (some (c : Int))) (hac : a ≤ c) (hc : c ≤ items.size)
    (hsz : items.size + new.size ≤ sizeLine) (h : Q () { s with heap := s.heap.update l (Obj.mapSeq fun xs => xs.extract 0 a ++ new ++ xs.extract c xs.size) }) :
    wpAny (model prog w) A (setItem (.ref l) (.ref sl) (.ref b)) Q E s := by
  have hl : s.heap.IsList l items := PySem.IsL.isList e
  have hb : s.heap.IsList b new := PySem.IsL.isList e2
  obtain ⟨os, hos, hcs, hds⟩ := id hs
  have hTs : s.TypeIs (.ref sl) "slice" := ⟨os, hos, hcs⟩
  have hstep : ¬ ((rawPart none == rawInt 0) = true) := Bool.false_ne_true
  have hsame : Builtin.List.listSameRef (.ref l) (.ref b) = false := by
    unfold Builtin.List.listSameRef
    exact beq_eq_false_iff_ne.mpr hne
  have hmax : (max (a : Int) (c : Int)).toNat = c := by omega
  have hz' : ((fun xs : Array Value => xs.extract 0 a ++ new ++ xs.extract c xs.size) items).size ≤ sizeLine + 1 := by
    simp only [Array.size_append, Array.size_extract]
    omega
  unfold setItem
  try with_reducible refine wpAny_holding ?_
  first | refine wpAny_bind (wpAny_pure ?_) | skip
  refine wpAny_bind (wpAny_sequenceKey hl.typeIs (by decide) ?_)
  refine wpAny_bind (wpAny_callSpecial?_slot (name := Str.ofString "__setitem__") hl.typeIs slot_list_setitem
    (wpAny_call_entry slot_list_setitem hl.typeIs entry_list_setitem ?_ (args_list_setitem _ _ _)))
  show wpAny _ _ (Builtin.List.listSubscript? (.ref sl) >>= _) _ _ s
  refine wpAny_bind ?_
  unfold Builtin.List.listSubscript?
  refine wpAny_bind (wpAny_specialOf hTs slice_no_index ?_)
  simp only [Option.isNone_none, if_true]
  refine wpAny_pure ?_
  show wpAny _ _ (typeOf (.ref sl) >>= _) _ _ s
  refine wpAny_bind (wpAny_typeOf hTs ?_)
  first
    | rw [if_neg (by decide)]
    | refine PySem.W.KFB.if_not (by decide) ?_
  rw [listSliceParts_eq]
  refine wpAny_bind (wpAny_bind (wpAny_field hos hds (x := .none) rfl (wpAny_bind (wpAny_listPart .none ?_))))
  rw [if_neg hstep]
  refine wpAny_bind (wpAny_field hos hds (x := vl) rfl (wpAny_bind (wpAny_listPart pl ?_)))
  refine wpAny_bind (wpAny_field hos hds (x := vu) rfl (wpAny_bind (wpAny_listPart pu (wpAny_pure ?_))))
  first
    | simp only [hsame, Bool.false_eq_true, if_false]
    | refine PySem.W.KFB.if_not hsame ?_
    | (dsimp only
       rw [if_neg (by rw [hsame]; exact Bool.false_ne_true)])
  refine wpAny_bind (m := Builtin.List.listAllItems (.ref b) "must assign iterable to extended slice") ?_
  unfold Builtin.List.listAllItems
  refine wpAny_bind (wpAny_typeOf hb.typeIs ?_)
  first
    | refine PySem.W.KFB.if_so (by decide) ?_
    | rw [if_pos (by decide)]
    | simp only [beq_self_eq_true, Bool.true_or, if_true]
  unfold Builtin.List.listItems
  refine wpAny_bind (wpAny_seqItems e2 rfl (wpAny_pure ?_))
  refine wpAny_bind (wpAny_bind (wpAny_seqItems e rfl (wpAny_pure ?_)))
  refine wpAny_bind (wpAny_of_eq ((sliceIndices_raw (some (a : Int)) (some (c : Int)) none items.size (by simp)).trans (congrArg (pure : Int × Int × Int → Sem (Int × Int × Int)) (bounds_run hac hc))) ?_)
  show wpAny _ _ (if ((1 : Int) == 1) = true then _ else _) _ _ s
  rw [if_pos (by decide)]
  refine wpAny_bind (wpAny_rule ?_)
  first
    | simp only [notLongL hsz, Bool.false_eq_true, if_false]
    | refine PySem.W.KFB.if_not (notLongL hsz) ?_
  first | refine wpAny_bind (wpAny_pure ?_) | skip
  show wpAny _ _ (updateSeq l (fun xs => xs.extract 0 ((a : Int)).toNat ++ new ++ xs.extract (max (a : Int) (c : Int)).toNat xs.size) >>= _) _ _ s
  rw [hmax, Int.toNat_natCast]
  refine wpAny_bind (wpAny_updateSeq (hz := Nat.le_trans (Nat.le_add_right _ _) hsz) (_hz' := hz') e rfl ?_)
  refine wpAny_bind (wpAny_letGo ?_)
  first
    | exact wpAny_bind (wpAny_pure (wpAny_pure ⟨.none, rfl, wpAny_pure h⟩))
    | exact wpAny_pure ⟨.none, rfl, wpAny_pure h⟩
end

section
variable {X : Cx}
/-- xs[a:c] = ys of another list, at the value level: sl is the slice object that was just made -/
theorem set_slice {pins : List (Addr × Obj)} {s : Shared} {σ : St} {H : Hp} {l b sl : Addr} {xs ys : List V} {a c : Int} {vl vu : Value} {Q : Unit → Shared → Prop} (I : Inv X pins σ H s)
    (hH : H l = some (.lst xs)) (hB : H b = some (.lst ys)) (hne : l ≠ b) (hs : s.heap.IsSliceOf sl vl vu .none) (ra : RelV (.int a) vl) (rc : RelV (.int c) vu) (h0 : 0 ≤ a) (hac : a ≤ c) (hc : c ≤ xs.length)
    (hz : xs.length + ys.length ≤ sizeLine) (h : ∀ s', Inv X pins σ (upd H l (.lst (xs.take a.toNat ++ ys ++ xs.drop c.toNat))) s' → Q () s') :
    wpAny (model X.prog X.w) X.A (setItem (.ref l) (.ref sl) (.ref b)) Q X.xe s := by
  obtain ⟨ta, rfl⟩ := ra
  obtain ⟨tc, rfl⟩ := rc
  obtain ⟨z, its, n, r, hl, e⟩ := I.lstM hH
  obtain ⟨z2, its2, n2, r2, hl2, e2⟩ := I.lstM hB
  obtain ⟨a', rfl⟩ := Int.eq_ofNat_of_zero_le h0
  obtain ⟨c', rfl⟩ := Int.eq_ofNat_of_zero_le (Int.le_trans h0 hac)
  simp only [Int.toNat_natCast] at h
  refine setItem_slice (a := a') (c := c') e e2 hne hs (.int _ _) (.int _ _) (by omega) (by rw [List.size_toArray]; omega) (by rw [List.size_toArray, List.size_toArray]; omega) (h _ ?_)
  refine I.lset (its' := its.take a' ++ its2 ++ its.drop c') (t' := s.toks) hH e ?_ (Vals.append (Vals.append (r.take _) r2) (r.drop _)) ?_
  · exact splice_eq its its2 a' c'
  · rw [List.length_append, List.length_append, List.length_take, List.length_drop]
    omega
end
end L2

namespace L2
open PySem PySem.Spec PyProof.Rows

/-! ### lists of pairs as tables -/
section
variable {κ : Type} [DecidableEq κ]
def valV (kvs : List (κ × V)) (k : κ) : Option V := (kvs.find? fun kv => decide (kv.1 = k)).map (·.2)
/-- in its place, or at the end -/
def putK (kvs : List (κ × V)) (k : κ) (v : V) : List (κ × V) :=
  if (kvs.any fun kv => decide (kv.1 = k)) = true then kvs.map (fun kv => if kv.1 = k then (kv.1, v) else kv) else kvs ++ [(k, v)]
def dropK (kvs : List (κ × V)) (k : κ) : List (κ × V) := kvs.filter fun kv => decide (kv.1 ≠ k)

theorem valV_nil {k : κ} : valV ([] : List (κ × V)) k = none := rfl
theorem valV_pos {p : κ × V} {r : List (κ × V)} {k : κ} (e : p.1 = k) : valV (p :: r) k = some p.2 := by simp [valV, List.find?_cons, e]
theorem valV_neg {p : κ × V} {r : List (κ × V)} {k : κ} (e : ¬ p.1 = k) : valV (p :: r) k = valV r k := by simp [valV, List.find?_cons, e]
theorem valV_any (k : κ) : ∀ kvs : List (κ × V), (kvs.any fun kv => decide (kv.1 = k)) = (valV kvs k).isSome
  | [] => rfl
  | p :: r => by
    rw [List.any_cons]
    by_cases e : p.1 = k
    · simp only [valV_pos e, decide_eq_true e, Bool.true_or, Option.isSome_some]
    · rw [valV_neg e, decide_eq_false e, Bool.false_or]; exact valV_any k r
theorem valV_map (k j : κ) (y : V) : ∀ kvs : List (κ × V), valV (kvs.map fun kv => if kv.1 = k then (kv.1, y) else kv) j = (valV kvs j).map fun x => if j = k then y else x
  | [] => rfl
  | p :: r => by
    have ih := valV_map k j y r
    rw [List.map_cons]
    by_cases h : p.1 = k
    · rw [if_pos h]
      by_cases e : p.1 = j
      · rw [valV_pos (p := (p.1, y)) e, valV_pos e, Option.map_some, if_pos (e.symm.trans h)]
      · rw [valV_neg (p := (p.1, y)) e, valV_neg e, ih]
    · rw [if_neg h]
      by_cases e : p.1 = j
      · rw [valV_pos (p := p) e, valV_pos e, Option.map_some, if_neg (fun z => h (e.trans z))]
      · rw [valV_neg (p := p) e, valV_neg e, ih]
theorem valV_snoc (k j : κ) (y : V) : ∀ kvs : List (κ × V), valV kvs k = none → valV (kvs ++ [(k, y)]) j = if j = k then some y else valV kvs j
  | [], _ => by
    by_cases e : k = j
    · rw [if_pos e.symm]; exact valV_pos (p := (k, y)) e
    · rw [if_neg (fun z => e z.symm)]; exact valV_neg (p := (k, y)) e
  | p :: r, hn => by
    rw [List.cons_append]
    have hk : ¬ p.1 = k := fun z => by rw [valV_pos z] at hn; cases hn
    rw [valV_neg hk] at hn
    have ih := valV_snoc k j y r hn
    by_cases e : p.1 = j
    · rw [valV_pos e, valV_pos e, if_neg (fun z => hk (e.trans z))]
    · rw [valV_neg e, valV_neg e, ih]
theorem valV_put (kvs : List (κ × V)) (k j : κ) (y : V) : valV (putK kvs k y) j = if j = k then some y else valV kvs j := by
  unfold putK
  by_cases a : (kvs.any fun kv => decide (kv.1 = k)) = true
  · rw [if_pos a, valV_map]
    rw [valV_any] at a
    by_cases e : j = k
    · obtain ⟨x, hx⟩ := Option.isSome_iff_exists.mp a
      rw [if_pos e, e, hx, Option.map_some, if_pos rfl]
    · rw [if_neg e]
      cases valV kvs j with
      | none => rfl
      | some x => rw [Option.map_some, if_neg e]
  · rw [if_neg a]
    refine valV_snoc k j y kvs ?_
    rw [valV_any] at a
    cases q : valV kvs k with
    | none => rfl
    | some x => rw [q] at a; exact (a rfl).elim
theorem length_putK (kvs : List (κ × V)) (k : κ) (v : V) : (putK kvs k v).length ≤ kvs.length + 1 := by
  unfold putK
  split
  · rw [List.length_map]; omega
  · rw [List.length_append, List.length_cons, List.length_nil]; omega
theorem putK_new {kvs : List (κ × V)} {k : κ} (v : V) (h : valV kvs k = none) : putK kvs k v = kvs ++ [(k, v)] := by
  unfold putK
  rw [valV_any, h]
  exact if_neg (by decide)

theorem RelO.isSome_eq {o : Option V} {u : Option Value} (r : RelO o u) : o.isSome = u.isSome := by
  cases o with
  | none => cases u with
    | none => rfl
    | some _ => exact (show False from r).elim
  | some _ => cases u with
    | none => exact (show False from r).elim
    | some _ => rfl
theorem RelO.getD {o : Option V} {u : Option Value} {d : V} {d' : Value} (r : RelO o u) (rd : RelV d d') : RelV (o.getD d) (u.getD d') := by
  cases o with
  | none => cases u with
    | none => exact rd
    | some _ => exact (show False from r).elim
  | some _ => cases u with
    | none => exact (show False from r).elim
    | some _ => exact r

/-- raw tables of the same keys -/
theorem KV.val {kvs : List (κ × V)} {vs : List (κ × Value)} (r : KV kvs vs) (k : κ) : RelO (valV kvs k) (valueAt vs k) := by
  unfold KV at r
  induction r with
  | nil => exact True.intro
  | @cons p q ps qs h t ih =>
    obtain ⟨h1, h2⟩ := h
    by_cases e : p.1 = k
    · have e' : q.1 = k := h1.symm.trans e
      have b : valueAt (q :: qs) k = some q.2 := by simp [valueAt, List.find?_cons, e']
      rw [valV_pos e, b]; exact h2
    · have e' : ¬ q.1 = k := fun z => e (h1.trans z)
      have b : valueAt (q :: qs) k = valueAt qs k := by simp [valueAt, List.find?_cons, e']
      rw [valV_neg e, b]; exact ih
theorem KV.any {kvs : List (κ × V)} {vs : List (κ × Value)} (r : KV kvs vs) (k : κ) : (kvs.any fun kv => decide (kv.1 = k)) = vs.any fun kv => decide (kv.1 = k) := by
  unfold KV at r
  induction r with
  | nil => rfl
  | cons h t ih => rw [List.any_cons, List.any_cons, ih, h.1]
theorem KV.repl {kvs : List (κ × V)} {vs : List (κ × Value)} (r : KV kvs vs) (k : κ) {y : V} {u : Value} (ry : RelV y u) :
    KV (kvs.map fun kv => if kv.1 = k then (kv.1, y) else kv) (vs.map fun kv => if kv.1 = k then (kv.1, u) else kv) := by
  unfold KV at r ⊢
  induction r with
  | nil => exact .nil
  | @cons p q ps qs h t ih =>
    rw [List.map_cons, List.map_cons]
    refine .cons ?_ ih
    obtain ⟨h1, h2⟩ := h
    by_cases e : p.1 = k
    · rw [if_pos e, if_pos (h1.symm.trans e)]; exact ⟨h1, ry⟩
    · rw [if_neg e, if_neg (fun z => e (h1.trans z))]; exact ⟨h1, h2⟩
theorem KV.put {kvs : List (κ × V)} {vs : List (κ × Value)} (r : KV kvs vs) (k : κ) {y : V} {u : Value} (ry : RelV y u) : KV (putK kvs k y) (stored vs k u) := by
  unfold putK stored
  rw [r.any k]
  by_cases e : (vs.any fun kv => decide (kv.1 = k)) = true
  · rw [if_pos e, if_pos e]; exact r.repl k ry
  · rw [if_neg e, if_neg e]; exact Paired.snoc r ⟨rfl, ry⟩
theorem KV.drop {kvs : List (κ × V)} {vs : List (κ × Value)} (r : KV kvs vs) (k : κ) : KV (dropK kvs k) (without vs k) := by
  unfold KV at r ⊢
  unfold dropK without
  induction r with
  | nil => exact .nil
  | @cons p q ps qs h t ih =>
    obtain ⟨h1, h2⟩ := h
    rw [List.filter_cons, List.filter_cons]
    by_cases e : p.1 = k
    · have a : ¬ decide (p.1 ≠ k) = true := by simp [e]
      have b : ¬ decide (q.1 ≠ k) = true := by simp [h1.symm.trans e]
      rw [if_neg a, if_neg b]; exact ih
    · have e' : ¬ q.1 = k := fun z => e (h1.trans z)
      have a : decide (p.1 ≠ k) = true := by simp [e]
      have b : decide (q.1 ≠ k) = true := by simp [e']
      rw [if_pos a, if_pos b]; exact .cons ⟨h1, h2⟩ ih
theorem KV.keys {kvs : List (κ × V)} {vs : List (κ × Value)} (r : KV kvs vs) : kvs.map (·.1) = vs.map (·.1) := by
  unfold KV at r
  induction r with
  | nil => rfl
  | cons h t ih => rw [List.map_cons, List.map_cons, ih, h.1]
theorem KV.length {kvs : List (κ × V)} {vs : List (κ × Value)} (r : KV kvs vs) : kvs.length = vs.length := Paired.length r
theorem dropK_le (kvs : List (κ × V)) (k : κ) : (dropK kvs k).length ≤ kvs.length := List.length_filter_le _ _
end


/-! ### a tracked dict, its keys ints and texts or tuples of these -/
theorem kV_is {P : Program} {w : World} {k : Key} {u : Value} (r : RelV (kV k) u) : (mixKind P w).is k u = true := by
  cases k with
  | inl i => obtain ⟨t, e⟩ := (show ∃ t, u = Value.int i t from r); subst e; exact mixKind_int P w i t
  | inr x => obtain ⟨t, e⟩ := (show ∃ t, u = Value.str x t from r); subst e; exact mixKind_str P w x t
theorem kV_inj {a b : Key} (e : kV a = kV b) : a = b := by
  cases a with
  | inl i => cases b with
    | inl j => have e' : V.int i = V.int j := e; injection e' with e'; rw [e']
    | inr y => exact nomatch (show V.int i = V.str y from e)
  | inr x => cases b with
    | inl j => exact nomatch (show V.str x = V.int j from e)
    | inr y => have e' : V.str x = V.str y := e; injection e' with e'; rw [e']
theorem kVs_inj : ∀ {a b : List Key}, a.map kV = b.map kV → a = b
  | [], [], _ => rfl
  | [], _ :: _, e => by simp at e
  | _ :: _, [], e => by simp at e
  | x :: xs, y :: ys, e => by
    rw [List.map_cons, List.map_cons] at e
    injection e with e1 e2
    rw [kV_inj e1, kVs_inj e2]
theorem items_are {P : Program} {w : World} : ∀ {ks : List Key} {us : List Value}, Vals (ks.map kV) us → ItemsAre (mixKind P w) ks us
  | [], _, r => by rw [List.map_nil] at r; cases r; exact .nil
  | k :: ks, _, r => by
    rw [List.map_cons] at r
    cases r with
    | cons h t => exact .cons (kV_is h) (items_are t)

/-- raw entries of a dict with tuple keys -/
abbrev KT (H : Hp) : List (List Key × V) → List (List Key × Addr × Value) → Prop := Paired fun p q => p.1 = q.1 ∧ H q.2.1 = some (.tup (p.1.map kV)) ∧ RelV p.2 q.2.2
theorem KT.val {H : Hp} {kvs : List (List Key × V)} {xs : List (List Key × Addr × Value)} (r : KT H kvs xs) (k : List Key) : RelO (valV kvs k) ((atKey xs k).map (·.2)) := by
  induction r with
  | nil => exact True.intro
  | @cons p q ps qs h t ih =>
    obtain ⟨h1, _, h2⟩ := h
    by_cases e : p.1 = k
    · have e' : q.1 = k := h1.symm.trans e
      have b : atKey (q :: qs) k = some q.2 := by simp [atKey, List.find?_cons, e']
      rw [valV_pos e, b]; exact h2
    · have e' : ¬ q.1 = k := fun z => e (h1.trans z)
      have b : atKey (q :: qs) k = atKey qs k := by simp [atKey, List.find?_cons, e']
      rw [valV_neg e, b]; exact ih
theorem KT.repl {H : Hp} {kvs : List (List Key × V)} {xs : List (List Key × Addr × Value)} (r : KT H kvs xs) (k : List Key) {y : V} {u : Value} (ry : RelV y u) :
    KT H (kvs.map fun kv => if kv.1 = k then (kv.1, y) else kv) (xs.map (putAt k u)) := by
  induction r with
  | nil => exact .nil
  | @cons p q ps qs h t ih =>
    rw [List.map_cons, List.map_cons]
    refine .cons ?_ ih
    obtain ⟨h1, h2, h3⟩ := h
    unfold putAt
    by_cases e : p.1 = k
    · rw [if_pos e, if_pos (h1.symm.trans e)]; exact ⟨h1, h2, ry⟩
    · rw [if_neg e, if_neg (fun z => e (h1.trans z))]; exact ⟨h1, h2, h3⟩
theorem KT.put {H : Hp} {kvs : List (List Key × V)} {xs : List (List Key × Addr × Value)} (r : KT H kvs xs) (k : List Key) {b : Addr} {y : V} {u : Value} (hb : H b = some (.tup (k.map kV))) (ry : RelV y u) :
    KT H (putK kvs k y) (storedH xs k b u) := by
  have e : (kvs.any fun kv => decide (kv.1 = k)) = (atKey xs k).isSome := by
    rw [valV_any, (r.val k).isSome_eq, Option.isSome_map]
  unfold putK storedH
  rw [e]
  by_cases q : (atKey xs k).isSome = true
  · rw [if_pos q, if_pos q]; exact r.repl k ry
  · rw [if_neg q, if_neg q]; exact Paired.snoc r ⟨rfl, hb, ry⟩
theorem KT.keeps {H H' : Hp} {kvs : List (List Key × V)} {xs : List (List Key × Addr × Value)} (r : KT H kvs xs) (ht : ∀ b ys, H b = some (.tup ys) → H' b = some (.tup ys)) : KT H' kvs xs :=
  Paired.mapP r fun _ _ z => ⟨z.1, ht _ _ z.2.1, z.2.2⟩

section
variable {P : Program} {w : World} {H : Hp} {h : Heap} {a : Addr}
theorem rd_of {u : HO} (ok : HOk P w H h) (e : Rd H a u) : ObjOk P w H h a u := e.ok ok
theorem dk_rd {kvs : List (Key × V)} (ok : HOk P w H h) (e : Rd H a (.dK kvs)) : kvs.length ≤ sizeLine ∧ (a == sysModules) = false ∧ ∃ vs, KV kvs vs ∧ h.DictOf (mixKind P w) a vs :=
  show ObjOk P w H h a (.dK kvs) from rd_of ok e
theorem dk_of {kvs : List (Key × V)} (ok : HOk P w H h) (e : H a = some (.dK kvs)) : kvs.length ≤ sizeLine ∧ (a == sysModules) = false ∧ ∃ vs, KV kvs vs ∧ h.DictOf (mixKind P w) a vs := dk_rd ok (.inl e)
/-- a tracked tuple of ints and texts is a key -/
theorem key_of {ks : List Key} (ok : HOk P w H h) (e : H a = some (.tup (ks.map kV))) : (tupleKind (mixKind P w)).is h ks a := by
  obtain ⟨_, its, r, o, h1, h2, n, h3⟩ := (show ObjOk P w H h a (.tup (ks.map kV)) from ok a _ e)
  exact ⟨o, its.toArray, n, h1, h2, h3, by simpa using items_are r⟩
theorem dt_rd {kvs : List (List Key × V)} (ok : HOk P w H h) (e : Rd H a (.dT kvs)) : kvs.length ≤ sizeLine ∧ (a == sysModules) = false ∧
    ∃ xs, KT H kvs xs ∧ h.DictOfH (tupleKind (mixKind P w)) a xs := by
  obtain ⟨z, y, xs, r, o, es, ep, h1, h2, h3, h4, h5⟩ := (show ObjOk P w H h a (.dT kvs) from rd_of ok e)
  refine ⟨z, y, xs, r, o, es, ep, h1, h2, h3, h4, fun x hx => ?_, h5⟩
  have all : ∀ {l : List (List Key × V)} {m : List (List Key × Addr × Value)}, KT H l m → ∀ x ∈ m, (tupleKind (mixKind P w)).is h x.1 x.2.1 := by
    intro l m q
    induction q with
    | nil => intro x hx; exact nomatch hx
    | @cons p q ps qs hq t ih =>
      intro x hx
      rcases List.mem_cons.mp hx with e | hx
      · subst e
        exact key_of ok (by rw [← hq.1]; exact hq.2.1)
      · exact ih x hx
  exact all r x hx
theorem dt_of {kvs : List (List Key × V)} (ok : HOk P w H h) (e : H a = some (.dT kvs)) : kvs.length ≤ sizeLine ∧ (a == sysModules) = false ∧
    ∃ xs, KT H kvs xs ∧ h.DictOfH (tupleKind (mixKind P w)) a xs := dt_rd ok (.inl e)
end

/-- what the dict at a holds at the key y -/
def DGet (H : Hp) (a : Addr) (y : V) (r : Option V) : Prop :=
  (∃ kvs k, Rd H a (.dK kvs) ∧ y = kV k ∧ r = valV kvs k) ∨ ∃ kvs k b, Rd H a (.dT kvs) ∧ y = .ref b ∧ H b = some (.tup (k.map kV)) ∧ r = valV kvs k
/-- the heap behind a[y] = v -/
def DPut (H : Hp) (a : Addr) (y v : V) (H' : Hp) : Prop :=
  (∃ kvs k, H a = some (.dK kvs) ∧ y = kV k ∧ kvs.length < sizeLine ∧ H' = upd H a (.dK (putK kvs k v))) ∨
  ∃ kvs k b, H a = some (.dT kvs) ∧ y = .ref b ∧ H b = some (.tup (k.map kV)) ∧ kvs.length < sizeLine ∧ H' = upd H a (.dT (putK kvs k v))
theorem DGet.k {H : Hp} {a : Addr} {kvs : List (Key × V)} {k : Key} (e : H a = some (.dK kvs)) : DGet H a (kV k) (valV kvs k) := .inl ⟨kvs, k, .inl e, rfl, rfl⟩
theorem DGet.t {H : Hp} {a b : Addr} {kvs : List (List Key × V)} {k : List Key} (e : H a = some (.dT kvs)) (eb : H b = some (.tup (k.map kV))) : DGet H a (.ref b) (valV kvs k) := .inr ⟨kvs, k, b, .inl e, rfl, eb, rfl⟩
theorem DPut.k {H : Hp} {a : Addr} {kvs : List (Key × V)} {k : Key} {v : V} (e : H a = some (.dK kvs)) (hl : kvs.length < sizeLine) : DPut H a (kV k) v (upd H a (.dK (putK kvs k v))) := .inl ⟨kvs, k, e, rfl, hl, rfl⟩
theorem DPut.t {H : Hp} {a b : Addr} {kvs : List (List Key × V)} {k : List Key} {v : V} (e : H a = some (.dT kvs)) (eb : H b = some (.tup (k.map kV))) (hl : kvs.length < sizeLine) :
    DPut H a (.ref b) v (upd H a (.dT (putK kvs k v))) := .inr ⟨kvs, k, b, e, rfl, eb, hl, rfl⟩


section
variable {X : Cx} {pins : List (Addr × Obj)} {σ : St} {H : Hp} {s : Shared} {a : Addr} {y v : V} {u r : Value} {o : Option V} {A : Around} {E : Value → Shared → Prop}

theorem Inv.big (I : Inv X pins σ H s) : sysModules < s.heap.objs.size := by
  have h : mainGlobals < s.heap.objs.size := (I.mod.glob.keeps I.bk).lt
  exact Nat.lt_trans (by decide) h

/-- d[y], there -/
theorem d_getItem {Q : Value → Shared → Prop} (hu : A.units + 1 < cLine) (I : Inv X pins σ H s) (g : DGet H a y (some v)) (ry : RelV y u) (h : ∀ w' s', Inv X pins σ H s' → RelV v w' → Q w' s') :
    wpAny (model X.prog X.w) A (getItem (.ref a) u) Q E s := by
  rcases g with ⟨kvs, k, e, ey, l⟩ | ⟨kvs, k, b, e, ey, eb, l⟩
  · subst ey
    obtain ⟨z, hd, vs, rel, dd⟩ := dk_rd I.hok e
    obtain ⟨w', hw, rw'⟩ := RelO.some_of (v := v) (o := valueAt vs k) (by rw [l]; exact rel.val k)
    exact wpAny_getItem_of (kV_is ry) dd.mapOf hw (h w' _ (I.tok _) rw')
  · subst ey
    cases (show u = Value.ref b from ry)
    obtain ⟨z, hd, xs, rel, dd⟩ := dt_rd I.hok e
    obtain ⟨w', hw, rw'⟩ := RelO.some_of (v := v) (o := (atKey xs k).map (·.2)) (by rw [l]; exact rel.val k)
    obtain ⟨p, hp, hp2⟩ := Option.map_eq_some_iff.mp hw
    refine wpAny_getItem_heap (tupleKind_room_in1 hu) (key_of I.hok eb) dd hp ?_
    rw [hp2]
    exact h w' _ (I.tok _) rw'
/-- y in d -/
theorem d_in {Q : Value → Shared → Prop} (hu : A.units + 1 < cLine) (I : Inv X pins σ H s) (g : DGet H a y o) (ry : RelV y u) (h : ∀ s', Inv X pins σ H s' → Q (.bool o.isSome) s') :
    wpAny (model X.prog X.w) A (compareOp .In u (.ref a)) Q E s := by
  rcases g with ⟨kvs, k, e, ey, l⟩ | ⟨kvs, k, b, e, ey, eb, l⟩
  · subst ey
    obtain ⟨z, hd, vs, rel, dd⟩ := dk_rd I.hok e
    refine wpAny_in_of (kV_is ry) hd dd.mapOf ?_
    rw [← (rel.val k).isSome_eq, ← l]
    exact h _ (I.tok _)
  · subst ey
    cases (show u = Value.ref b from ry)
    obtain ⟨z, hd, xs, rel, dd⟩ := dt_rd I.hok e
    refine wpAny_in_heap (tupleKind_room_in1 hu) (key_of I.hok eb) hd dd ?_
    have q := (rel.val k).isSome_eq
    rw [Option.isSome_map] at q
    rw [← q, ← l]
    exact h _ (I.tok _)
theorem d_notIn {Q : Value → Shared → Prop} (hu : A.units + 1 < cLine) (I : Inv X pins σ H s) (g : DGet H a y o) (ry : RelV y u) (h : ∀ s', Inv X pins σ H s' → Q (.bool (!o.isSome)) s') :
    wpAny (model X.prog X.w) A (compareOp .NotIn u (.ref a)) Q E s := by
  rcases g with ⟨kvs, k, e, ey, l⟩ | ⟨kvs, k, b, e, ey, eb, l⟩
  · subst ey
    obtain ⟨z, hd, vs, rel, dd⟩ := dk_rd I.hok e
    refine wpAny_notIn_of (kV_is ry) hd dd.mapOf ?_
    rw [← (rel.val k).isSome_eq, ← l]
    exact h _ (I.tok _)
  · subst ey
    cases (show u = Value.ref b from ry)
    obtain ⟨z, hd, xs, rel, dd⟩ := dt_rd I.hok e
    refine wpAny_notIn_heap (tupleKind_room_in1 hu) (key_of I.hok eb) hd dd ?_
    have q := (rel.val k).isSome_eq
    rw [Option.isSome_map] at q
    rw [← q, ← l]
    exact h _ (I.tok _)
/-- a dict's object is replaced -/
theorem d_write {h' : Heap} {t' : Nat} {ob : HO} (I : Inv X pins σ H s) (mu : Mut (H a)) (hs : Heap.SameBut a s.heap h') (he : ∃ q, h'.get? a = some q) (new : ObjOk X.prog X.w (upd H a ob) h' a ob) :
    Inv X pins σ (upd H a ob) { s with heap := h', toks := t' } :=
  I.write (x := a) (e := a) mu (.inl rfl) (fun b q hb z => (hs.2 b hb).trans z) he new
theorem dk_new {P : Program} {w : World} {H' : Hp} {h' : Heap} {kvs : List (Key × V)} {vs : List (Key × Value)} (z : kvs.length ≤ sizeLine) (hd : (a == sysModules) = false) (rel : KV kvs vs) (dd : h'.DictOf (mixKind P w) a vs) :
    ObjOk P w H' h' a (.dK kvs) := ⟨z, hd, vs, rel, dd⟩
/-- d[y] = v -/
theorem d_setItem {H' : Hp} {Q : Unit → Shared → Prop} (hu : A.units + 1 < cLine) (I : Inv X pins σ H s) (g : DPut H a y v H') (ry : RelV y u) (rv : RelV v r) (h : ∀ s', Inv X pins σ H' s' → Q () s') :
    wpAny (model X.prog X.w) A (setItem (.ref a) u r) Q E s := by
  rcases g with ⟨kvs, k, e, ey, l, eH⟩ | ⟨kvs, k, b, e, ey, eb, l, eH⟩
  · subst ey eH
    obtain ⟨z, hd, vs, rel, dd⟩ := dk_of I.hok e
    have hz : vs.length ≤ sizeLine := by rw [← rel.length]; exact z
    have hl : (putK kvs k v).length ≤ sizeLine := by have := length_putK kvs k v; omega
    refine wpAny_setItem_pairs (hsz := hz) (kV_is ry) dd fun h' dd' hs => h _ ?_
    have he : ∃ q, h'.get? a = some q := let ⟨q, _, _, hq, _⟩ := dd'; ⟨q, hq⟩
    exact d_write I (by rw [e]; exact True.intro) hs he (dk_new hl hd (rel.put k rv) dd')
  · subst ey eH
    cases (show u = Value.ref b from ry)
    obtain ⟨z, hd, xs, rel, dd⟩ := dt_of I.hok e
    have hz : xs.length ≤ sizeLine := by rw [← Paired.length rel]; exact z
    have hl : (putK kvs k v).length ≤ sizeLine := by have := length_putK kvs k v; omega
    refine wpAny_setItem_heap (hsz := hz) (tupleKind_room_in1 hu) (key_of I.hok eb) dd fun h' dd' hs => h _ ?_
    obtain ⟨q, es, ep, hq, h2, h3, h4, _, h5⟩ := dd'
    refine d_write I (by rw [e]; exact True.intro) hs ⟨q, hq⟩ ⟨hl, hd, _, (rel.put k eb rv).keeps fun c ys ec => ?_, q, es, ep, hq, h2, h3, h4, h5⟩
    rw [upd_ne (ne_of ec e (fun z => nomatch z))]
    exact ec
end

section
variable {X : Cx} {pins : List (Addr × Obj)} {σ : St} {H : Hp} {s : Shared} {a : Addr} {kvs : List (Key × V)} {k : Key} {u : Value} {A : Around} {E : Value → Shared → Prop}
/-- del d[k] -/
theorem d_delItem {Q : Unit → Shared → Prop} (I : Inv X pins σ H s) (e : H a = some (.dK kvs)) (ry : RelV (kV k) u) (l : (valV kvs k).isSome = true) (h : ∀ s', Inv X pins σ (upd H a (.dK (dropK kvs k))) s' → Q () s') :
    wpAny (model X.prog X.w) A (delItem (.ref a) u) Q E s := by
  obtain ⟨z, hd, vs, rel, dd⟩ := dk_of I.hok e
  refine wpAny_delItem_slot dd.typeIs (by decide) PySem.F.slot_dict_delitem
    (call_meetsIn PySem.F.slot_dict_delitem dd.typeIs PySem.F.entry_dict_delitem (PySem.F.args_dict_delitem_2 _ _) (meets_dict_delitem_pairs (mixKind X.prog X.w) a (kV_is ry)) ⟨vs, dd, by rw [← rel.length]; exact z, by rw [← (rel.val k).isSome_eq]; exact l, fun h' dd' hs => h _ ?_⟩)
  have he : ∃ q, h'.get? a = some q := let ⟨q, _, _, hq, _⟩ := dd'; ⟨q, hq⟩
  exact d_write I (by rw [e]; exact True.intro) hs he (dk_new (Nat.le_trans (dropK_le kvs k) z) hd (rel.drop k) dd')
/-- d.pop(k[, x]), there -/
theorem d_pop {v : V} {more : List Value} {Q : Value → Shared → Prop} (I : Inv X pins σ H s) (e : H a = some (.dK kvs)) (ry : RelV (kV k) u) (l : valV kvs k = some v) (hm : more = [] ∨ ∃ x, more = [x])
    (h : ∀ w' s', Inv X pins σ (upd H a (.dK (dropK kvs k))) s' → RelV v w' → Q w' s') : wpAny (model X.prog X.w) A (call (.builtin "dict.pop") (.ref a :: u :: more)) Q E s := by
  obtain ⟨z, hd, vs, rel, dd⟩ := dk_of I.hok e
  obtain ⟨w', hw, rw'⟩ := RelO.some_of (v := v) (o := valueAt vs k) (by rw [← l]; exact rel.val k)
  have hp : (keyPart u).isSome = true := by
    cases k with
    | inl i => obtain ⟨t, q⟩ := (show ∃ t, u = Value.int i t from ry); subst q; rfl
    | inr x => obtain ⟨t, q⟩ := (show ∃ t, u = Value.str x t from ry); subst q; rfl
  have ha : argsOk "dict.pop" ⟨.ref a :: u :: more, []⟩ := by
    rcases hm with q | ⟨x, q⟩
    · subst q; exact PySem.F.args_dict_pop_2 _ _
    · subst q; exact PySem.F.args_dict_pop_3 _ _ _
  refine call_meetsIn PySem.F.slot_dict_pop dd.typeIs PySem.F.entry_dict_pop ha (meets_dict_pop_there (mixKind X.prog X.w) a (kV_is ry) more hm hp)
    ⟨vs, w', dd, by rw [← rel.length]; exact z, hw, fun h' dd' hs => h w' _ ?_ rw'⟩
  have he : ∃ q, h'.get? a = some q := let ⟨q, _, _, hq, _⟩ := dd'; ⟨q, hq⟩
  exact d_write I (by rw [e]; exact True.intro) hs he (dk_new (Nat.le_trans (dropK_le kvs k) z) hd (rel.drop k) dd')
/-- d.pop(k, x), not there -/
theorem d_popD {r : Value} {Q : Value → Shared → Prop} (I : Inv X pins σ H s) (e : H a = some (.dK kvs)) (ry : RelV (kV k) u) (l : valV kvs k = none) (h : ∀ s', Inv X pins σ H s' → Q r s') :
    wpAny (model X.prog X.w) A (call (.builtin "dict.pop") [.ref a, u, r]) Q E s := by
  obtain ⟨z, hd, vs, rel, dd⟩ := dk_of I.hok e
  have hn : valueAt vs k = none := RelO.none_of (by rw [← l]; exact rel.val k)
  have hp : (keyPart u).isSome = true := by
    cases k with
    | inl i => obtain ⟨t, q⟩ := (show ∃ t, u = Value.int i t from ry); subst q; rfl
    | inr x => obtain ⟨t, q⟩ := (show ∃ t, u = Value.str x t from ry); subst q; rfl
  exact call_meetsIn PySem.F.slot_dict_pop dd.typeIs PySem.F.entry_dict_pop (PySem.F.args_dict_pop_3 _ _ _) (meets_dict_pop_default (mixKind X.prog X.w) a (kV_is ry) hd hp r) ⟨vs, dd, hn, h _ (I.tok _)⟩
/-- d.clear() -/
theorem d_clear {Q : Value → Shared → Prop} (I : Inv X pins σ H s) (e : H a = some (.dK kvs)) (h : ∀ s', Inv X pins σ (upd H a (.dK [])) s' → Q .none s') : wpAny (model X.prog X.w) A (call (.builtin "dict.clear") [.ref a]) Q E s := by
  obtain ⟨z, hd, vs, rel, dd⟩ := dk_of I.hok e
  refine call_meetsIn PySem.F.slot_dict_clear dd.typeIs PySem.F.entry_dict_clear (PySem.F.args_dict_clear_1 _) (meets_dict_clear (mixKind X.prog X.w) a) ⟨vs, dd, by rw [← rel.length]; exact z, fun h' dd' hs => h _ ?_⟩
  have he : ∃ q, h'.get? a = some q := let ⟨q, _, _, hq, _⟩ := dd'; ⟨q, hq⟩
  exact d_write (t' := s.toks) I (by rw [e]; exact True.intro) hs he (dk_new (Nat.zero_le _) hd .nil dd')
/-- len(d) -/
theorem d_len {Q : Value → Shared → Prop} (I : Inv X pins σ H s) (e : Rd H a (.dK kvs)) (h : ∀ t s', Inv X pins σ H s' → Q (.int kvs.length t) s') : wpAny (model X.prog X.w) A (call (.builtin "len") [.ref a]) Q E s := by
  obtain ⟨z, hd, vs, rel, dd⟩ := dk_rd I.hok e
  refine call_len_dict hd dd (by rw [← rel.length]; rw [sizeLine_eq] at z; omega) ?_
  rw [← rel.length]
  exact h _ _ (I.tok _)
/-- if d -/
theorem d_truth {Q : Bool → Shared → Prop} (I : Inv X pins σ H s) (e : Rd H a (.dK kvs)) (h : ∀ s', Inv X pins σ H s' → Q (!kvs.isEmpty) s') : wpAny (model X.prog X.w) A (truthy (.ref a)) Q E s := by
  obtain ⟨z, hd, vs, rel, dd⟩ := dk_rd I.hok e
  refine wpAny_truthy_dict hd dd (by rw [← rel.length]; rw [sizeLine_eq] at z; omega) ?_
  have q : kvs.isEmpty = vs.isEmpty := by cases rel <;> rfl
  rw [← q]
  exact h _ (I.tok _)
end


/-! ### readings and rules -/
/-- the element of a subscription, not a slice -/
def NoSl (i : Expr) : Prop := ∀ ov iv, subscripted i false ov iv = operate [ov, iv] (getItem ov iv)
theorem subD_of {prog : Program} {w : World} {A : Around} {E : Value → Shared → Prop} {s : Shared} {env : Env} {value slice : Expr} {pos : Pos} {T id : String} {Q : Value → Shared → Prop}
    (hl : typeLookup (.type T) "__getitem__" = pure (some (.builtin id))) (hs : NoSl slice)
    (h : wpAny (model prog w) A (eval value env) (fun o s₁ => wpAny (model prog w) A (eval slice env) (fun i s₂ => s₂.TypeIs o T ∧ wpAny (model prog w) A (getItem o i) Q E s₂) E s₁) E s) :
    wpAny (model prog w) A (eval (.Subscript value slice pos) env) Q E s := by
  refine Subscript_ (wpAny_mono h (fun o s₁ h₁ => wpAny_mono h₁ (fun i s₂ h₂ => ?_) fun _ _ x => x) fun _ _ x => x)
  obtain ⟨hT, h₂⟩ := h₂
  unfold subscriptTail
  refine wpAny_bind ?_
  rw [getitemInPython_of_ne hT.not_modules]
  refine wpAny_bind (wpAny_specialOf hT hl ?_)
  have fin : wpAny (model prog w) A (subscripted slice false o i) (fun r s₃ => wpAny (model prog w) A (letTemporaryGo value o r >>= fun _ => pure r) Q E s₃) E s₂ := by
    rw [hs o i]
    exact wpAny_operating (wpAny_mono h₂ (fun r s₃ h₃ => wpAny_bind (wpAny_letTemporaryGo (wpAny_pure h₃))) fun _ _ x => x)
  first
    | exact wpAny_pure (wpAny_bind fin)
    | exact wpAny_bind (wpAny_pure (wpAny_bind fin))
    | exact wpAny_bind fin

theorem dict_typeIs {X : Cx} {pins : List (Addr × Obj)} {σ : St} {H : Hp} {s : Shared} {a : Addr} {y : V} {o : Option V} (I : Inv X pins σ H s) (g : DGet H a y o) : s.TypeIs (.ref a) "dict" := by
  rcases g with ⟨kvs, k, e, _, _⟩ | ⟨kvs, k, b, e, _, _, _⟩
  · obtain ⟨_, _, vs, _, dd⟩ := dk_rd I.hok e
    exact dd.typeIs
  · obtain ⟨_, _, xs, _, dd⟩ := dt_rd I.hok e
    exact dd.typeIs
theorem dict_noDict {X : Cx} {pins : List (Addr × Obj)} {σ : St} {H : Hp} {s : Shared} {a : Addr} {y : V} {o : Option V} (I : Inv X pins σ H s) (g : DGet H a y o) :
    ∀ b, Value.ref a = .ref b → ∃ ob, s.heap.get? b = some ob ∧ ob.dict = none := fun b q => by
  cases q
  rcases g with ⟨kvs, k, e, _, _⟩ | ⟨kvs, k, b, e, _, _, _⟩
  · obtain ⟨_, _, vs, _, ob, _, _, h1, h2, _⟩ := dk_rd I.hok e
    exact ⟨ob, h1, h2.2.1⟩
  · obtain ⟨_, _, xs, _, ob, _, _, h1, h2, _⟩ := dt_rd I.hok e
    exact ⟨ob, h1, h2.2.1⟩

/-- d[y] -/
def tDGet (td ty : TE) : TE := fun σ H Q => td σ H fun x H1 => ty σ H1 fun y H2 => ∃ a v, x = .ref a ∧ DGet H2 a y (some v) ∧ Q v H2
/-- y in d, y not in d -/
def tDIn (ty td : TE) : TE := fun σ H Q => ty σ H fun y H1 => td σ H1 fun x H2 => ∃ a o, x = .ref a ∧ DGet H2 a y o ∧ Q (.bl o.isSome) H2
def tDNotIn (ty td : TE) : TE := fun σ H Q => ty σ H fun y H1 => td σ H1 fun x H2 => ∃ a o, x = .ref a ∧ DGet H2 a y o ∧ Q (.bl (!o.isSome)) H2
/-- d[y] = v -/
def sDPut (td ty tv : TE) : TS := fun D σ H => tv σ H fun v H1 => td σ H1 fun x H2 => ty σ H2 fun y H3 => ∃ a H4, x = .ref a ∧ DPut H3 a y v H4 ∧ D.nx σ H4
/-- d[y] op= v -/
def sDAug (td ty tv : TE) (rd : V → V → Hp → VK → Prop) : TS := fun D σ H => td σ H fun x H1 => ty σ H1 fun y H2 => ∃ a v, x = .ref a ∧ DGet H2 a y (some v) ∧
  tv σ H2 fun y2 H3 => rd v y2 H3 fun z H4 => ∃ H5, DPut H4 a y z H5 ∧ D.nx σ H5
/-- del d[y] -/
def sDDel (td ty : TE) : TS := fun D σ H => td σ H fun x H1 => ty σ H1 fun y H2 => ∃ a kvs k, x = .ref a ∧ H2 a = some (.dK kvs) ∧ y = kV k ∧ (valV kvs k).isSome = true ∧ D.nx σ (upd H2 a (.dK (dropK kvs k)))

section
variable {X : Cx} {o i e value : Expr} {pos pos' tpos : Pos} {td ty tv : TE}
theorem pe_dget (hu : X.A.units + 1 < cLine) (ho : PE X o td) (hi : PE X i ty) (hs : NoSl i) : PE X (.Subscript o i pos) (tDGet td ty) := by
  intro pins s σ H Q I h
  refine subD_of PySem.F.slot_dict_getitem.lookup hs (thn (ho pins s σ H _ I h) fun u s1 ⟨x, H1, I1, rx, q1⟩ => thn (hi pins s1 σ H1 _ I1 q1) fun iv s2 ⟨y, H2, I2, ry, a, v, ex, g, q2⟩ => ?_)
  subst ex
  obtain rfl : u = Value.ref a := rx
  exact ⟨dict_typeIs I2 g, d_getItem hu I2 g ry fun w' s3 I3 rw' => ⟨v, H2, I3, rw', q2⟩⟩
theorem pc_din (hu : X.A.units + 1 < cLine) (hi : PE X i ty) (ho : PE X o td) : PC X .In i o (tDIn ty td) := by
  intro pins s σ H Q I h
  refine thn (hi pins s σ H _ I h) fun iv s1 ⟨y, H1, I1, ry, q1⟩ => thn (ho pins s1 σ H1 _ I1 q1) fun u s2 ⟨x, H2, I2, rx, a, ov, ex, g, q2⟩ => ?_
  subst ex
  obtain rfl : u = Value.ref a := rx
  exact d_in hu I2 g ry fun s3 I3 => ⟨.bl ov.isSome, H2, I3, rfl, q2⟩
theorem pc_dnotin (hu : X.A.units + 1 < cLine) (hi : PE X i ty) (ho : PE X o td) : PC X .NotIn i o (tDNotIn ty td) := by
  intro pins s σ H Q I h
  refine thn (hi pins s σ H _ I h) fun iv s1 ⟨y, H1, I1, ry, q1⟩ => thn (ho pins s1 σ H1 _ I1 q1) fun u s2 ⟨x, H2, I2, rx, a, ov, ex, g, q2⟩ => ?_
  subst ex
  obtain rfl : u = Value.ref a := rx
  exact d_notIn hu I2 g ry fun s3 I3 => ⟨.bl (!ov.isSome), H2, I3, rfl, q2⟩
theorem ps_dput (hu : X.A.units + 1 < cLine) (ho : PE X o td) (hi : PE X i ty) (hv : PE X value tv) (hs : swapsWith value (some (.Subscript o i pos')) pos.line X.env = pure false) :
    PS X (.Assign [.Subscript o i pos'] value pos) (sDPut td ty tv) := by
  intro pins s σ H D I h
  refine wpAny_Assign_Subscript (thn (hv pins s σ H _ I h) fun r s1 ⟨v, H1, I1, rv, q1⟩ => thn (ho pins s1 σ H1 _ I1 q1) fun u s2 ⟨x, H2, I2, rx, q2⟩ => thn (hi pins s2 σ H2 _ I2 q2) fun iv s3 ⟨y, H3, I3, ry, a, H4, ex, g, q3⟩ => ?_) hs
  subst ex
  obtain rfl : u = Value.ref a := rx
  exact d_setItem hu I3 g ry rv fun s4 I4 => ⟨σ, H4, I4, q3⟩
theorem ps_daug {op : Operator} {rd : V → V → Hp → VK → Prop} (hu : X.A.units + 1 < cLine) (ho : PE X o td) (hi : PE X i ty) (hv : PE X value tv) (hop : InOp X op rd)
    (ha : ∀ ov iv new, augStore i ov iv new = (do holding [new, ov, iv] (setItem ov iv new); release [new, ov, iv] []; pure .next)) : PS X (.AugAssign (.Subscript o i tpos) op value pos) (sDAug td ty tv rd) := by
  intro pins s σ H D I h
  refine wpAny_AugAssign_SubscriptAny (thn (ho pins s σ H _ I h) fun u s1 ⟨x, H1, I1, rx, q1⟩ => thn (hi pins s1 σ H1 _ I1 q1) fun iv s2 ⟨y, H2, I2, ry, a, v, ex, g, q2⟩ => ?_) ha
  subst ex
  obtain rfl : u = Value.ref a := rx
  refine d_getItem hu I2 g ry fun w' s3 I3 rw' => thn (hv pins s3 σ H2 _ I3 q2) fun w2 s4 ⟨y2, H3, I4, ry2, q3⟩ => thn (hop pins s4 σ H3 v y2 w' w2 _ I4 rw' ry2 q3) fun w3 s5 ⟨z, H4, I5, rz, H5, g5, q4⟩ => ?_
  exact d_setItem hu I5 g5 ry rz fun s6 I6 => ⟨σ, H5, I6, q4⟩
theorem ps_ddel (ho : PE X o td) (hi : PE X i ty) : PS X (.Delete [.Subscript o i tpos] pos) (sDDel td ty) := by
  intro pins s σ H D I h
  refine wpAny_Delete (wpAny_deleteEach_cons (wpAny_delete_Subscript (thn (ho pins s σ H _ I h) fun u s1 ⟨x, H1, I1, rx, q1⟩ => thn (hi pins s1 σ H1 _ I1 q1) fun iv s2 ⟨y, H2, I2, ry, a, kvs, k, ex, e, ey, l, q2⟩ => ?_)))
  subst ex ey
  obtain rfl : u = Value.ref a := rx
  exact d_delItem I2 e ry l fun s3 I3 => wpAny_deleteEach_nil ⟨σ, _, I3, q2⟩
end


/-! ### displays -/
theorem dk_empty {P : Program} {w : World} {H : Hp} (h : Heap) (hb : sysModules < h.objs.size) : ObjOk P w H (h.push { cls := .type "dict", data := .dict #[] }) h.objs.size (.dK []) :=
  ⟨Nat.zero_le _, beq_eq_false_iff_ne.mpr (Ne.symm (Nat.ne_of_lt hb)), [], .nil, Heap.DictOf.new h⟩
theorem dt_empty {P : Program} {w : World} {H : Hp} (h : Heap) (hb : sysModules < h.objs.size) : ObjOk P w H (h.push { cls := .type "dict", data := .dict #[] }) h.objs.size (.dT []) :=
  ⟨Nat.zero_le _, beq_eq_false_iff_ne.mpr (Ne.symm (Nat.ne_of_lt hb)), [], .nil, _, #[], 0, Heap.get?_push_size _ rfl, ⟨rfl, rfl, rfl⟩, rfl, rfl, List.nodup_nil⟩
/-- {}, to be a dict of the kind that is wanted -/
def tDNewK : TE := fun _ H Q => ∀ p, H p = none → Q (.ref p) (upd H p (.dK []))
def tDNewT : TE := fun _ H Q => ∀ p, H p = none → Q (.ref p) (upd H p (.dT []))
section
variable {X : Cx} {pos : Pos}
theorem pe_dnewK : PE X (.Dict [] [] pos) tDNewK := fun pins s σ H Q I h =>
  wpAny_Dict_empty ⟨.ref s.heap.objs.size, _, I.laid (a := s.heap.objs.size) (o := .dK []) (t' := s.toks) (fun _ _ q => Heap.get?_push_of_some _ q) (Nat.le_refl _) (dk_empty s.heap I.big), rfl, h _ (I.hok.fresh (Nat.le_refl _))⟩
theorem pe_dnewT : PE X (.Dict [] [] pos) tDNewT := fun pins s σ H Q I h =>
  wpAny_Dict_empty ⟨.ref s.heap.objs.size, _, I.laid (a := s.heap.objs.size) (o := .dT []) (t' := s.toks) (fun _ _ q => Heap.get?_push_of_some _ q) (Nat.le_refl _) (dt_empty s.heap I.big), rfl, h _ (I.hok.fresh (Nat.le_refl _))⟩
end

/-- the pairs of a display, from the left -/
def tPairs : List (TE × TE) → St → Hp → (List (V × V) → Hp → Prop) → Prop
  | [], _, H, Q => Q [] H
  | (tk, tv) :: r, σ, H, Q => tk σ H fun x H1 => tv σ H1 fun y H2 => tPairs r σ H2 fun ps H3 => Q ((x, y) :: ps) H3
abbrev VV : List (V × V) → List (Value × Value) → Prop := Paired fun p q => RelV p.1 q.1 ∧ RelV p.2 q.2
def PPs (X : Cx) (pos : Pos) (keys : List (Option Expr)) (values : List Expr) (trs : List (TE × TE)) : Prop :=
  ∀ (pins : List (Addr × Obj)) (s : Shared) (σ : St) (H : Hp) (Q : List (V × V) → Hp → Prop), Inv X pins σ H s → tPairs trs σ H Q →
    wpAny (model X.prog X.w) X.A (evalPairs (pairTrees keys values X.env pos)) (fun vs s' => ∃ ps H', Inv X pins σ H' s' ∧ VV ps vs ∧ Q ps H') X.xe s
theorem pps_nil {X : Cx} {pos : Pos} : PPs X pos [] [] [] := fun pins s σ H Q I h => pairTrees_nil_walk ⟨[], H, I, .nil, h⟩
theorem pps_cons {X : Cx} {pos : Pos} {k v : Expr} {ks : List (Option Expr)} {vs : List Expr} {tk tv : TE} {trs : List (TE × TE)} (hk : PE X k tk) (hv : PE X v tv) (hr : PPs X pos ks vs trs) :
    PPs X pos (some k :: ks) (v :: vs) ((tk, tv) :: trs) := fun pins s σ H Q I h =>
  pairTrees_cons_walk (thn (hk pins s σ H _ I h) fun u s1 ⟨x, H1, I1, rx, q1⟩ => thn (hv pins s1 σ H1 _ I1 q1) fun w2 s2 ⟨y, H2, I2, ry, q2⟩ =>
    thn (hr pins s2 σ H2 _ I2 q2) fun ws s3 ⟨ps, H3, I3, rel, q3⟩ => ⟨(x, y) :: ps, H3, I3, .cons ⟨rx, ry⟩ rel, q3⟩)

def mergeK (kvs more : List (Key × V)) : List (Key × V) := more.foldl (fun acc kv => putK acc kv.1 kv.2) kvs
theorem KV.merge : ∀ {more : List (Key × V)} {rs : List (Key × Value)} {kvs : List (Key × V)} {vs : List (Key × Value)}, KV more rs → KV kvs vs → KV (mergeK kvs more) (merged vs rs) := by
  intro more rs kvs vs r
  unfold KV at r
  induction r generalizing kvs vs with
  | nil => intro q; exact q
  | @cons p q ps qs h t ih =>
    intro r0
    have e : KV (putK kvs p.1 p.2) (stored vs q.1 q.2) := by
      have := r0.put p.1 h.2
      rw [← h.1]; exact this
    exact ih e
theorem length_mergeK : ∀ (more kvs : List (Key × V)), (mergeK kvs more).length ≤ kvs.length + more.length
  | [], kvs => by show kvs.length ≤ kvs.length + 0; omega
  | p :: r, kvs => by
    have h1 := length_mergeK r (putK kvs p.1 p.2)
    have h2 := length_putK kvs p.1 p.2
    show (mergeK (putK kvs p.1 p.2) r).length ≤ _
    rw [List.length_cons]; omega
theorem carries_of {P : Program} {w : World} : ∀ {kvs : List (Key × V)} {ws : List (Value × Value)}, VV (kvs.map fun kv => (kV kv.1, kv.2)) ws → ∃ rs, Carries (mixKind P w) ws rs ∧ KV kvs rs
  | [], _, r => by rw [List.map_nil] at r; cases r; exact ⟨[], True.intro, .nil⟩
  | p :: kvs, _, r => by
    rw [List.map_cons] at r
    cases r with
    | @cons a b as bs h t =>
      obtain ⟨rs, c, q⟩ := carries_of (P := P) (w := w) t
      obtain ⟨b1, b2⟩ := b
      exact ⟨(p.1, b2) :: rs, ⟨kV_is h.1, rfl, c⟩, .cons ⟨rfl, h.2⟩ q⟩
/-- {k: v, ..} with keys ints and texts; the new dict stands empty while the pairs are made -/
def tDisp (trs : List (TE × TE)) : TE := fun σ H Q => ∀ p, H p = none → tPairs trs σ (upd H p (.dK [])) fun ps H2 => H2 p = some (.dK []) ∧ ∃ kvs : List (Key × V), ps = kvs.map (fun kv => (kV kv.1, kv.2)) ∧ kvs.length ≤ 15 ∧ Q (.ref p) (upd H2 p (.dK (mergeK [] kvs)))
theorem pe_disp {X : Cx} {pos : Pos} {keys : List (Option Expr)} {values : List Expr} {trs : List (TE × TE)} (h : PPs X pos keys values trs) (hall : keys.all (·.isSome) = true) (hl : keys.length = values.length) (h0 : keys ≠ [])
    (h15 : keys.length ≤ 15) : PE X (.Dict keys values pos) (tDisp trs) := by
  intro pins s σ H Q I q
  have hn := I.hok.fresh (Nat.le_refl s.heap.objs.size)
  have I1 := I.laid (a := s.heap.objs.size) (o := .dK []) (h' := s.heap.push { cls := .type "dict", data := .dict #[] }) (t' := s.toks) (fun _ _ q => Heap.get?_push_of_some _ q) (Nat.le_refl _) (dk_empty s.heap I.big)
  refine wpAny_Dict_walk (knd := mixKind X.prog X.w) hall hl h0 h15 (thn (h pins _ σ _ _ I1 (q _ hn)) fun ws s2 ⟨ps, H2, I2, rel, e, kvs, ep, lk, q2⟩ => ?_)
  subst ep
  obtain ⟨rs, c, rk⟩ := carries_of (P := X.prog) (w := X.w) rel
  obtain ⟨z, hd, vs0, r0, dd⟩ := dk_of I2.hok e
  cases r0
  refine ⟨rs, c, dd, fun h' dd' hs => ⟨.ref s.heap.objs.size, _, ?_, rfl, q2⟩⟩
  have hz : (mergeK [] kvs).length ≤ sizeLine := by
    have h1 := length_mergeK kvs []
    rw [List.length_nil] at h1
    rw [sizeLine_eq]; omega
  have he : ∃ q, h'.get? s.heap.objs.size = some q := let ⟨q, _, _, hq, _⟩ := dd'; ⟨q, hq⟩
  exact d_write I2 (by rw [e]; exact True.intro) hs he (dk_new hz hd (rk.merge .nil) dd')


/-! ### methods -/
/-- a method call o.m(e) of a built-in, with one argument: what must be seen of the text -/
structure M1 (X : Cx) (o : Expr) (m : Str) (apos : Pos) (e : Expr) (cpos : Pos) : Prop where
  base : attributeBase o m X.env (eval o X.env) = eval o X.env
  few : ((backTo cpos (starEach [e] X.env)).all (fun x => !x.1) && (backToKw cpos (keywordEach [] X.env)).all (fun x => x.1.isSome)
    && decide (([e] : List Expr).length + ([] : List Keyword).length + (if ([] : List Keyword).isEmpty then 0 else 1) < 30)) = true
  line : (apos.endLine == cpos.line) = true
  trees : backTo cpos (starEach [e] X.env) = [(false, eval e X.env)]
structure M2 (X : Cx) (o : Expr) (m : Str) (apos : Pos) (e f : Expr) (cpos : Pos) : Prop where
  base : attributeBase o m X.env (eval o X.env) = eval o X.env
  few : ((backTo cpos (starEach [e, f] X.env)).all (fun x => !x.1) && (backToKw cpos (keywordEach [] X.env)).all (fun x => x.1.isSome)
    && decide (([e, f] : List Expr).length + ([] : List Keyword).length + (if ([] : List Keyword).isEmpty then 0 else 1) < 30)) = true
  line : (apos.endLine == cpos.line) = true
  trees : backTo cpos (starEach [e, f] X.env) = [(false, eval e X.env), (false, eval f X.env)]

/-- a is a dict, whatever its keys -/
def IsD (H : Hp) (a : Addr) : Prop := (∃ kvs, Rd H a (.dK kvs)) ∨ ∃ kvs, Rd H a (.dT kvs)
theorem isD_at {X : Cx} {pins : List (Addr × Obj)} {σ : St} {H : Hp} {s : Shared} {a : Addr} (I : Inv X pins σ H s) (d : IsD H a) :
    s.TypeIs (.ref a) "dict" ∧ (∀ b, Value.ref a = .ref b → ∃ ob, s.heap.get? b = some ob ∧ ob.dict = none) ∧ (a == sysModules) = false := by
  rcases d with ⟨kvs, e⟩ | ⟨kvs, e⟩
  · obtain ⟨_, hd, vs, _, dd⟩ := dk_rd I.hok e
    refine ⟨dd.typeIs, fun b q => ?_, hd⟩
    cases q
    obtain ⟨ob, _, _, h1, h2, _⟩ := dd
    exact ⟨ob, h1, h2.2.1⟩
  · obtain ⟨_, hd, xs, _, dd⟩ := dt_rd I.hok e
    refine ⟨dd.typeIs, fun b q => ?_, hd⟩
    cases q
    obtain ⟨ob, _, _, h1, h2, _⟩ := dd
    exact ⟨ob, h1, h2.2.1⟩

section
variable {X : Cx} {pins : List (Addr × Obj)} {σ : St} {H : Hp} {s : Shared} {a : Addr} {y d : V} {u r : Value} {o : Option V} {A : Around} {E : Value → Shared → Prop}
/-- d.get(y) -/
theorem d_get1 {Q : Value → Shared → Prop} (hu : A.units + 1 < cLine) (I : Inv X pins σ H s) (g : DGet H a y o) (ry : RelV y u) (h : ∀ w' s', Inv X pins σ H s' → RelV (o.getD .non) w' → Q w' s') :
    wpAny (model X.prog X.w) A (call (.builtin "dict.get") [.ref a, u]) Q E s := by
  rcases g with ⟨kvs, k, e, ey, l⟩ | ⟨kvs, k, b, e, ey, eb, l⟩
  · subst ey
    obtain ⟨z, hd, vs, rel, dd⟩ := dk_rd I.hok e
    refine call_meetsIn PySem.F.slot_dict_get dd.typeIs PySem.F.entry_dict_get (PySem.F.args_dict_get_2 _ _) (meets_dict_get (mixKind X.prog X.w) a (kV_is ry) hd) ⟨_, dd.mapOf, h _ _ (I.tok _) ?_⟩
    rw [l]
    exact (rel.val k).getD rfl
  · subst ey
    cases (show u = Value.ref b from ry)
    obtain ⟨z, hd, xs, rel, dd⟩ := dt_rd I.hok e
    refine call_meetsIn PySem.F.slot_dict_get dd.typeIs PySem.F.entry_dict_get (PySem.F.args_dict_get_2 _ _) (meetsH_dict_get (tupleKind (mixKind X.prog X.w)) a b hd) ⟨tupleKind_room_in1 hu, k, xs, key_of I.hok eb, dd, h _ _ (I.tok _) ?_⟩
    rw [l]
    exact (rel.val k).getD rfl
/-- d.get(y, x) -/
theorem d_get2 {Q : Value → Shared → Prop} (hu : A.units + 1 < cLine) (I : Inv X pins σ H s) (g : DGet H a y o) (ry : RelV y u) (rd : RelV d r) (h : ∀ w' s', Inv X pins σ H s' → RelV (o.getD d) w' → Q w' s') :
    wpAny (model X.prog X.w) A (call (.builtin "dict.get") [.ref a, u, r]) Q E s := by
  rcases g with ⟨kvs, k, e, ey, l⟩ | ⟨kvs, k, b, e, ey, eb, l⟩
  · subst ey
    obtain ⟨z, hd, vs, rel, dd⟩ := dk_rd I.hok e
    refine call_meetsIn PySem.F.slot_dict_get dd.typeIs PySem.F.entry_dict_get (PySem.F.args_dict_get_3 _ _ _) (meets_dict_get_default (mixKind X.prog X.w) a (kV_is ry) hd r) ⟨_, dd.mapOf, h _ _ (I.tok _) ?_⟩
    rw [l]
    exact (rel.val k).getD rd
  · subst ey
    cases (show u = Value.ref b from ry)
    obtain ⟨z, hd, xs, rel, dd⟩ := dt_rd I.hok e
    refine call_meetsIn PySem.F.slot_dict_get dd.typeIs PySem.F.entry_dict_get (PySem.F.args_dict_get_3 _ _ _) (meetsH_dict_get_default (tupleKind (mixKind X.prog X.w)) a b hd r) ⟨tupleKind_room_in1 hu, k, xs, key_of I.hok eb, dd, h _ _ (I.tok _) ?_⟩
    rw [l]
    exact (rel.val k).getD rd
end

def tDGet1 (td ty : TE) : TE := fun σ H Q => td σ H fun x H1 => ∃ a, x = .ref a ∧ IsD H1 a ∧ ty σ H1 fun y H2 => ∃ o, DGet H2 a y o ∧ Q (o.getD .non) H2
def tDGet2 (td ty tx : TE) : TE := fun σ H Q => td σ H fun x H1 => ∃ a, x = .ref a ∧ IsD H1 a ∧ ty σ H1 fun y H2 => tx σ H2 fun z H3 => ∃ o, DGet H3 a y o ∧ Q (o.getD z) H3
/-- d.pop(k): there; d.pop(k, x): there or not -/
def tDPop1 (td ty : TE) : TE := fun σ H Q => td σ H fun x H1 => ∃ a, x = .ref a ∧ IsD H1 a ∧ ty σ H1 fun y H2 => ∃ kvs k v, H2 a = some (.dK kvs) ∧ y = kV k ∧ valV kvs k = some v ∧ Q v (upd H2 a (.dK (dropK kvs k)))
def tDPop2 (td ty tx : TE) : TE := fun σ H Q => td σ H fun x H1 => ∃ a, x = .ref a ∧ IsD H1 a ∧ ty σ H1 fun y H2 => tx σ H2 fun z H3 => ∃ kvs k, H3 a = some (.dK kvs) ∧ y = kV k ∧
  (∀ v, valV kvs k = some v → Q v (upd H3 a (.dK (dropK kvs k)))) ∧ (valV kvs k = none → Q z H3)
section
variable {X : Cx} {o e f : Expr} {apos cpos : Pos} {td ty tx : TE}
theorem pe_dget1 (hu : X.A.units + 1 < cLine) (ho : PE X o td) (he : PE X e ty) (m : M1 X o "get" apos e cpos) : PE X (.Call (.Attribute o "get" apos) [e] [] cpos) (tDGet1 td ty) := by
  intro pins s σ H Q I h
  refine wpAny_Call_method m.base m.few m.line PySem.F.plainAttrs_dict PySem.F.slot_dict_get PySem.F.type_dict_get (thn (ho pins s σ H _ I h) fun u s1 ⟨x, H1, I1, rx, a, ex, d, q1⟩ => ?_)
  subst ex
  obtain rfl : u = Value.ref a := rx
  obtain ⟨t1, t2, _⟩ := isD_at I1 d
  refine ⟨t1, t2, ?_⟩
  rw [m.trees]
  refine Calls.callWith_builtin rfl (Calls.evalArgs_plain (Calls.spliced_cons (thn (he pins s1 σ H1 _ I1 q1) fun iv s2 ⟨y, H2, I2, ry, ov, g, q2⟩ => Calls.spliced_nil ?_)))
  exact d_get1 hu I2 g ry fun w' s3 I3 rw' => ⟨_, H2, I3, rw', q2⟩
theorem pe_dget2 (hu : X.A.units + 1 < cLine) (ho : PE X o td) (he : PE X e ty) (hf : PE X f tx) (m : M2 X o "get" apos e f cpos) : PE X (.Call (.Attribute o "get" apos) [e, f] [] cpos) (tDGet2 td ty tx) := by
  intro pins s σ H Q I h
  refine wpAny_Call_method m.base m.few m.line PySem.F.plainAttrs_dict PySem.F.slot_dict_get PySem.F.type_dict_get (thn (ho pins s σ H _ I h) fun u s1 ⟨x, H1, I1, rx, a, ex, d, q1⟩ => ?_)
  subst ex
  obtain rfl : u = Value.ref a := rx
  obtain ⟨t1, t2, _⟩ := isD_at I1 d
  refine ⟨t1, t2, ?_⟩
  rw [m.trees]
  refine Calls.callWith_builtin rfl (Calls.evalArgs_plain (Calls.spliced_cons (thn (he pins s1 σ H1 _ I1 q1) fun iv s2 ⟨y, H2, I2, ry, q2⟩ =>
    Calls.spliced_cons (thn (hf pins s2 σ H2 _ I2 q2) fun fv s3 ⟨z, H3, I3, rz, ov, g, q3⟩ => Calls.spliced_nil ?_))))
  exact d_get2 hu I3 g ry rz fun w' s4 I4 rw' => ⟨_, H3, I4, rw', q3⟩
theorem pe_dpop1 (ho : PE X o td) (he : PE X e ty) (m : M1 X o "pop" apos e cpos) : PE X (.Call (.Attribute o "pop" apos) [e] [] cpos) (tDPop1 td ty) := by
  intro pins s σ H Q I h
  refine wpAny_Call_method m.base m.few m.line PySem.F.plainAttrs_dict PySem.F.slot_dict_pop PySem.F.type_dict_pop (thn (ho pins s σ H _ I h) fun u s1 ⟨x, H1, I1, rx, a, ex, d, q1⟩ => ?_)
  subst ex
  obtain rfl : u = Value.ref a := rx
  obtain ⟨t1, t2, _⟩ := isD_at I1 d
  refine ⟨t1, t2, ?_⟩
  rw [m.trees]
  refine Calls.callWith_builtin rfl (Calls.evalArgs_plain (Calls.spliced_cons (thn (he pins s1 σ H1 _ I1 q1) fun iv s2 ⟨y, H2, I2, ry, kvs, k, v, ea, ey, l, q2⟩ => Calls.spliced_nil ?_)))
  subst ey
  exact d_pop I2 ea ry l (.inl rfl) fun w' s3 I3 rw' => ⟨v, _, I3, rw', q2⟩
theorem pe_dpop2 (ho : PE X o td) (he : PE X e ty) (hf : PE X f tx) (m : M2 X o "pop" apos e f cpos) : PE X (.Call (.Attribute o "pop" apos) [e, f] [] cpos) (tDPop2 td ty tx) := by
  intro pins s σ H Q I h
  refine wpAny_Call_method m.base m.few m.line PySem.F.plainAttrs_dict PySem.F.slot_dict_pop PySem.F.type_dict_pop (thn (ho pins s σ H _ I h) fun u s1 ⟨x, H1, I1, rx, a, ex, d, q1⟩ => ?_)
  subst ex
  obtain rfl : u = Value.ref a := rx
  obtain ⟨t1, t2, _⟩ := isD_at I1 d
  refine ⟨t1, t2, ?_⟩
  rw [m.trees]
  refine Calls.callWith_builtin rfl (Calls.evalArgs_plain (Calls.spliced_cons (thn (he pins s1 σ H1 _ I1 q1) fun iv s2 ⟨y, H2, I2, ry, q2⟩ =>
    Calls.spliced_cons (thn (hf pins s2 σ H2 _ I2 q2) fun fv s3 ⟨z, H3, I3, rz, kvs, k, ea, ey, q3, q4⟩ => Calls.spliced_nil ?_))))
  subst ey
  cases l : valV kvs k with
  | some v => exact d_pop I3 ea ry l (.inr ⟨fv, rfl⟩) fun w' s4 I4 rw' => ⟨v, _, I4, rw', q3 v l⟩
  | none => exact d_popD I3 ea ry l fun s4 I4 => ⟨z, H3, I4, rz, q4 l⟩
end

/-! ### dict(d): a copy -/
section
variable {X : Cx} {pins : List (Addr × Obj)} {σ : St} {H : Hp} {s : Shared} {a : Addr} {kvs : List (Key × V)} {A : Around} {E : Value → Shared → Prop}
theorem d_copyOf {Q : Value → Shared → Prop} (I : Inv X pins σ H s) (e : Rd H a (.dK kvs)) (h : ∀ p s', H p = none → Inv X pins σ (upd H p (.dK kvs)) s' → Q (.ref p) s') : wpAny (model X.prog X.w) A (call (.type "dict") [.ref a]) Q E s := by
  obtain ⟨z, hd, vs, rel, dd⟩ := dk_rd I.hok e
  refine kt_call_dict hd dd (by rw [← rel.length]; exact z) fun h' dd' hs => ?_
  refine h _ _ (I.hok.fresh (Nat.le_refl _)) (I.laid (a := s.heap.objs.size) (o := .dK kvs) (t' := s.toks) (fun b q hq => ?_) (Nat.le_refl _) (dk_new z (beq_eq_false_iff_ne.mpr (Ne.symm (Nat.ne_of_lt I.big))) rel dd'))
  exact (hs.2 b (Nat.ne_of_lt (Heap.lt_size hq))).trans (Heap.get?_push_of_some _ hq)
end


section
variable {X : Cx} {pins : List (Addr × Obj)} {σ : St} {H : Hp} {s : Shared} {a : Addr} {y : V} {u : Value} {A : Around} {E : Value → Shared → Prop}
/-- d[y], not there: a KeyError -/
theorem d_missing {Q : Value → Shared → Prop} (hu : A.units + 1 < cLine) (hh : A.handled = none) (I : Inv X pins σ H s) (g : DGet H a y none) (ry : RelV y u)
    (h : ∀ h' e t', Heap.NewExc s.heap h' e "KeyError" → E (.ref e) { s with heap := h', toks := t' }) : wpAny (model X.prog X.w) A (getItem (.ref a) u) Q E s := by
  rcases g with ⟨kvs, k, e, ey, l⟩ | ⟨kvs, k, b, e, ey, eb, l⟩
  · subst ey
    obtain ⟨z, hd, vs, rel, dd⟩ := dk_rd I.hok e
    have hn : valueAt vs k = none := RelO.none_of (by rw [l]; exact rel.val k)
    exact wpAny_getItem_missing_of (kV_is ry) hd hh dd.mapOf hn fun h' ex ne => h h' ex _ ne
  · subst ey
    cases (show u = Value.ref b from ry)
    obtain ⟨z, hd, xs, rel, dd⟩ := dt_rd I.hok e
    have hn : (atKey xs k).map (·.2) = none := RelO.none_of (by rw [l]; exact rel.val k)
    exact wpAny_getItem_missing_heap (tupleKind_room_in1 hu) (key_of I.hok eb) hd hh dd (Option.map_eq_none_iff.mp hn) fun h' ex ne => h h' ex _ ne
end
end L2

namespace Att
open PySem PySem.W PySem.Calls PyProof.Rows

/-! ### the script -/
theorem ints_of_wellAll {P : Params} {h : Heap} : ∀ (ns : List Int) (vs : List Value), WellAll P h vs (ns.map WData.int) → IntsAre vs ns := by
  intro ns
  induction ns with
  | nil =>
    intro vs w
    rw [List.map_nil] at w
    cases w
    exact .nil
  | cons n ns ih =>
    intro vs w
    rw [List.map_cons] at w
    cases w with
    | cons a b =>
      cases a
      exact .cons _ _ (ih _ b)

theorem script_of {l : OpenLaw} {n : Nat} (hn : l.most = some n) {P : Params} {h : Heap} {args : List WData} {vals : List Value}
    (hpre : l.row.toRowW.claim.pre args = true) (hwl : WellAll P h vals args) :
    ∃ a vs ns, vals = [Value.ref a] ∧ args = [WData.list (ns.map WData.int)] ∧ h.get? a = some { cls := .type "list", data := .seq vs.toArray } ∧ IntsAre vs ns ∧ ns.length ≤ n := by
  have hsh : WShape.hasAll [] args [.list .int] = true := (pre_splitW hpre).1
  have hc : l.pre.holds [] { args := args } = true := (pre_splitW hpre).2
  obtain ⟨d, r, rfl, h1, h2⟩ := hasAllW_cons hsh
  obtain rfl := hasAllW_nil h2
  obtain ⟨xs, rfl, h3⟩ := hasW_list h1
  obtain ⟨ns, rfl⟩ := items_int h3
  have hlen : ns.length ≤ n := by
    unfold OpenLaw.pre at hc
    have h4 : (WTm.not (.lt (.lit (.int (n : Int))) (.len (.arg 0)))).holds [] { args := [.list (ns.map .int)] } = true := by
      have h4 := (holds_andW hc).1
      rw [hn] at h4
      exact h4
    have h5 := condW_of h4 (w_not (w_lt w_lit (w_len_list (w_arg rfl))))
    rw [List.length_map] at h5
    refine Nat.le_of_not_lt fun q => ?_
    have q' : (n : Int) < ((ns.length : Nat) : Int) := by omega
    first
      | (rw [decide_eq_true q'] at h5; exact absurd h5 (by decide))
      | (simp at h5; omega)
  cases hwl with
  | cons w1 w2 =>
    cases w2
    cases w1 with
    | list ho hall => exact ⟨_, _, ns, rfl, rfl, ho, ints_of_wellAll ns _ hall, hlen⟩

theorem post_true (l : OpenLaw) (args : List WData) : l.row.toRowW.claim.post args (.bool true) args = true :=
  postW_of (r := l.row.toRowW) (X := (true == true))
    (show WShape.has [] (.bool true) .bool = true by first | rfl | decide | simp [WShape.has, WShape.arms, WShape.armsAll])
    (show (WTm.eq .res (.lit (.bool true))).value [] { args := args, res := some (.bool true), after := args } = some (.bool (true == true)) from w_eq_bool (w_res rfl) w_lit) rfl

/-! ### the attachment: holds_open's last premise (the goal 'hc' behind k_head) from a wpAny of the law's body -/
theorem attach {l : OpenLaw} {n : Nat} {q : Program} {loose : List Str} {XP : (Str → Option Value) → Heap → Prop} {YP : World → Heap → Prop} {d : DefRec} {x : Str}
    (hn : l.most = some n) (hdf : d.params.defaults = [])
    (hbind : ∀ pm cd doc v : Value, bindArgs (docDef d.name d.params d.body d.scope pm cd doc) ⟨[v], []⟩ = pure [(x, v)])
    (hx : d.scope.names.lookup x = some .local ∨ d.scope.names.lookup x = some .cell)
    (hk : d.scope.kind = .function) (hco : d.scope.isCoroutine = false) (hgen : d.scope.isGenerator = false)
    (body : ∀ (w : World) (s₀ s₁ s : Shared) (mg mb : Str → Option Value) (fa : Addr) (o : Obj) (pm cd doc : Value) (a : Addr) (vs : List Value) (ns : List Int),
      Ground q loose [] XP w s₀ mg mb s₁.heap → YP w s₁.heap →
      s₁.heap.get? fa = some o → o.data = .func (docDef d.name d.params d.body d.scope pm cd doc) → s₁.heap.CodeRec cd d.name → mg d.name = some (.ref fa) →
      s₁.heap.get? a = some { cls := .type "list", data := .seq vs.toArray } → IntsAre vs ns → ns.length ≤ n →
      s.gens = #[] → s.os = s₁.os →
      Fr s₁.heap s₁.heap.objs.size s.heap (bindL (envOfC d.name d.scope s₁.heap.objs.size fa cd).kindOf [(x, .ref a)] fun _ => none) →
      Cl s₁.heap.objs.size (cellsFrom (s₁.heap.objs.size + 1) d.scope.names []) s.heap (bindC (envOfC d.name d.scope s₁.heap.objs.size fa cd).kindOf [(x, .ref a)] fun _ => none) →
      wpAny (model l.prog w) (callerA.deeper (envOfC d.name d.scope s₁.heap.objs.size fa cd)) (execs d.body (envOfC d.name d.scope s₁.heap.objs.size fa cd))
        (fun f s' => f = .ret (.bool true) ∧ OldK s₁.heap s'.heap ∧ s'.os = s₁.os ∧ AllBare s'.gens) (fun _ _ => False) s) :
    WalkO q loose XP YP l.row.toRowW d [] (fun f vs => PySem.call f vs) := by
  intro w s₀ s₁ mg mb G Y fa o pm cd doc dV kV ho hd hcd hD hmg hg args vals as hpre hlay hrd hwl hlo
  obtain rfl : dV = .none := Dflts.none hD hdf
  obtain rfl : kV = .none := Dflts.noKw hD
  obtain ⟨a, vs, ns, rfl, rfl, hobj, hints, hlen⟩ := script_of hn hpre hwl
  refine enter_call ?_
  refine call_cells_ret (o := o) (by rw [depth_caller]; decide) ho (fd_plain hd) G.T.nolimit hcd (hbind pm cd doc (.ref a)) (fun y hy => ?_) (fun h₁ tk F X => ?_) hco hgen hk
  · obtain rfl : y = (x, Value.ref a) := List.mem_singleton.mp hy
    rcases hx with e | e
    · exact .inl e
    · exact .inr ⟨e, cellsFrom_some _ _ _ (.inl e)⟩
  · refine wpAny_mono (body w s₀ s₁ { s₁ with heap := h₁, toks := tk } mg mb fa o pm cd doc a vs ns G Y ho (fd_plain hd) hcd hmg hobj hints hlen hg rfl F X) (fun f s' hq => ?_) (fun _ _ hq => hq)
    obtain ⟨rfl, h2, h3, h4⟩ := hq
    exact ⟨.inl ⟨.bool true, .bool true, [], rfl, fun _ => rfl, .bool true, post_true l _, fun _ => ⟨List.Pairwise.nil, fun _ hm => (nomatch hm)⟩⟩, h2, h3, h4⟩

/-- the same from a codeAny of the CALL (for a layer whose function contracts speak of calls) -/
theorem attach_call {l : OpenLaw} {n : Nat} {q : Program} {loose : List Str} {XP : (Str → Option Value) → Heap → Prop} {YP : World → Heap → Prop} {d : DefRec}
    (hn : l.most = some n) (hdf : d.params.defaults = [])
    (call : ∀ (w : World) (s₀ s₁ : Shared) (mg mb : Str → Option Value) (fa : Addr) (o : Obj) (pm cd doc : Value) (a : Addr) (vs : List Value) (ns : List Int),
      Ground q loose [] XP w s₀ mg mb s₁.heap → YP w s₁.heap →
      s₁.heap.get? fa = some o → o.data = .func (docDef d.name d.params d.body d.scope pm cd doc) → s₁.heap.CodeRec cd d.name → mg d.name = some (.ref fa) →
      s₁.heap.get? a = some { cls := .type "list", data := .seq vs.toArray } → IntsAre vs ns → ns.length ≤ n → s₁.gens = #[] →
      codeAny (model l.prog w) callerA (.call (.ref fa) ⟨[.ref a], []⟩) (fun r s' => r = .ok (.ret (.bool true)) ∧ OldK s₁.heap s'.heap ∧ s'.os = s₁.os ∧ AllBare s'.gens) s₁) :
    WalkO q loose XP YP l.row.toRowW d [] (fun f vs => PySem.call f vs) := by
  intro w s₀ s₁ mg mb G Y fa o pm cd doc dV kV ho hd hcd hD hmg hg args vals as hpre hlay hrd hwl hlo
  obtain rfl : dV = .none := Dflts.none hD hdf
  obtain rfl : kV = .none := Dflts.noKw hD
  obtain ⟨a, vs, ns, rfl, rfl, hobj, hints, hlen⟩ := script_of hn hpre hwl
  refine enter_call (codeAny_mono (call w s₀ s₁ mg mb fa o pm cd doc a vs ns G Y ho (fd_plain hd) hcd hmg hobj hints hlen hg) fun r s' hq => ?_)
  obtain ⟨rfl, h2, h3, h4⟩ := hq
  exact ⟨.inl ⟨.bool true, .bool true, [], rfl, fun _ => rfl, .bool true, post_true l _, fun _ => ⟨List.Pairwise.nil, fun _ hm => (nomatch hm)⟩⟩, h2, h3, h4⟩

/-- the same where the top left finished generators (o_head chose holds_openN): nothing may have changed at all and no generator may be left -/
theorem attachN {l : OpenLaw} {n : Nat} {q : Program} {loose : List Str} {XP : (Str → Option Value) → Heap → Prop} {YP : World → Heap → Prop} {d : DefRec} {x : Str}
    (hn : l.most = some n) (hdf : d.params.defaults = [])
    (hbind : ∀ pm cd doc v : Value, bindArgs (docDef d.name d.params d.body d.scope pm cd doc) ⟨[v], []⟩ = pure [(x, v)])
    (hx : d.scope.names.lookup x = some .local ∨ d.scope.names.lookup x = some .cell)
    (hk : d.scope.kind = .function) (hco : d.scope.isCoroutine = false) (hgen : d.scope.isGenerator = false)
    (body : ∀ (w : World) (s₀ s₁ s : Shared) (mg mb : Str → Option Value) (fa : Addr) (o : Obj) (pm cd doc : Value) (a : Addr) (vs : List Value) (ns : List Int),
      Ground q loose [] XP w s₀ mg mb s₁.heap → YP w s₁.heap →
      s₁.heap.get? fa = some o → o.data = .func (docDef d.name d.params d.body d.scope pm cd doc) → s₁.heap.CodeRec cd d.name → mg d.name = some (.ref fa) →
      s₁.heap.get? a = some { cls := .type "list", data := .seq vs.toArray } → IntsAre vs ns → ns.length ≤ n →
      s.gens = #[] → s.os = s₁.os →
      Fr s₁.heap s₁.heap.objs.size s.heap (bindL (envOfC d.name d.scope s₁.heap.objs.size fa cd).kindOf [(x, .ref a)] fun _ => none) →
      Cl s₁.heap.objs.size (cellsFrom (s₁.heap.objs.size + 1) d.scope.names []) s.heap (bindC (envOfC d.name d.scope s₁.heap.objs.size fa cd).kindOf [(x, .ref a)] fun _ => none) →
      wpAny (model l.prog w) (callerA.deeper (envOfC d.name d.scope s₁.heap.objs.size fa cd)) (execs d.body (envOfC d.name d.scope s₁.heap.objs.size fa cd))
        (fun f s' => f = .ret (.bool true) ∧ (∀ b o, s₁.heap.get? b = some o → s'.heap.get? b = some o) ∧ s'.os = s₁.os ∧ s'.gens = #[]) (fun _ _ => False) s) :
    WalkN q loose XP YP l.row.toRowW d [] (fun f vs => PySem.call f vs) := by
  intro w s₀ s₁ mg mb G Y fa o pm cd doc dV kV ho hd hcd hD hmg hg args vals as hpre hlay hrd hwl hlo
  obtain rfl : dV = .none := Dflts.none hD hdf
  obtain rfl : kV = .none := Dflts.noKw hD
  obtain ⟨a, vs, ns, rfl, rfl, hobj, hints, hlen⟩ := script_of hn hpre hwl
  refine enter_callW ?_
  refine call_cells_ret (o := o) (by rw [depth_caller]; decide) ho (fd_plain hd) G.T.nolimit hcd (hbind pm cd doc (.ref a)) (fun y hy => ?_) (fun h₁ tk F X => ?_) hco hgen hk
  · obtain rfl : y = (x, Value.ref a) := List.mem_singleton.mp hy
    rcases hx with e | e
    · exact .inl e
    · exact .inr ⟨e, cellsFrom_some _ _ _ (.inl e)⟩
  · refine wpAny_mono (body w s₀ s₁ { s₁ with heap := h₁, toks := tk } mg mb fa o pm cd doc a vs ns G Y ho (fd_plain hd) hcd hmg hobj hints hlen hg rfl F X) (fun f s' hq => ?_) (fun _ _ hq => hq)
    obtain ⟨rfl, h2, h3, h4⟩ := hq
    exact ⟨.inl ⟨.bool true, .bool true, [], rfl, fun _ => rfl, .bool true, post_true l _, fun _ => ⟨List.Pairwise.nil, fun _ hm => (nomatch hm)⟩⟩, h2, h3, h4⟩

/-! ### rules over ANY heap (no ledger) from facts about the written part K: the library's own take a ledger (News) for what they write -/
section
variable {prog : Program} {w : World} {A : Around} {E : Value → Shared → Prop} {s : Shared} {K : Frag}

/-- a def of the module, or a method (qual 'C.m'), entered: the frame is the next address; cells behind it -/
theorem call_fn {R : Result → Shared → Prop} {name qual : Str} {params : Arguments} {body : List Stmt} {scope : Scope} {dV kV doc pm cdv ct oc : Value} {an od : Option Addr} {osl : Array (Option Value)} {f : Addr} {args : Args} {binds : List (Str × Value)}
    (X : K.In s.heap) (hlim : s.heap.NoLimit) (ho : K.lookup f = some ⟨oc, od, .func (fnOf name qual params body scope dV kV doc pm an cdv ct), osl⟩) (hcd : codeIn K cdv qual = true) (hroom : A.depth < recursionLimit)
    (hbind : BindsTo s (fnOf name qual params body scope dV kV doc pm an cdv ct) args binds)
    (hkind : (binds.all fun y => scope.names.lookup y.1 == some .local || scope.names.lookup y.1 == some .cell) = true)
    (h : ∀ s₁, InCallC s s.heap.objs.size (bindL (envOfC qual scope s.heap.objs.size f cdv).kindOf binds fun _ => none) (cellsFrom (s.heap.objs.size + 1) scope.names [])
        (bindC (envOfC qual scope s.heap.objs.size f cdv).kindOf binds fun _ => none) s₁ →
      wpAny (model prog w) (A.deeper (envOfC qual scope s.heap.objs.size f cdv)) (execs body (envOfC qual scope s.heap.objs.size f cdv))
        (fun fl s' => R (.ok (.ret (match fl with | .ret v => v | _ => .none))) s')
        (fun e s' => wpAny (model prog w) (A.deeper (envOfC qual scope s.heap.objs.size f cdv)) (leaving (envOfC qual scope s.heap.objs.size f cdv) e) (fun _ s'' => R (.error e) s'') (fun e' s'' => R (.error e') s'') s') s₁)
    (hco : scope.isCoroutine = false) (hgen : scope.isGenerator = false) (hk : scope.kind = .function) : codeAny (model prog w) A (.call (.ref f) args) R s := by
  refine codeAny_call_function hroom (X _ _ ho) rfl hco hgen rfl (codeRec_of X hcd) (hbind _ _ _ _ ?_)
  refine wpAny_newFunctionEnv_cells hk (kindsX hkind _) fun env he s₁ x => ?_
  subst he
  exact ⟨hlim.keeps x.toInCall.keep, codeAny_func (h s₁ x)⟩

/-- C(..): dict at size, instance at size + 1, then __init__ -/
theorem make_obj {R : Result → Shared → Prop} {C fI : Addr} {rest : List Value} {kw : List (Str × Value)}
    (X : K.In s.heap) (hm : makesIn K C = true) (hi : findIn K (.ref C) "__init__" = some (some (.ref fI))) (hf : isFn K (.ref fI) = true)
    (h : codeAny (model prog w) (A.under (.builtin "type.__call__" ⟨.ref C :: rest, kw⟩)) (.call (.ref fI) ⟨.ref (s.heap.objs.size + 1) :: rest, kw⟩) (InitBack (s.heap.objs.size + 1) R)
      { s with heap := (s.heap.push emptyDict).push (instObj C s.heap.objs.size) }) : codeAny (model prog w) A (.call (.ref C) ⟨rest, kw⟩) R s := by
  obtain ⟨hh, g, d, t, os⟩ := s
  exact make_core (makes_of X hm) (looks_findIn X hi) (fun self => bind_fn X self (beq_iff_eq.mp hf)) (.inl rfl) h

/-- x.name where the instance's dict holds the name and the class does not -/
theorem get_field {x C : Addr} {ox : Obj} {es : List DictEntry} {n : Nat} {name : Str} {expr : Bool} {v : Value} {Q : Value → Shared → Prop}
    (X : K.In s.heap) (I : PySem.W.InstAt s.heap x ox C (some (dictOf es n))) (hg : plainGet K C name = true) (hh : hasDictIn K C = true) (ha : findIn K (.ref C) name = some none)
    (hl : getL name es = some (some v)) (hv : handedIn v = true) (h : Q v { s with toks := s.toks + 1 }) : wpAny (model prog w) A (getAttr (.ref x) name expr) Q E s :=
  get_value X I (plainGet_of hg).1 (findObj_own hh ha rfl hl) hv h

/-- x.m(..): the method found in the class -/
theorem get_method {x C f : Addr} {ox : Obj} {es : List DictEntry} {n : Nat} {name : Str} {pl : Sem Bool} {Q : Value × List Value → Shared → Prop}
    (X : K.In s.heap) (I : PySem.W.InstAt s.heap x ox C (some (dictOf es n))) (hg : plainGet K C name = true) (hf : findIn K (.ref C) name = some (some (.ref f))) (ht : isFn K (.ref f) = true)
    (hl : getL name es = some none) (h : Q (.ref f, [.ref x]) s) : wpAny (model prog w) A (getMethod (.ref x) name pl) Q E s :=
  method_fn X I (plainGet_of hg).1 (plainGet_of hg).2 hf (beq_iff_eq.mp ht) (by show (lookIn name (dictOf es n)).map _ = _; rw [lookIn_dict, hl]; rfl) h

/-! the whole heap as the ledger: makes every rule that writes through a ledger a rule over any heap -/
def noObjs (h : Heap) : Heap := { h with objs := #[] }
theorem noObjs_get (h : Heap) (b : Addr) : (noObjs h).get? b = none := by
  cases e : (noObjs h).get? b with
  | none => rfl
  | some o => exact absurd (Heap.lt_size e) (Nat.not_lt_zero _)
def ledger (h : Heap) (L d : Addr) : List (Addr × Obj) := (List.range h.objs.size).filterMap fun a => if a = L ∨ a = d then none else (h.get? a).map fun o => (a, o)
theorem mem_ledger {h : Heap} {L d a : Addr} {o : Obj} : (a, o) ∈ ledger h L d ↔ a ≠ L ∧ a ≠ d ∧ h.get? a = some o := by
  unfold ledger
  rw [List.mem_filterMap]
  constructor
  · rintro ⟨b, _, e⟩
    split at e
    · cases e
    · rename_i hb
      obtain ⟨o', ho, e'⟩ := Option.map_eq_some_iff.mp e
      cases e'
      exact ⟨fun q => hb (.inl q), fun q => hb (.inr q), ho⟩
  · rintro ⟨n1, n2, ho⟩
    refine ⟨a, List.mem_range.mpr (Heap.lt_size ho), ?_⟩
    rw [if_neg (show ¬ (a = L ∨ a = d) from fun q => q.elim n1 n2), ho] <;> rfl
theorem news_ledger {h : Heap} {L d : Addr} {od : Obj} (hne : d ≠ L) (ho : h.get? d = some od) : News (noObjs h) L h ([] ++ (d, od) :: ledger h L d) := by
  rintro ⟨a, o⟩ hp
  rcases List.mem_cons.mp hp with e | hp
  · cases e
    exact ⟨ho, hne, noObjs_get _ _⟩
  · obtain ⟨n1, n2, e⟩ := mem_ledger.mp hp
    exact ⟨e, n1, noObjs_get _ _⟩
theorem fr_all {h : Heap} {L : Addr} {m : Str → Option Value} (n : h.Ns L m) : Fr (noObjs h) L h m :=
  ⟨n, fun b o e => (by rw [noObjs_get] at e; cases e), Nat.zero_le _⟩
/-- Upd of the head entry (for append_K, setItem_K ..) -/
theorem upd_ledger {h : Heap} {L d : Addr} {o o' : Obj} : Upd d o o' ((d, o) :: ledger h L d) ((d, o') :: ledger h L d) :=
  .head fun ⟨_, _⟩ hp => (mem_ledger.mp hp).2.1

/-- x.name = v over any heap: L is any namespace of the heap (the frame's, say): its map stays, its object is not told; all else but the dict stays -/
theorem set_field {x C dx L : Addr} {ox : Obj} {m : Str → Option Value} {es es' : List DictEntry} {n n' : Nat} {name : Str} {v : Value} {Q : Unit → Shared → Prop}
    (X : K.In s.heap) (I : PySem.W.InstAt s.heap x ox C (some (dictOf es n))) (hd : ox.dict = some dx) (hL : s.heap.Ns L m) (hne : dx ≠ L)
    (hs : findIn K (.ref C) "__setattr__" = some (some (.builtin "object.__setattr__"))) (hp : plainOver K C = true) (ht : takerIn K C name = some none) (hh : hasDictIn K C = true) (hl : (getL name es).isSome = true)
    (e : (putL name (PyData.keyHash w.params name) (.str name (s.toks + 1)) v es, putN name es n) = (es', n')) (hz : es'.length ≤ 1000)
    (h : ∀ h' : Heap, h'.Ns L m → h'.get? dx = some (dictOf es' n') → (∀ b o, b ≠ dx → b ≠ L → s.heap.get? b = some o → h'.get? b = some o) → Q () { s with heap := h', toks := s.toks + 2 }) :
    wpAny (model prog w) A (setAttr (.ref x) name v) Q E s := by
  obtain ⟨e1, e2⟩ := Prod.mk.inj e
  have hdx : s.heap.get? dx = some (dictOf es n) := by
    have := I.dict
    rw [hd] at this
    exact this
  refine set_plain X I hs (osa_dict (s := { s with toks := s.toks + 1 }) (h₀ := noObjs s.heap) (L := L) (m := m) (od := dictOf es n) (od' := dictOf es' n') (es := es') (n := n') (pre := []) (post := ledger s.heap L dx)
    (fr_all hL) (news_ledger hne hdx) X I hd hp ht hh hl (fun _ q => nomatch q) (fun ⟨_, _⟩ q => (mem_ledger.mp q).2.1) (by rw [putName_dict, e1, e2]) rfl hz fun h' F' N' => ?_)
  exact h h' F'.ns (N'.get (List.Mem.head _)) fun b o n1 n2 ho => N'.get (List.Mem.tail _ (mem_ledger.mpr ⟨n2, n1, ho⟩))
end
end Att

namespace L2
open PySem PySem.Spec PyProof.Rows

theorem vals_ints : ∀ {vs : List Value} {ns : List Int}, IntsAre vs ns → Vals (ns.map V.int) vs
  | _, _, .nil => .nil
  | _, _, .cons n t h => .cons ⟨t, rfl⟩ (vals_ints h)

/-- nothing is tracked but the script, known to the object (or it is an object of the module) -/
def Only (H : Hp) : Prop := ∀ b, H b = none ∨ ∃ o xs, H b = some (.frz o (.lst xs))

/-- THE HEAD: the law's promise, at the heap behind the top. F, the promise of the law's def, may use that base is part of the heap (so K.In base, base.Ns mainGlobals mg stand in Mod) -/
theorem law_call {P : Program} {w : World} {K : PySem.W.Frag} {mg mb : Str → Option Value} {CX : CXT} {k : Nat} {fa a : Addr} {fd : FuncData} {x : Str} {sp : Sp} {s₁ : Shared} {vs : List Value} {ns : List Int}
    (KX : K.In s₁.heap) (hns : s₁.heap.Ns mainGlobals mg) (hb : s₁.heap.Ns builtinsNs mb) (hbb : ∀ x : Str, x ≠ "__name__" → mb x = bootBuiltins x) (hlim : s₁.heap.NoLimit) (hg : s₁.gens = #[])
    (ha : s₁.heap.get? a = some { cls := .type "list", data := .seq vs.toArray }) (hi : IntsAre vs ns) (hl : ns.length ≤ sizeLine) (hr : Room k callerA)
    (F : ∀ base : Heap, K.In base → base.Ns mainGlobals mg → FnOk P w K mg base CX k fa fd [x] sp) (hbind : ∀ (s : Shared) (u : Value), BindsTo s fd ⟨[u], []⟩ [(x, u)])
    (hsp : ∀ H : Hp, Only H → SqL K H a (ns.map V.int) → sp [.ref a] H (fun v _ => v = .bl true) fun _ _ _ => False)
    (hCX : ∀ H e s', CX [] H s₁ (fun _ _ _ => False) e s' → False) :
    codeAny (model P w) callerA (.call (.ref fa) ⟨[.ref a], []⟩) (fun r s' => r = .ok (.ret (.bool true)) ∧ OldK s₁.heap s'.heap ∧ s'.os = s₁.os ∧ AllBare s'.gens) s₁ := by
  have rv := vals_ints hi
  have lenV := hi.length
  -- from an abstract heap in which nothing but the script may be tracked
  have core : ∀ H : Hp, Only H → SqL K H a (ns.map V.int) → HOk P w H s₁.heap → (∀ b, H b ≠ none → b = a) → (H a ≠ none → K.lookup a = none) →
      codeAny (model P w) callerA (.call (.ref fa) ⟨[.ref a], []⟩) (fun r s' => r = .ok (.ret (.bool true)) ∧ OldK s₁.heap s'.heap ∧ s'.os = s₁.os ∧ AllBare s'.gens) s₁ := by
    intro H hO hS hok hA hK
    have base_of : ∀ {b : Addr} {o : Obj}, s₁.heap.get? b = some o → H b = none → (hidT s₁.heap H).get? b = some o := fun e n => hidT_get e n
    have noA : ∀ {b : Addr} {o : Obj} {es : Array DictEntry} {ep : Nat}, s₁.heap.get? b = some o → o.data = .dict es ep → H b = none := fun {b o es ep} e d => by
      cases q : H b with
      | none => rfl
      | some u =>
        have e' : b = a := hA b (by rw [q]; simp)
        subst e'
        rw [ha] at e; cases e
        have d' : Data.seq vs.toArray _ = Data.dict es ep := d
        cases d'
    have nsK : ∀ {b : Addr} {m : Str → Option Value}, s₁.heap.Ns b m → (hidT s₁.heap H).Ns b m := fun {b m} ⟨o, es, ep, e, d, r⟩ => ⟨o, es, ep, base_of e (noA e d), d, r⟩
    have hKb : K.In (hidT s₁.heap H) := fun b o e => base_of (KX b o e) (by
      cases q : H b with
      | none => rfl
      | some u =>
        have e' : b = a := hA b (by rw [q]; simp)
        subst e'
        rw [hK (by rw [q]; simp)] at e; cases e)
    have hM : Mod K mg (hidT s₁.heap H) := ⟨hKb, nsK hns, ⟨mb, nsK hb, hbb⟩, let ⟨mc, h1, h2⟩ := hlim; ⟨mc, nsK h1, h2⟩⟩
    have e0 : Env0 P w K mg (hidT s₁.heap H) callerA [] s₁ H := ⟨rfl, hM, fun b o e => of_hidT e, Nat.le_of_eq (hidT_size _ _), trivial, fun b hb => absurd (show b ∈ ([] : List Addr) from hb) (by simp), hok, .of_eq hg⟩
    refine codeAny_mono ((F _ hKb (nsK hns)).run callerA [] s₁ H ⟨[.ref a], []⟩ [.ref a] [.ref a] _ _ hr e0 (hbind s₁ (.ref a)) (.cons rfl .nil) (hsp H hO hS)) fun r s' h => ?_
    cases r with
    | error e => exact (hCX H e s' h).elim
    | ok fl =>
      cases fl with
      | next => exact False.elim h
      | brk => exact False.elim h
      | cont => exact False.elim h
      | ret u =>
        obtain ⟨v, H', os, bare, un, hok', r', q⟩ := h
        have q' : v = .bl true := q
        subst q'
        obtain rfl : u = Value.bool true := r'
        refine ⟨rfl, OldK.of_keep fun b o e => ?_, os, bare⟩
        cases q : H b with
        | none => exact un.keep b o e q (by intro z; exact absurd (show b ∈ ([] : List Addr) from z) (by simp)) (by simp)
        | some u =>
          rcases hO b with z | ⟨ob, xs, z⟩
          · rw [q] at z; cases z
          · have z2 := un.frzs b ob _ z
            obtain ⟨e1, _⟩ := hok b _ z
            obtain ⟨e2, _⟩ := hok' b _ z2
            rw [e] at e1; cases e1
            exact e2
  cases hk : K.lookup a with
  | some o =>
    -- the script is one of the module's own objects
    have e := KX a o hk
    rw [ha] at e
    cases e
    refine core (fun _ => none) (fun _ => .inl rfl) (.inr ⟨_, vs.toArray, _, hk, rfl, rfl, rfl, by rw [List.size_toArray, lenV]; exact hl, by simpa using rv⟩) (fun b u z => by have z' : (none : Option HO) = some u := z; cases z') (fun b z => absurd rfl z) fun z => absurd rfl z
  | none =>
    refine core (fun b => if b = a then some (.frz { cls := .type "list", data := .seq vs.toArray } (.lst (ns.map V.int))) else none) (fun b => ?_) (.inl (.inr ⟨{ cls := .type "list", data := .seq vs.toArray }, if_pos rfl⟩)) (fun b u z => ?_) (fun b z => ?_) fun _ => hk
    · by_cases hb : b = a
      · exact .inr ⟨_, _, if_pos hb⟩
      · exact .inl (if_neg hb)
    · by_cases hb : b = a
      · have z' := (if_pos hb).symm.trans z
        cases z'
        subst hb
        exact ⟨ha, by rw [List.length_map]; exact hl, vs, _, rv, ha⟩
      · have z' := (if_neg hb).symm.trans z
        cases z'
    · by_cases hb : b = a
      · exact hb
      · exact absurd (if_neg hb) z
end L2

namespace L2
open PySem PySem.Spec PyProof.Rows

abbrev KOf {K : PySem.W.Frag} {h : Heap} (_ : K.In h) : PySem.W.Frag := K

/-- the goal that k_head leaves (case hc), from the law's promise. F gives the function object fd (K's own) once, then the promise over every base -/
theorem walk_of {l : PySem.W.OpenLaw} {n k : Nat} {q : Program} {loose : List Str} {XP : (Str → Option Value) → Heap → Prop} {YP : World → Heap → Prop} {d : DefRec} {K : Params → PySem.W.Frag} {CX : World → CXT} {sp : World → Sp} {x : Str}
    (hn : l.most = some n) (hn2 : n ≤ sizeLine) (hdf : d.params.defaults = []) (hr : Room k callerA)
    (hY : ∀ (w : World) (h : Heap), YP w h → (K w.params).In h)
    (F : ∀ (w : World) (mg : Str → Option Value) (fa : Addr) (h : Heap), (K w.params).In h → h.Ns mainGlobals mg → mg d.name = some (.ref fa) →
      ∃ fd : FuncData, (∀ (s : Shared) (u : Value), BindsTo s fd ⟨[u], []⟩ [(x, u)]) ∧
        ∀ base : Heap, (K w.params).In base → base.Ns mainGlobals mg → FnOk l.prog w (K w.params) mg base (CX w) k fa fd [x] (sp w))
    (hsp : ∀ (w : World) (H : Hp) (a : Addr) (ns : List Int), ns.length ≤ n → Only H → SqL (K w.params) H a (ns.map V.int) → sp w [.ref a] H (fun v _ => v = .bl true) fun _ _ _ => False)
    (hCX : ∀ (w : World) (H : Hp) (s : Shared) (e : Value) (s' : Shared), CX w [] H s (fun _ _ _ => False) e s' → False) :
    PySem.W.WalkO q loose XP YP l.row.toRowW d [] (fun f vs => PySem.call f vs) := by
  refine Att.attach_call hn hdf fun w s₀ s₁ mg mb fa o pm cd doc a vs ns G Y ho hd hcd hmg hobj hints hlen hg => ?_
  have KX := hY w _ Y
  obtain ⟨fd, hb, hF⟩ := F w mg fa _ KX G.T.g hmg
  exact law_call KX G.T.g G.T.b G.T.builtins G.T.nolimit hg hobj hints (Nat.le_trans hlen hn2) hr hF hb (fun H hO hS => hsp w H a ns hlen hO hS) fun H e s' => hCX w H s₁ e s'
/-- the same where the promise hangs on the written part alone: (sp := My.sp_law), no hole under a binder -/
theorem walk_ofK {l : PySem.W.OpenLaw} {n k : Nat} {q : Program} {loose : List Str} {XP : (Str → Option Value) → Heap → Prop} {YP : World → Heap → Prop} {d : DefRec} {K : Params → PySem.W.Frag} {CX : CXT} {sp : PySem.W.Frag → Sp} {x : Str}
    (hn : l.most = some n) (hn2 : n ≤ sizeLine) (hdf : d.params.defaults = []) (hr : Room k callerA)
    (hY : ∀ (w : World) (h : Heap), YP w h → (K w.params).In h)
    (F : ∀ (w : World) (mg : Str → Option Value) (fa : Addr) (h : Heap), (K w.params).In h → h.Ns mainGlobals mg → mg d.name = some (.ref fa) →
      ∃ fd : FuncData, (∀ (s : Shared) (u : Value), BindsTo s fd ⟨[u], []⟩ [(x, u)]) ∧
        ∀ base : Heap, (K w.params).In base → base.Ns mainGlobals mg → FnOk l.prog w (K w.params) mg base CX k fa fd [x] (sp (K w.params)))
    (hsp : ∀ (K : PySem.W.Frag) (H : Hp) (a : Addr) (ns : List Int), ns.length ≤ n → Only H → SqL K H a (ns.map V.int) → sp K [.ref a] H (fun v _ => v = .bl true) fun _ _ _ => False)
    (hCX : ∀ (H : Hp) (s : Shared) (e : Value) (s' : Shared), CX [] H s (fun _ _ _ => False) e s' → False) :
    PySem.W.WalkO q loose XP YP l.row.toRowW d [] (fun f vs => PySem.call f vs) :=
  walk_of (K := K) (CX := fun _ => CX) (sp := fun w => sp (K w.params)) hn hn2 hdf hr hY F (fun w H a ns h1 h2 h3 => hsp (K w.params) H a ns h1 h2 h3) fun _ H s e s' => hCX H s e s'
end L2

/- THE LAST THEOREM (shape; LID, My.* are yours):
   My.Adr: a structure of the addresses that your layer names (classes, functions); My.Txt K t: a structure (Prop) of the equations over K;
   My.txt_mk : {K} {implicit addresses ..} (e1 : nsIn K mainGlobals "law" = some (some (.ref f))) (e2 : K.lookup f = some ⟨oc, od, .func (fnOf "law" "law" params body scope dV kV doc pm an cdv ct), sl⟩) (e3 : codeIn K cdv "law" = true) .. : ∃ t, My.Txt K t

set_option maxRecDepth 100000 in
set_option maxHeartbeats 0 in
theorem PySem.Challenge.cw_LID_holds : PySem.Challenge.rw_LID.Holds := by
  w_on; o_law; k_head; (case hw => w_witness2)
  k_fill
  refine L2.walk_of (l := PySem.Challenge.rw_LID) (n := 63) (k := 40) (x := "script") (CX := fun w => ..) (sp := fun _ => My.sp_law) rfl (by decide) rfl ⟨rfl, by decide, by decide⟩ (fun w h Y => PySem.W.kIn_of Y) ?F ?S ?C
  case F =>
    intro w mg fa h KX G hmg
    have T : ∃ t, My.Txt (L2.KOf KX) t := by
      dsimp only [L2.KOf]                          -- K must stand as «<heap const> w.params» for k_is
      refine' My.txt_mk ?e1 ?e2 ?e3 ..
      (case e1 => PySem.W.k_is)                    -- in the order: a name -> its address -> its object -> its parts
      (case e2 => PySem.W.k_is)
      ..
    obtain ⟨t, T⟩ := T
    have e0 := hmg.symm.trans (PySem.W.mg_of KX G T.law)
    cases e0                                       -- fa is the law's own address
    exact ⟨_, fun s u => .of_eq rfl, fun base kb nb => My.law_fn T kb nb⟩     -- if «.of_eq rfl» comes too early: refine' ⟨_, ?b, fun base kb nb => My.law_fn T kb nb⟩; exact fun s u => .of_eq rfl
  case S => exact fun w H a ns hl hO hS => ..
  case C => exact ..
(the tactic k_is has no namespace: write k_is) -/

/-! SHORT WORDS over the layer: a def of the text, its body, what a loop and a test want. -/
namespace L2
open PySem PySem.Spec PyProof.Rows

/-! ### the text by places -/
/-- the j-th statement of a class's body -/
def inClass (s : Stmt) (j : Nat) : Stmt := match s with
  | .ClassDef _ _ _ body _ _ _ _ _ _ _ => body.getD j (.Pass ⟨0, 0, 0, 0⟩)
  | _ => .Pass ⟨0, 0, 0, 0⟩
def defArgs (s : Stmt) : Arguments := match s with
  | .FunctionDef _ a _ _ _ _ _ _ _ _ => a
  | _ => { posonlyargs := [], args := [], vararg := none, kwonlyargs := [], kw_defaults := [], kwarg := none, defaults := [] }
def defBody (s : Stmt) : List Stmt := match s with
  | .FunctionDef _ _ b _ _ _ _ _ _ _ => b
  | _ => []
def defScope (s : Stmt) : Scope := match s with
  | .FunctionDef _ _ _ _ _ _ sc _ _ _ => sc
  | _ => { kind := .function, names := [], isGenerator := false, isCoroutine := false }

/-! ### no exception leaves a def -/
abbrev CX0 : CXT := fun _ _ _ _ _ _ => False
abbrev E0 : XK := fun _ _ _ => False
theorem pass0 {X : Cx} : Passes CX0 X E0 := fun _ _ _ _ _ _ _ h => h.elim

/-! ### a def (or method) of the text as it stands behind the top -/
structure Fun (K : PySem.W.Frag) (x qual : Str) (st : Stmt) (f : Addr) (fd : FuncData) : Prop where
  ex : ∃ (oc : Value) (od : Option Addr) (kV doc pm : Value) (an : Option Addr) (cdv ct : Value) (osl : Array (Option Value)),
    fd = PySem.W.fnOf x qual (defArgs st) (defBody st) (defScope st) .none kV doc pm an cdv ct ∧ K.lookup f = some ⟨oc, od, .func fd, osl⟩ ∧ PySem.W.codeIn K cdv qual = true
  kp : PySem.W.keepIn K (.ref f) = true
section
variable {P : Program} {w : World} {K : PySem.W.Frag} {mg : Str → Option Value} {base : Heap}
/-- THE RULE for a def: its body as a term of rules, and the reading of that term -/
theorem Fun.ok {x qual : Str} {st : Stmt} {f : Addr} {fd : FuncData} {N ps : List Str} {k : Nat} {sp : Sp} (F : Fun K x qual st f fd) (S : FnScope N ps (defScope st)) (len : ∀ vs H Q E, sp vs H Q E → vs.length = ps.length)
    (hbody : ∀ (cdv : Value) (A : Around) (outer : List Env) (s : Shared) (H : Hp) (vs : List V) (Q : VK) (E : XK), Room k (A.deeper (envOfC qual (defScope st) s.heap.objs.size f cdv)) → sp vs H Q E →
      ∃ t, PSs (cxOf CX0 P w K mg base N qual (defScope st) f cdv A outer s H E).nox (defBody st) t ∧ t { nx := fun _ H' => Q .non H', rt := Q } (start N vs) H) : FnOk P w K mg base CX0 (k + 1) f fd ps sp := by
  obtain ⟨oc, od, kV, doc, pm, an, cdv, ct, osl, rfl, lk, hcd⟩ := F.ex
  refine fn_of lk hcd S len fun A outer s H vs Q E hr hsp => ?_
  obtain ⟨t, h, q⟩ := hbody cdv A outer s H vs Q E hr hsp
  exact ⟨t, h.nox, q⟩
/-- how its arguments bind (no defaults): h is «fun _ _ _ _ _ _ us hl => match us, hl with | [_, _], _ => rfl», one _ a parameter -/
theorem Fun.binds {x qual : Str} {st : Stmt} {f : Addr} {fd : FuncData} {ps : List Str} (F : Fun K x qual st f fd)
    (h : ∀ (kV doc pm : Value) (an : Option Addr) (cdv ct : Value) (us : List Value), us.length = ps.length → bindArgs (PySem.W.fnOf x qual (defArgs st) (defBody st) (defScope st) .none kV doc pm an cdv ct) ⟨us, []⟩ = pure (ps.zip us)) : Binds K fd ps [] := by
  obtain ⟨oc, od, kV, doc, pm, an, cdv, ct, osl, rfl, lk, hcd⟩ := F.ex
  exact .all (h kV doc pm an cdv ct)
theorem fun_mk {x qual : Str} {st : Stmt} {f : Addr} {oc : Value} {od an : Option Addr} {osl : Array (Option Value)} {kV doc pm cdv ct : Value} (l : K.lookup f = some ⟨oc, od, .func (PySem.W.fnOf x qual (defArgs st) (defBody st) (defScope st) .none kV doc pm an cdv ct), osl⟩)
    (c : PySem.W.codeIn K cdv qual = true) (k : PySem.W.keepIn K (.ref f) = true) : Fun K x qual st f (PySem.W.fnOf x qual (defArgs st) (defBody st) (defScope st) .none kV doc pm an cdv ct) := ⟨⟨oc, od, kV, doc, pm, an, cdv, ct, osl, rfl, l, c⟩, k⟩
end
theorem hu_of {A : Around} {k : Nat} (hr : Room k A) : A.units + 1 < cLine := Nat.lt_of_le_of_lt (Nat.add_le_add_left (by decide : 1 ≤ 64) _) hr.units
theorem small1000 {n : Nat} (h : n ≤ 1000) : n < sizeLine := Nat.lt_of_le_of_lt h (by decide)

/-! ### expressions in short: the name that stands in the i-th slot -/
section
variable {X : Cx}
theorem pv (i : Nat) {x : Str} {pos : Pos} (hN : X.N[i]? = some x := by rfl) (hv : Vis X.env.scope x := by first | exact Or.inl rfl | exact Or.inr (Or.inl rfl) | exact Or.inr (Or.inr rfl)) (hd : (x == ("__debug__" : Str)) = false := by decide)
    (hcd : (x == ("__classdict__" : Str)) = false := by decide) : PE X (.Name x pos) (tVar i) := pe_var hN hv hd hcd
/-- len of a dict -/
theorem call_lenD : CallR X (.builtin "len") (fun xs H Q => ∃ a kvs, xs = [V.ref a] ∧ H a = some (.dK kvs) ∧ Q (.int kvs.length) H) := by
  intro pins s σ H xs us Q I r h
  obtain ⟨a, kvs, rfl, ha, q⟩ := h
  obtain ⟨u, rfl, ru⟩ := vals1 r
  cases ru
  exact d_len I (.inl ha) fun t s' I' => ⟨.int kvs.length, H, I', ⟨t, rfl⟩, q⟩
end

/-! ### tests -/
theorem iteF {A B : Prop} (h : B) : if false = true then A else B := by
  rw [if_neg Bool.false_ne_true]
  exact h
theorem iteT {A B : Prop} (h : A) : if true = true then A else B := by
  rw [if_pos rfl]
  exact h
theorem ite2 {c A B : Prop} [Decidable c] (h1 : c → A) (h2 : ¬ c → B) : if c then A else B := by
  by_cases h : c
  · rw [if_pos h]
    exact h1 h
  · rw [if_neg h]
    exact h2 h
theorem iteNS {c A B : Prop} [Decidable c] (hc : c) (h : B) : if (!decide c) = true then A else B := by
  rw [decide_eq_true hc]
  exact iteF h

/-! ### heaps -/
/-- all that was tracked is as it was -/
def Same (H H' : Hp) : Prop := ∀ b o, H b = some o → H' b = some o
theorem Same.refl (H : Hp) : Same H H := fun _ _ h => h
theorem Same.trans {H H1 H2 : Hp} (a : Same H H1) (b : Same H1 H2) : Same H H2 := fun c o h => b c o (a c o h)
theorem Same.free {H H' : Hp} (e : Same H H') {l : Addr} (h : H' l = Option.none) : H l = Option.none := by
  cases q : H l with
  | none => rfl
  | some o =>
    rw [e l o q] at h
    cases h
theorem Same.seq {K : PySem.W.Frag} {H H' : Hp} {a : Addr} {xs : List V} (e : Same H H') (h : SqL K H a xs) : SqL K H' a xs := by
  rcases h with (h | ⟨o, h⟩) | h
  · exact .inl (.inl (e _ _ h))
  · exact .inl (.inr ⟨o, e _ _ h⟩)
  · exact .inr h

/-! ### a dict's pairs: keys that differ -/
section
variable {κ : Type} [DecidableEq κ]
theorem valV_not {kvs : List (κ × V)} {k : κ} (h : valV kvs k = none) : ¬ k ∈ kvs.map (·.1) := by
  intro m
  obtain ⟨p, hp, e⟩ := List.mem_map.mp m
  have q : (kvs.any fun kv => decide (kv.1 = k)) = true := List.any_eq_true.mpr ⟨p, hp, decide_eq_true e⟩
  rw [valV_any, h] at q
  exact absurd q (by simp)
theorem valV_in {kvs : List (κ × V)} {k : κ} {v : V} (h : valV kvs k = some v) : k ∈ kvs.map (·.1) := by
  have q : (kvs.any fun kv => decide (kv.1 = k)) = true := by
    rw [valV_any, h]
    all_goals rfl
  obtain ⟨p, hp, e⟩ := List.any_eq_true.mp q
  exact List.mem_map.mpr ⟨p, hp, of_decide_eq_true e⟩
theorem nd_snoc : ∀ {l : List κ} {k : κ}, l.Nodup → ¬ k ∈ l → (l ++ [k]).Nodup
  | [], k, _, _ => by simp
  | a :: r, k, h, hk => by
    obtain ⟨h1, h2⟩ := List.nodup_cons.mp h
    show (a :: (r ++ [k])).Nodup
    refine List.nodup_cons.mpr ⟨fun m => ?_, nd_snoc h2 fun m => hk (List.mem_cons.mpr (Or.inr m))⟩
    rcases List.mem_append.mp m with q | q
    · exact h1 q
    · exact hk (List.mem_cons.mpr (Or.inl (List.mem_singleton.mp q).symm))
theorem nd_putK {kvs : List (κ × V)} {k : κ} (v : V) (hn : (kvs.map (·.1)).Nodup) (h : valV kvs k = none) : ((putK kvs k v).map (·.1)).Nodup := by
  rw [putK_new v h, List.map_append]
  exact nd_snoc hn (valV_not h)
theorem dropK_pos {p : κ × V} {r : List (κ × V)} {k : κ} (e : p.1 = k) : dropK (p :: r) k = dropK r k := by
  unfold dropK
  rw [List.filter_cons, if_neg (by simp [e])]
theorem dropK_neg {p : κ × V} {r : List (κ × V)} {k : κ} (e : ¬ p.1 = k) : dropK (p :: r) k = p :: dropK r k := by
  unfold dropK
  rw [List.filter_cons, if_pos (by simp [e])]
theorem dropK_no : ∀ {kvs : List (κ × V)} {k : κ}, ¬ k ∈ kvs.map (·.1) → dropK kvs k = kvs
  | [], _, _ => rfl
  | p :: r, k, h => by
    have h' : ¬ k ∈ r.map (·.1) := fun m => by
      obtain ⟨q, hq, e⟩ := List.mem_map.mp m
      exact h (List.mem_map.mpr ⟨q, List.mem_cons.mpr (Or.inr hq), e⟩)
    rw [dropK_neg fun e => h (List.mem_map.mpr ⟨p, List.mem_cons.mpr (Or.inl rfl), e⟩), dropK_no h']
theorem dropK_mem {kvs : List (κ × V)} {k : κ} {p : κ × V} (h : p ∈ dropK kvs k) : p ∈ kvs := (List.mem_filter.mp h).1
theorem nd_dropK : ∀ {kvs : List (κ × V)} {k : κ}, (kvs.map (·.1)).Nodup → ((dropK kvs k).map (·.1)).Nodup
  | [], _, _ => List.nodup_nil
  | p :: r, k, h => by
    have h : (p.1 :: r.map (·.1)).Nodup := h
    obtain ⟨h1, h2⟩ := List.nodup_cons.mp h
    by_cases e : p.1 = k
    · rw [dropK_pos e]
      exact nd_dropK h2
    · rw [dropK_neg e]
      show (p.1 :: (dropK r k).map (·.1)).Nodup
      refine List.nodup_cons.mpr ⟨fun m => h1 ?_, nd_dropK h2⟩
      obtain ⟨q, hq, eq⟩ := List.mem_map.mp m
      exact List.mem_map.mpr ⟨q, dropK_mem hq, eq⟩
theorem dropK_len : ∀ {kvs : List (κ × V)} {k : κ}, (kvs.map (·.1)).Nodup → k ∈ kvs.map (·.1) → (dropK kvs k).length + 1 = kvs.length
  | [], _, _, m => by simp at m
  | p :: r, k, h, m => by
    have h : (p.1 :: r.map (·.1)).Nodup := h
    have m : k = p.1 ∨ k ∈ r.map (·.1) := List.mem_cons.mp m
    obtain ⟨h1, h2⟩ := List.nodup_cons.mp h
    by_cases e : p.1 = k
    · subst e
      rw [dropK_pos rfl, dropK_no h1]
      all_goals rfl
    · have m' : k ∈ r.map (·.1) := m.resolve_left fun z => e z.symm
      have q := dropK_len h2 m'
      rw [dropK_neg e, List.length_cons, List.length_cons]
      omega
end
end L2

/-! Plain mathematics: reached places, walks and walls. -/
namespace Gra
theorem length_le_of_subset {α : Type} [DecidableEq α] : ∀ {l m : List α}, l.Nodup → (∀ x ∈ l, x ∈ m) → l.length ≤ m.length
  | [], _, _, _ => Nat.zero_le _
  | a :: l, m, h, s => by
    obtain ⟨h1, h2⟩ := List.nodup_cons.mp h
    have ha : a ∈ m := s a List.mem_cons_self
    have q := length_le_of_subset (m := m.erase a) h2 fun x hx => (List.mem_erase_of_ne (fun e : x = a => h1 (by rw [← e]; exact hx))).mpr (s x (List.mem_cons_of_mem _ hx))
    have e := List.length_erase_of_mem ha
    have : 0 < m.length := List.length_pos_of_mem ha
    rw [List.length_cons]
    omega
theorem nodup_places {l : List Int} {n : Int} (h : l.Nodup) (hr : ∀ x ∈ l, 0 ≤ x ∧ x < n) : (l.length : Int) ≤ n ∨ l = [] := by
  by_cases hn : 0 ≤ n
  · left
    have q := length_le_of_subset (m := (List.range n.toNat).map (fun (i : Nat) => (i : Int))) h fun x hx => by
      obtain ⟨h0, h1⟩ := hr x hx
      refine List.mem_map.mpr ⟨x.toNat, List.mem_range.mpr (by omega), by omega⟩
    rw [List.length_map, List.length_range] at q
    omega
  · right
    cases l with
    | nil => rfl
    | cons a l => have := hr a List.mem_cons_self; omega

abbrev Lanes := List (Int × Int)
abbrev PTree := List (Int × Option Int)
def keys (t : PTree) : List Int := t.map (·.1)
structure Reach (ls : Lanes) (start : Int) (t : PTree) : Prop where
  head : t[0]? = some (start, none)
  nd : (keys t).Nodup
  par : ∀ i k o, t[i]? = some (k, o) → 0 < i → ∃ p j o', o = some p ∧ j < i ∧ t[j]? = some (p, o') ∧ (p, k) ∈ ls
def Done (ls : Lanes) (t : PTree) (n : Nat) : Prop := ∀ i k o e, i < n → t[i]? = some (k, o) → (k, e) ∈ ls → e ∈ keys t
theorem mem_keys {t : PTree} {k : Int} : k ∈ keys t ↔ ∃ (i : Nat) (o : Option Int), t[i]? = some (k, o) := by
  constructor
  · intro h
    obtain ⟨p, hp, e⟩ := List.mem_map.mp h
    obtain ⟨i, hi⟩ := List.mem_iff_getElem?.mp hp
    exact ⟨i, p.2, by rw [hi, ← e]⟩
  · rintro ⟨i, o, h⟩
    exact List.mem_map.mpr ⟨(k, o), List.mem_of_getElem? h, rfl⟩
theorem keys_append (t u : PTree) : keys (t ++ u) = keys t ++ keys u := List.map_append
theorem reach_start (ls : Lanes) (start : Int) : Reach ls start [(start, none)] := by
  refine ⟨rfl, by simp [keys], fun i k o h hi => ?_⟩
  cases i with
  | zero => omega
  | succ i => simp at h
theorem Reach.push {ls : Lanes} {start : Int} {t : PTree} (r : Reach ls start t) {e p : Int} (he : e ∉ keys t) (hp : p ∈ keys t) (hl : (p, e) ∈ ls) : Reach ls start (t ++ [(e, some p)]) := by
  have h0 : 0 < t.length := (List.getElem?_eq_some_iff.mp r.head).1
  refine ⟨?_, ?_, fun i k o h hi => ?_⟩
  · rw [List.getElem?_append_left h0]; exact r.head
  · rw [keys_append]
    refine List.nodup_append.mpr ⟨r.nd, by simp [keys], fun a ha b hb => ?_⟩
    have hb' : b = e := by simpa [keys] using hb
    rw [hb']
    exact fun z => he (z ▸ ha)
  · rcases Nat.lt_trichotomy i t.length with c | c | c
    · rw [List.getElem?_append_left c] at h
      obtain ⟨p', j, o', e1, e2, e3, e4⟩ := r.par i k o h hi
      exact ⟨p', j, o', e1, e2, by rw [List.getElem?_append_left (by omega)]; exact e3, e4⟩
    · subst c
      rw [List.getElem?_append_right (Nat.le_refl _)] at h
      simp at h
      obtain ⟨rfl, rfl⟩ := h
      obtain ⟨j, o', hj⟩ := mem_keys.mp hp
      have hlt : j < t.length := (List.getElem?_eq_some_iff.mp hj).1
      exact ⟨p, j, o', rfl, hlt, by rw [List.getElem?_append_left hlt]; exact hj, hl⟩
    · rw [List.getElem?_eq_none (by rw [List.length_append, List.length_singleton]; omega)] at h
      cases h
theorem Done.mono {ls : Lanes} {t u : PTree} {n : Nat} (d : Done ls t n) (hn : n ≤ t.length) : Done ls (t ++ u) n := fun i k o e hi h hl => by
  rw [List.getElem?_append_left (by omega)] at h
  rw [keys_append]
  exact List.mem_append_left _ (d i k o e hi h hl)
theorem Done.succ {ls : Lanes} {t : PTree} {n : Nat} (d : Done ls t n) {k : Int} (hk : (keys t)[n]? = some k) (h : ∀ e, (k, e) ∈ ls → e ∈ keys t) : Done ls t (n + 1) := fun i k' o e hi hk' hl => by
  rcases Nat.lt_or_ge i n with c | c
  · exact d i k' o e c hk' hl
  · have : i = n := by omega
    subst this
    have e1 : (keys t)[i]? = some k' := by unfold keys; rw [List.getElem?_map, hk']; rfl
    rw [hk] at e1
    cases e1
    exact h e hl
theorem Done.closed {ls : Lanes} {t : PTree} (d : Done ls t t.length) {a b : Int} (h : (a, b) ∈ ls) (ha : a ∈ keys t) : b ∈ keys t := by
  obtain ⟨i, o, hi⟩ := mem_keys.mp ha
  exact d i a o b (List.getElem?_eq_some_iff.mp hi).1 hi h
theorem Reach.in_range {ls : Lanes} {start : Int} {t : PTree} {n : Int} (r : Reach ls start t) (hs : 0 ≤ start ∧ start < n) (hl : ∀ p ∈ ls, (0 ≤ p.1 ∧ p.1 < n) ∧ (0 ≤ p.2 ∧ p.2 < n)) : ∀ k ∈ keys t, 0 ≤ k ∧ k < n := fun k hk => by
  obtain ⟨i, o, hi⟩ := mem_keys.mp hk
  by_cases c : i = 0
  · subst c
    rw [r.head] at hi
    cases hi
    exact hs
  · obtain ⟨p, j, o', _, _, _, h⟩ := r.par i k o hi (by omega)
    exact (hl _ h).2
theorem Reach.len_le {ls : Lanes} {start : Int} {t : PTree} {n : Int} (r : Reach ls start t) (hs : 0 ≤ start ∧ start < n) (hl : ∀ p ∈ ls, (0 ≤ p.1 ∧ p.1 < n) ∧ (0 ≤ p.2 ∧ p.2 < n)) : (t.length : Int) ≤ n := by
  have q := nodup_places r.nd (r.in_range hs hl)
  have e : (keys t).length = t.length := List.length_map _
  rcases q with q | q
  · omega
  · rw [q] at e; simp at e; omega
theorem Reach.start_mem {ls : Lanes} {start : Int} {t : PTree} (r : Reach ls start t) : start ∈ keys t := mem_keys.mpr ⟨0, none, r.head⟩
/-- the parent as the dict tells it -/
def look (t : PTree) (k : Int) : Option (Option Int) := (t.find? fun p => decide (p.1 = k)).map (·.2)
theorem look_at {t : PTree} (nd : (keys t).Nodup) {i : Nat} {k : Int} {o : Option Int} (h : t[i]? = some (k, o)) : look t k = some o := by
  induction t generalizing i with
  | nil => simp at h
  | cons p r ih =>
    obtain ⟨n1, n2⟩ := List.nodup_cons.mp (show (p.1 :: keys r).Nodup from nd)
    unfold look
    rw [List.find?_cons]
    by_cases c : p.1 = k
    · rw [decide_eq_true c]
      cases i with
      | zero => simp at h; subst h; rfl
      | succ i =>
        rw [List.getElem?_cons_succ] at h
        exact absurd (mem_keys.mpr ⟨i, o, h⟩) (c ▸ n1)
    · rw [decide_eq_false c]
      cases i with
      | zero => simp at h; subst h; exact absurd rfl c
      | succ i =>
        rw [List.getElem?_cons_succ] at h
        exact ih n2 h
theorem look_none {t : PTree} {k : Int} (h : k ∉ keys t) : look t k = none := by
  unfold look
  rw [Option.map_eq_none_iff, List.find?_eq_none]
  intro p hp c
  exact h (List.mem_map.mpr ⟨p, hp, of_decide_eq_true c⟩)
theorem look_mem {t : PTree} {k : Int} : (look t k).isSome = decide (k ∈ keys t) := by
  by_cases h : k ∈ keys t
  · rw [decide_eq_true h]
    obtain ⟨p, hp, e⟩ := List.mem_map.mp h
    unfold look
    rw [Option.isSome_map, List.find?_isSome]
    exact ⟨p, hp, decide_eq_true e⟩
  · rw [decide_eq_false h, look_none h]; rfl

def Steps (ls : Lanes) : List Int → Prop
  | a :: b :: r => (a, b) ∈ ls ∧ Steps ls (b :: r)
  | _ => True
theorem Steps.at {ls : Lanes} : ∀ {r : List Int} {k : Nat} {a b : Int}, Steps ls r → r[k]? = some a → r[k + 1]? = some b → (a, b) ∈ ls
  | [], _, _, _, _, h, _ => by simp at h
  | [x], k, a, b, _, h, h2 => by simp at h2
  | x :: y :: r, 0, a, b, s, h, h2 => by simp at h h2; subst h h2; exact s.1
  | x :: y :: r, k + 1, a, b, s, h, h2 => Steps.at (k := k) s.2 (by simpa using h) (by simpa using h2)
/-- the row so far, turned about: from the place at i on -/
structure Back (ls : Lanes) (t : PTree) (place : Int) (r : List Int) (i : Nat) : Prop where
  ix : ∃ c o, t[i]? = some (c, o) ∧ r.head? = some c
  ge : ∀ x ∈ r, ∃ j o, i ≤ j ∧ t[j]? = some (x, o)
  nd : r.Nodup
  ch : Steps ls r
  la : r.getLast? = some place
theorem back_start {ls : Lanes} {t : PTree} {place : Int} {i : Nat} {o : Option Int} (h : t[i]? = some (place, o)) : Back ls t place [place] i :=
  ⟨⟨place, o, h, rfl⟩, fun x hx => ⟨i, o, Nat.le_refl _, by rw [List.mem_singleton.mp hx]; exact h⟩, by simp, True.intro, rfl⟩
theorem ix_inj {t : PTree} (nd : (keys t).Nodup) {i j : Nat} {k : Int} {o o' : Option Int} (h : t[i]? = some (k, o)) (h' : t[j]? = some (k, o')) : i = j := by
  have hi : (keys t)[i]? = some k := by unfold keys; rw [List.getElem?_map, h]; rfl
  have hj : (keys t)[j]? = some k := by unfold keys; rw [List.getElem?_map, h']; rfl
  obtain ⟨h1, e1⟩ := List.getElem?_eq_some_iff.mp hi
  obtain ⟨h2, e2⟩ := List.getElem?_eq_some_iff.mp hj
  exact (List.getElem_inj nd).mp (e1.trans e2.symm)
theorem Back.more {ls : Lanes} {start : Int} {t : PTree} {place : Int} {r : List Int} {i : Nat} (R : Reach ls start t) (b : Back ls t place r i) {c p : Int} (hc : r.head? = some c) (hp : look t c = some (some p)) : ∃ j, j < i ∧ Back ls t place (p :: r) j := by
  obtain ⟨c', o, hi, hc'⟩ := b.ix
  rw [hc] at hc'
  have ec : c = c' := Option.some.inj hc'
  subst ec
  have eo := look_at R.nd hi
  rw [hp] at eo
  have e1 : o = some p := (Option.some.inj eo).symm
  subst e1
  have i0 : 0 < i := by
    rcases Nat.eq_zero_or_pos i with z | z
    · subst z
      rw [R.head] at hi
      have := congrArg (fun x => x.map (·.2)) hi
      simp at this
    · exact z
  obtain ⟨p', j, o', e2, hj, hp', hl⟩ := R.par i c (some p) hi i0
  cases e2
  refine ⟨j, hj, ⟨⟨p, o', hp', rfl⟩, fun x hx => ?_, ?_, ?_, ?_⟩⟩
  · rcases List.mem_cons.mp hx with e | e
    · exact ⟨j, o', Nat.le_refl _, by rw [e]; exact hp'⟩
    · obtain ⟨j', o2, h1, h2⟩ := b.ge x e
      exact ⟨j', o2, by omega, h2⟩
  · refine List.nodup_cons.mpr ⟨fun m => ?_, b.nd⟩
    obtain ⟨j', o2, h1, h2⟩ := b.ge p m
    have := ix_inj R.nd hp' h2
    omega
  · cases r with
    | nil => cases hc
    | cons x r =>
      have ex : x = c := Option.some.inj hc
      subst ex
      exact ⟨hl, b.ch⟩
  · cases r with
    | nil => cases hc
    | cons x r => rw [List.getLast?_cons_cons]; exact b.la
theorem Back.stop {ls : Lanes} {start : Int} {t : PTree} {place : Int} {r : List Int} {i : Nat} (R : Reach ls start t) (b : Back ls t place r i) {c : Int} (hc : r.head? = some c) (hp : look t c = some none) : c = start := by
  obtain ⟨c', o, hi, hc'⟩ := b.ix
  rw [hc] at hc'
  have ec : c = c' := Option.some.inj hc'
  subst ec
  have eo := look_at R.nd hi
  rw [hp] at eo
  have e1 : o = none := (Option.some.inj eo).symm
  subst e1
  rcases Nat.eq_zero_or_pos i with z | z
  · subst z
    rw [R.head] at hi
    exact (congrArg Prod.fst (Option.some.inj hi)).symm
  · obtain ⟨_, _, _, e2, _⟩ := R.par i c none hi z
    cases e2

structure WalkOk (ls : Lanes) (r : List Int) (one other : Int) : Prop where
  head : r.head? = some one
  last : r.getLast? = some other
  nd : r.Nodup
  steps : Steps ls r
structure WallOk (n : Int) (ls : Lanes) (r : List Int) (one other : Int) : Prop where
  up : r.Pairwise (· < ·)
  rg : ∀ x ∈ r, 0 ≤ x ∧ x < n
  one_in : one ∈ r
  other_out : other ∉ r
  shut : ∀ p ∈ ls, p.1 ∈ r → p.2 ∈ r
theorem Back.walk {ls : Lanes} {start : Int} {t : PTree} {place : Int} {r : List Int} {i : Nat} (R : Reach ls start t) (b : Back ls t place r i) {c : Int} (hc : r.head? = some c) (hp : look t c = some none) : WalkOk ls r start place :=
  ⟨by rw [← b.stop R hc hp]; exact hc, b.la, b.nd, b.ch⟩
theorem strict_of {l : List Int} (h : l.Pairwise (· ≤ ·)) (nd : l.Nodup) : l.Pairwise (· < ·) := by
  have q := h.and nd
  exact q.imp fun {a b} ⟨h1, h2⟩ => by
    have : a ≠ b := h2
    omega
theorem wall_of {n : Int} {ls : Lanes} {start other : Int} {t : PTree} {r : List Int} (R : Reach ls start t) (D : Done ls t t.length) (hs : 0 ≤ start ∧ start < n) (hl : ∀ p ∈ ls, (0 ≤ p.1 ∧ p.1 < n) ∧ (0 ≤ p.2 ∧ p.2 < n)) (hr : r.Perm (keys t)) (hp : r.Pairwise (· ≤ ·))
    (ho : other ∉ keys t) : WallOk n ls r start other := by
  have nd : r.Nodup := hr.nodup_iff.mpr R.nd
  refine ⟨strict_of hp nd, fun x hx => R.in_range hs hl x (hr.mem_iff.mp hx), hr.mem_iff.mpr R.start_mem, fun h => ho (hr.mem_iff.mp h), fun p hp h => ?_⟩
  exact hr.mem_iff.mpr (D.closed (a := p.1) (b := p.2) hp (hr.mem_iff.mp h))
/-- what is reached from s -/
inductive Rch (ps : Lanes) (s : Int) : Int → Prop
  | here : Rch ps s s
  | step {a b : Int} : Rch ps s a → (a, b) ∈ ps → Rch ps s b
structure RSet (ps : Lanes) (s : Int) (ks : List Int) : Prop where
  nd : ks.Nodup
  st : s ∈ ks
  ok : ∀ k ∈ ks, Rch ps s k
  cl : ∀ a b, (a, b) ∈ ps → a ∈ ks → b ∈ ks
theorem RSet.all {ps : Lanes} {s : Int} {ks : List Int} (R : RSet ps s ks) {k : Int} (h : Rch ps s k) : k ∈ ks := by
  induction h with
  | here => exact R.st
  | step _ hl ih => exact R.cl _ _ hl ih
end Gra
/-! Plain mathematics: what every walk must pass. -/
namespace Gra
/-- reached from s by a walk that does not pass d -/
inductive Av (ps : Lanes) (s d : Int) : Int → Prop
  | here : s ≠ d → Av ps s d s
  | step {a b : Int} : Av ps s d a → (a, b) ∈ ps → b ≠ d → Av ps s d b
theorem Av.rch {ps : Lanes} {s d x : Int} (h : Av ps s d x) : Rch ps s x := by
  induction h with
  | here _ => exact .here
  | step _ hl _ ih => exact .step ih hl
theorem Av.ne {ps : Lanes} {s d x : Int} (h : Av ps s d x) : x ≠ d := by
  cases h with
  | here h => exact h
  | step _ _ h => exact h
theorem Av.start_ne {ps : Lanes} {s d x : Int} (h : Av ps s d x) : s ≠ d := by
  induction h with
  | here h => exact h
  | step _ _ _ ih => exact ih
/-- the lanes that do not touch d -/
def wol (ps : Lanes) (d : Int) : Lanes := ps.filter fun p => !(decide (d ∈ [p.1, p.2]))
theorem mem_wo {ps : Lanes} {d a b : Int} : (a, b) ∈ wol ps d ↔ (a, b) ∈ ps ∧ a ≠ d ∧ b ≠ d := by
  unfold wol
  rw [List.mem_filter]
  simp only [Bool.not_eq_true', decide_eq_false_iff_not, List.mem_cons, List.not_mem_nil, or_false, not_or]
  exact ⟨fun ⟨h1, h2, h3⟩ => ⟨h1, Ne.symm h2, Ne.symm h3⟩, fun ⟨h1, h2, h3⟩ => ⟨h1, Ne.symm h2, Ne.symm h3⟩⟩
theorem rch_wo {ps : Lanes} {s d x : Int} (hs : s ≠ d) : Rch (wol ps d) s x ↔ Av ps s d x := by
  constructor
  · intro h
    induction h with
    | here => exact .here hs
    | step _ hl ih => exact .step ih (mem_wo.mp hl).1 (mem_wo.mp hl).2.2
  · intro h
    induction h with
    | here _ => exact .here
    | step h hl hb ih => exact .step ih (mem_wo.mpr ⟨hl, h.ne, hb⟩)
def Must (ps : Lanes) (s d x : Int) : Prop := Rch ps s x ∧ ¬ Av ps s d x
theorem Must.start {ps : Lanes} {s x : Int} (h : Rch ps s x) : Must ps s s x := ⟨h, fun a => a.start_ne rfl⟩
theorem Must.self {ps : Lanes} {s x : Int} (h : Rch ps s x) : Must ps s x x := ⟨h, fun a => a.ne rfl⟩
theorem rch_or {ps : Lanes} {s d x : Int} (h : Rch ps s x) : Av ps s d x ∨ Rch ps s d := by
  induction h with
  | here =>
    by_cases c : s = d
    · right; rw [← c]; exact .here
    · exact .inl (.here c)
  | @step a b h hl ih =>
    rcases ih with i | i
    · by_cases c : b = d
      · right; rw [← c]; exact .step h hl
      · exact .inl (.step i hl c)
    · exact .inr i
theorem Must.rch {ps : Lanes} {s d x : Int} (h : Must ps s d x) : Rch ps s d := (rch_or h.1).resolve_left h.2
theorem av_or {ps : Lanes} {s d e x : Int} (h : Av ps s d x) : Av ps s e x ∨ Av ps s d e := by
  induction h with
  | here h =>
    by_cases c : s = e
    · right; rw [← c]; exact .here h
    · exact .inl (.here c)
  | @step a b h hl hb ih =>
    rcases ih with i | i
    · by_cases c : b = e
      · right; rw [← c]; exact .step h hl hb
      · exact .inl (.step i hl c)
    · exact .inr i
theorem Must.trans {ps : Lanes} {s d e x : Int} (h : Must ps s d e) (h' : Must ps s e x) : Must ps s d x :=
  ⟨h'.1, fun a => (av_or (e := e) a).elim h'.2 h.2⟩
theorem Must.antisymm {ps : Lanes} {s d e : Int} (h : Must ps s d e) (h' : Must ps s e d) : d = e := by
  by_cases ne : d = e
  · exact ne
  exfalso
  have key : ∀ x, Rch ps s x → (Av ps s d x ∧ Av ps s e x) ∨ Av ps s e d ∨ Av ps s d e := by
    intro x hx
    induction hx with
    | here =>
      by_cases c : s = d
      · right; left; rw [← c]; exact .here fun z => ne (c.symm.trans z)
      · by_cases c' : s = e
        · right; right; rw [← c']; exact .here c
        · exact .inl ⟨.here c, .here c'⟩
    | @step a b _ hl ih =>
      rcases ih with ⟨i, j⟩ | i
      · by_cases c : b = d
        · right; left; rw [← c]; exact .step j hl fun z => ne (c.symm.trans z)
        · by_cases c' : b = e
          · right; right; rw [← c']; exact .step i hl c
          · exact .inl ⟨.step i hl c, .step j hl c'⟩
      · exact .inr i
  rcases key d h'.1 with ⟨a, _⟩ | a | a
  · exact a.ne rfl
  · exact h'.2 a
  · exact h.2 a
theorem Must.total {ps : Lanes} {s d e x : Int} (h : Must ps s d x) (h' : Must ps s e x) : Must ps s d e ∨ Must ps s e d := by
  by_cases ne : d = e
  · left; rw [← ne]; exact Must.self h.rch
  by_cases c1 : Av ps s d e
  · by_cases c2 : Av ps s e d
    · exfalso
      have key : ∀ y, Rch ps s y → Av ps s d y ∨ Av ps s e y := by
        intro y hy
        induction hy with
        | here =>
          by_cases c : s = d
          · exact .inr (.here fun z => ne (c.symm.trans z))
          · exact .inl (.here c)
        | @step a b _ hl ih =>
          rcases ih with i | i
          · by_cases c : b = d
            · rw [c]; exact .inr c2
            · exact .inl (.step i hl c)
          · by_cases c : b = e
            · rw [c]; exact .inl c1
            · exact .inr (.step i hl c)
      exact (key x h.1).elim h.2 h'.2
    · exact .inr ⟨h.rch, c2⟩
  · exact .inl ⟨h'.rch, c1⟩
/-- the musts of x among ks, each must -/
structure Musts (ps : Lanes) (s x : Int) (ms : List Int) : Prop where
  nd : ms.Nodup
  mem : ∀ d, d ∈ ms ↔ Must ps s d x
theorem Musts.lt {ps : Lanes} {s d e : Int} {ms ns : List Int} (hm : Musts ps s d ms) (hn : Musts ps s e ns) (h : Must ps s d e) (ne : d ≠ e) : ms.length < ns.length := by
  have he : e ∉ ms := fun m => ne (Must.antisymm h ((hm.mem e).mp m))
  have q := length_le_of_subset (l := e :: ms) (m := ns) (List.nodup_cons.mpr ⟨he, hm.nd⟩) fun x hx => by
    rcases List.mem_cons.mp hx with c | c
    · rw [c]; exact (hn.mem e).mpr (Must.self h.1)
    · exact (hn.mem x).mpr (((hm.mem x).mp c).trans h)
  rw [List.length_cons] at q
  omega
/-- the musts of x, from the start on -/
structure MustRow (ps : Lanes) (s x : Int) (row : List Int) : Prop where
  nd : row.Nodup
  mem : ∀ d, d ∈ row ↔ Must ps s d x
  up : row.Pairwise (Must ps s)
theorem chain_unique {R : Int → Int → Prop} (anti : ∀ a b, R a b → R b a → a = b) : ∀ {l m : List Int}, l.Nodup → m.Nodup → (∀ x, x ∈ l ↔ x ∈ m) → l.Pairwise R → m.Pairwise R → l = m
  | [], [], _, _, _, _, _ => rfl
  | [], b :: m, _, _, h, _, _ => by have := (h b).mpr List.mem_cons_self; cases this
  | a :: l, [], _, _, h, _, _ => by have := (h a).mp List.mem_cons_self; cases this
  | a :: l, b :: m, n1, n2, h, p1, p2 => by
    obtain ⟨x1, x2⟩ := List.nodup_cons.mp n1
    obtain ⟨y1, y2⟩ := List.nodup_cons.mp n2
    obtain ⟨q1, q2⟩ := List.pairwise_cons.mp p1
    obtain ⟨r1, r2⟩ := List.pairwise_cons.mp p2
    have e : a = b := by
      rcases List.mem_cons.mp ((h a).mp List.mem_cons_self) with c | c
      · exact c
      rcases List.mem_cons.mp ((h b).mpr List.mem_cons_self) with c' | c'
      · exact c'.symm
      exact anti a b (q1 b c') (r1 a c)
    subst e
    refine congrArg (a :: ·) (chain_unique anti x2 y2 (fun x => ?_) q2 r2)
    constructor
    · intro hx
      rcases List.mem_cons.mp ((h x).mp (List.mem_cons_of_mem _ hx)) with c | c
      · exact absurd (c ▸ hx) x1
      · exact c
    · intro hx
      rcases List.mem_cons.mp ((h x).mpr (List.mem_cons_of_mem _ hx)) with c | c
      · exact absurd (c ▸ hx) y1
      · exact c
theorem MustRow.unique {ps : Lanes} {s x : Int} {r1 r2 : List Int} (h1 : MustRow ps s x r1) (h2 : MustRow ps s x r2) : r1 = r2 :=
  chain_unique (fun _ _ => Must.antisymm) h1.nd h2.nd (fun d => (h1.mem d).trans (h2.mem d).symm) h1.up h2.up
theorem zip_snd : ∀ {ks ns : List Int}, ks.length = ns.length → (ks.zip ns).map (·.2) = ns
  | [], [], _ => rfl
  | k :: ks, n :: ns, h => by
    rw [List.zip_cons_cons, List.map_cons, zip_snd (by simpa using h)]
theorem mustRow_of {ps : Lanes} {s x : Int} {ks ns : List Int} {zs : List (Int × Int)} (hm : Musts ps s x ns) (hl : ks.length = ns.length) (hk : ∀ (i : Nat) (n k : Int), ns[i]? = some n → ks[i]? = some k → ∃ ms, Musts ps s n ms ∧ k = ((ms.length : Nat) : Int))
    (hp : zs.Perm (ks.zip ns)) (ho : zs.Pairwise fun a b => a.1 ≤ b.1) : MustRow ps s x (zs.map (·.2)) := by
  have pm : (zs.map (·.2)).Perm ns := by
    have := hp.map (·.2)
    rwa [zip_snd hl] at this
  have key : ∀ p ∈ zs, ∃ ms, Musts ps s p.2 ms ∧ p.1 = ((ms.length : Nat) : Int) := fun p hp' => by
    have := hp.mem_iff.mp hp'
    obtain ⟨i, hi⟩ := List.mem_iff_getElem?.mp this
    obtain ⟨e1, e2⟩ := List.getElem?_zip_eq_some.mp hi
    exact hk i p.2 p.1 e2 e1
  have nd : (zs.map (·.2)).Nodup := pm.nodup_iff.mpr hm.nd
  refine ⟨nd, fun d => (pm.mem_iff).trans (hm.mem d), ?_⟩
  rw [List.pairwise_map]
  have nd' : zs.Pairwise fun a b => a.2 ≠ b.2 := List.pairwise_map.mp nd
  refine (List.Pairwise.and_mem.mp (ho.and nd')).imp fun {a b} ⟨ha, hb, h1, h2⟩ => ?_
  have ma := (hm.mem a.2).mp (pm.mem_iff.mp (List.mem_map_of_mem ha))
  have mb := (hm.mem b.2).mp (pm.mem_iff.mp (List.mem_map_of_mem hb))
  rcases ma.total mb with c | c
  · exact c
  · exfalso
    obtain ⟨m1, k1, e1⟩ := key a ha
    obtain ⟨m2, k2, e2⟩ := key b hb
    have := Musts.lt k2 k1 c (Ne.symm h2)
    omega
end Gra
/-! Plain mathematics: ties both ways, bridges, groups. -/
namespace Gra
theorem rch_trans {ps : Lanes} {a b c : Int} (h : Rch ps a b) (h' : Rch ps b c) : Rch ps a c := by
  induction h' with
  | here => exact h
  | step _ hl ih => exact .step ih hl
theorem rch_mono {ps qs : Lanes} (h : ∀ p ∈ ps, p ∈ qs) {a b : Int} (r : Rch ps a b) : Rch qs a b := by
  induction r with
  | here => exact .here
  | step _ hl ih => exact .step ih (h _ hl)
theorem rch_one {ps : Lanes} {a b : Int} (h : (a, b) ∈ ps) : Rch ps a b := .step .here h
theorem steps_rch {ps : Lanes} : ∀ {r : List Int} {a b : Int}, Steps ps r → r.head? = some a → r.getLast? = some b → Rch ps a b
  | [], _, _, _, h, _ => by cases h
  | [x], a, b, _, h, h2 => by
    have e1 : x = a := by simpa using h
    have e2 : x = b := by simpa using h2
    rw [← e1, ← e2]; exact .here
  | x :: y :: r, a, b, s, h, h2 => by
    have e1 : x = a := by simpa using h
    rw [← e1]
    exact rch_trans (rch_one s.1) (steps_rch (r := y :: r) s.2 rfl (by rw [List.getLast?_cons_cons] at h2; exact h2))
theorem walk_rch {ps : Lanes} {r : List Int} {a b : Int} (W : WalkOk ps r a b) : Rch ps a b := steps_rch W.steps W.head W.last
theorem wall_not {n : Int} {ps : Lanes} {r : List Int} {a b : Int} (W : WallOk n ps r a b) : ¬ Rch ps a b := fun h => by
  have : ∀ x, Rch ps a x → x ∈ r := fun x hx => by
    induction hx with
    | here => exact W.one_in
    | step _ hl ih => exact W.shut _ hl ih
  exact W.other_out (this b h)
/-! ### both ways -/
def swap (p : Int × Int) : Int × Int := (p.2, p.1)
def bw (ps : Lanes) : Lanes := ps ++ ps.map swap
theorem mem_bw {ps : Lanes} {a b : Int} : (a, b) ∈ bw ps ↔ (a, b) ∈ ps ∨ (b, a) ∈ ps := by
  unfold bw
  rw [List.mem_append, List.mem_map]
  constructor
  · rintro (h | ⟨q, hq, e⟩)
    · exact .inl h
    · have : q = (b, a) := by
        cases q
        simp only [swap, Prod.mk.injEq] at e
        rw [e.1, e.2]
      exact .inr (this ▸ hq)
  · rintro (h | h)
    · exact .inl h
    · exact .inr ⟨_, h, rfl⟩
theorem bw_sym {ps : Lanes} {a b : Int} (h : (a, b) ∈ bw ps) : (b, a) ∈ bw ps := mem_bw.mpr (mem_bw.mp h).symm
theorem rch_sym {ps : Lanes} {a b : Int} (h : Rch (bw ps) a b) : Rch (bw ps) b a := by
  induction h with
  | here => exact .here
  | step _ hl ih => exact rch_trans (rch_one (bw_sym hl)) ih
theorem bw_mono {ps qs : Lanes} (h : ∀ p ∈ ps, p ∈ qs) : ∀ p ∈ bw ps, p ∈ bw qs := fun p hp => by
  obtain ⟨a, b⟩ := p
  exact mem_bw.mpr ((mem_bw.mp hp).imp (h _) (h _))
/-- the ties without the k-th -/
def wok (ps : Lanes) (k : Nat) : Lanes := ps.take k ++ ps.drop (k + 1)
theorem wok_sub {ps : Lanes} {k : Nat} : ∀ p ∈ wok ps k, p ∈ ps := fun p hp => by
  rcases List.mem_append.mp hp with h | h
  · exact List.mem_of_mem_take h
  · exact List.mem_of_mem_drop h
theorem wok_len {ps : Lanes} {k : Nat} : (wok ps k).length ≤ ps.length := by
  unfold wok
  rw [List.length_append, List.length_take, List.length_drop]
  omega
theorem take_wok {ps : Lanes} {k : Nat} : ∀ p ∈ ps.take k, p ∈ wok ps k := fun _ h => List.mem_append_left _ h
/-- groups: those in the same one are joined -/
def Grp (qs : Lanes) (G : List Int) : Prop := ∀ (i j : Nat) (x : Int), G[i]? = some x → G[j]? = some x → Rch (bw qs) (i : Int) (j : Int)
theorem grp_start (n : Nat) (qs : Lanes) : Grp qs ((List.range n).map fun k => ((k : Nat) : Int)) := fun i j x hi hj => by
  rw [List.getElem?_map] at hi hj
  have f : ∀ {i : Nat}, ((List.range n)[i]?).map (fun k => ((k : Nat) : Int)) = some x → (i : Int) = x := fun {i} h => by
    by_cases c : i < n
    · rw [List.getElem?_range c] at h
      exact Option.some.inj h
    · rw [List.getElem?_eq_none (by rw [List.length_range]; omega)] at h
      cases h
  rw [f hi, f hj]
  exact .here
theorem grp_same {qs : Lanes} {G : List Int} (g : Grp qs G) (p : Int × Int) : Grp (qs ++ [p]) G := fun i j x hi hj =>
  rch_mono (bw_mono fun _ h => List.mem_append_left _ h) (g i j x hi hj)
theorem grp_join {qs : Lanes} {G : List Int} (g : Grp qs G) {a b : Nat} {kp mg : Int} (ha : G[a]? = some kp) (hb : G[b]? = some mg) : Grp (qs ++ [((a : Int), (b : Int))]) (G.map fun x => if x = mg then kp else x) := fun i j y hi hj => by
  have up : ∀ {i j : Nat} {x : Int}, G[i]? = some x → G[j]? = some x → Rch (bw (qs ++ [((a : Int), (b : Int))])) (i : Int) (j : Int) := fun {i j x} h1 h2 => grp_same g _ i j x h1 h2
  have tie : Rch (bw (qs ++ [((a : Int), (b : Int))])) (a : Int) (b : Int) := rch_one (mem_bw.mpr (.inl (List.mem_append_right _ List.mem_cons_self)))
  rw [List.getElem?_map] at hi hj
  cases ei : G[i]? with
  | none => rw [ei] at hi; cases hi
  | some u =>
    cases ej : G[j]? with
    | none => rw [ej] at hj; cases hj
    | some v =>
      rw [ei] at hi
      rw [ej] at hj
      have hi' : (if u = mg then kp else u) = y := Option.some.inj hi
      have hj' : (if v = mg then kp else v) = y := Option.some.inj hj
      by_cases cu : u = mg
      · rw [if_pos cu] at hi'
        subst cu
        by_cases cv : v = u
        · subst cv; exact up ei ej
        · rw [if_neg cv] at hj'
          rw [← hi'] at hj'
          subst hj'
          -- i ~ b ~ a ~ j
          exact rch_trans (up ei hb) (rch_trans (rch_sym tie) (up ha ej))
      · rw [if_neg cu] at hi'
        by_cases cv : v = mg
        · rw [if_pos cv] at hj'
          subst cv
          rw [← hj'] at hi'
          subst hi'
          exact rch_trans (up ei ha) (rch_trans tie (up hb ej))
        · rw [if_neg cv] at hj'
          rw [← hj'] at hi'
          subst hi'
          exact up ei ej
/-- a tie whose ends are in one group of the ties ahead is no bridge -/
theorem grp_ring {ps : Lanes} {k : Nat} {G : List Int} (g : Grp (ps.take k) G) {a b : Nat} {x : Int} (ha : G[a]? = some x) (hb : G[b]? = some x) : Rch (bw (wok ps k)) (a : Int) (b : Int) :=
  rch_mono (bw_mono take_wok) (g a b x ha hb)
open Classical in
/-- the tie k is a bridge -/
noncomputable def isBr (ps : Lanes) (k : Nat) : Bool := match ps[k]? with
  | some p => !decide (Rch (bw (wok ps k)) p.1 p.2)
  | none => false
theorem isBr_true {ps : Lanes} {k : Nat} {p : Int × Int} (h : ps[k]? = some p) (c : ¬ Rch (bw (wok ps k)) p.1 p.2) : isBr ps k = true := by
  unfold isBr; rw [h]; simp [c]
theorem isBr_false {ps : Lanes} {k : Nat} {p : Int × Int} (h : ps[k]? = some p) (c : Rch (bw (wok ps k)) p.1 p.2) : isBr ps k = false := by
  unfold isBr; rw [h]; simp [c]
theorem filter_filter_of {f g : Nat → Bool} {l : List Nat} (h : ∀ k ∈ l, g k = true → f k = true) : (l.filter f).filter g = l.filter g := by
  rw [List.filter_filter]
  refine List.filter_congr fun k hk => ?_
  cases e : g k with
  | false => rfl
  | true => rw [h k hk e]; rfl
/-! ### leaving a place out, both ways -/
theorem bw_wo_gen {f : Int × Int → Bool} (h : ∀ p, f (swap p) = f p) (ps : Lanes) : (bw ps).filter f = bw (ps.filter f) := by
  unfold bw
  rw [List.filter_append]
  refine congrArg _ ?_
  rw [List.filter_map]
  refine congrArg _ (List.filter_congr fun p _ => ?_)
  exact h p
end Gra
/-! Plain mathematics: the leader of a place; the tree's order keeps the musts. -/
namespace Gra
theorem must_start {ps : Lanes} {s d : Int} (h : Must ps s d s) : d = s := by
  by_cases c : s = d
  · exact c.symm
  · exact absurd (Av.here c) h.2
theorem must_back {ps : Lanes} {s d a b : Int} (h : Must ps s d b) (hl : (a, b) ∈ ps) (ha : Rch ps s a) (ne : d ≠ b) : Must ps s d a :=
  ⟨ha, fun v => h.2 (.step v hl (Ne.symm ne))⟩
/-- in the tree a must stands ahead of what it is a must of -/
theorem tree_rch {ps : Lanes} {s : Int} {t : PTree} (R : Reach ps s t) : ∀ (i : Nat) (x : Int) (o : Option Int), t[i]? = some (x, o) → Rch ps s x := by
  intro i
  induction i using Nat.strongRecOn with
  | ind i ih =>
    intro x o h
    by_cases c : 0 < i
    · obtain ⟨p, j, o', _, hj, hp, hl⟩ := R.par i x o h c
      exact .step (ih j hj p o' hp) hl
    · have e : i = 0 := by omega
      subst e
      rw [R.head] at h
      cases h
      exact .here
theorem tree_must {ps : Lanes} {s : Int} {t : PTree} (R : Reach ps s t) (d : Int) : ∀ (i : Nat) (x : Int) (o : Option Int), t[i]? = some (x, o) → Must ps s d x → ∃ j o', j ≤ i ∧ t[j]? = some (d, o') := by
  intro i
  induction i using Nat.strongRecOn with
  | ind i ih =>
    intro x o h m
    by_cases e : d = x
    · subst e; exact ⟨i, o, Nat.le_refl _, h⟩
    by_cases c : 0 < i
    · obtain ⟨p, j, o', _, hj, hp, hl⟩ := R.par i x o h c
      obtain ⟨j', o'', h1, h2⟩ := ih j hj p o' hp (must_back m hl (tree_rch R j p o' hp) e)
      exact ⟨j', o'', by omega, h2⟩
    · have e0 : i = 0 := by omega
      subst e0
      rw [R.head] at h
      cases h
      exact absurd (must_start m) e
theorem tree_all {ps : Lanes} {s : Int} {t : PTree} (R : Reach ps s t) (D : Done ps t t.length) {x : Int} : x ∈ keys t ↔ Rch ps s x := by
  constructor
  · intro h
    obtain ⟨i, o, hi⟩ := mem_keys.mp h
    exact tree_rch R i x o hi
  · intro h
    induction h with
    | here => exact R.start_mem
    | step _ hl ih => exact D.closed hl ih
/-- d is the leader of x: its last must but itself -/
structure Lead (ps : Lanes) (s x d : Int) : Prop where
  ne : d ≠ x
  must : Must ps s d x
  last : ∀ e, Must ps s e x → e ≠ x → Must ps s e d
theorem Lead.unique {ps : Lanes} {s x d e : Int} (h : Lead ps s x d) (h' : Lead ps s x e) : d = e :=
  Must.antisymm (h'.last d h.must h.ne) (h.last e h'.must h'.ne)
/-- the last one in the tree's order is the leader -/
theorem lead_of {ps : Lanes} {s : Int} {t : PTree} (R : Reach ps s t) {x d : Int} (hd : Must ps s d x) (ne : d ≠ x) {i : Nat} (hi : (keys t)[i]? = some d) (hx : ∀ (j : Nat) (e : Int), (keys t)[j]? = some e → Must ps s e x → e ≠ x → j ≤ i) (hR : ∀ e, Rch ps s e → e ∈ keys t) : Lead ps s x d := by
  refine ⟨ne, hd, fun e he hne => ?_⟩
  rcases he.total hd with c | c
  · exact c
  · -- d is a must of e: so d stands ahead of e, or is e
    obtain ⟨j, hj⟩ := List.mem_iff_getElem?.mp (hR e he.rch)
    have h1 := hx j e hj he hne
    have g : ∀ (k : Nat) (y : Int), (keys t)[k]? = some y → ∃ o, t[k]? = some (y, o) := fun k y h => by
      unfold keys at h
      rw [List.getElem?_map] at h
      cases q : t[k]? with
      | none => rw [q] at h; cases h
      | some u => rw [q] at h; exact ⟨u.2, by cases u; simp at h; rw [← h]⟩
    obtain ⟨o, ho⟩ := g j e hj
    obtain ⟨o2, ho2⟩ := g i d hi
    obtain ⟨k, o', hk, hd'⟩ := tree_must R d j e o ho c
    have : k = i := ix_inj R.nd hd' ho2
    have : j = i := by omega
    subst this
    rw [ho] at ho2
    cases ho2
    exact Must.self hd.rch
theorem mustRow_start {ps : Lanes} {s : Int} : MustRow ps s s [s] :=
  ⟨by simp, fun d => ⟨fun h => by rw [List.mem_singleton.mp h]; exact Must.self .here, fun h => by rw [must_start h]; exact List.mem_cons_self⟩, List.pairwise_singleton _ _⟩
theorem mustRow_push {ps : Lanes} {s x d : Int} {row : List Int} (h : MustRow ps s d row) (l : Lead ps s x d) : MustRow ps s x (row ++ [x]) := by
  have hx : x ∉ row := fun m => l.ne (Must.antisymm l.must ((h.mem x).mp m))
  refine ⟨?_, fun e => ?_, ?_⟩
  · rw [List.nodup_append]
    exact ⟨h.nd, by simp, fun a ha b hb => by rw [List.mem_singleton.mp hb]; rintro rfl; exact hx ha⟩
  · rw [List.mem_append, List.mem_singleton]
    constructor
    · rintro (m | m)
      · exact ((h.mem e).mp m).trans l.must
      · rw [m]; exact Must.self l.must.1
    · intro m
      by_cases c : e = x
      · exact .inr c
      · exact .inl ((h.mem e).mpr (l.last e m c))
  · rw [List.pairwise_append]
    exact ⟨h.up, List.pairwise_singleton _ _, fun a ha b hb => by rw [List.mem_singleton.mp hb]; exact ((h.mem a).mp ha).trans l.must⟩
/-- the row ends with x, and ahead of it stands the leader -/
theorem mustRow_last {ps : Lanes} {s x : Int} {row : List Int} (h : MustRow ps s x row) (hr : Rch ps s x) : ∃ pre, row = pre ++ [x] := by
  have hx : x ∈ row := (h.mem x).mpr (Must.self hr)
  obtain ⟨a, b, e⟩ := List.append_of_mem hx
  subst e
  have up := h.up
  rw [List.pairwise_append, List.pairwise_cons] at up
  cases b with
  | nil => exact ⟨a, rfl⟩
  | cons y b =>
    exfalso
    have m1 : Must ps s x y := up.2.1.1 y List.mem_cons_self
    have m2 : Must ps s y x := (h.mem y).mp (by simp)
    have e := Must.antisymm m1 m2
    have nd := h.nd
    rw [List.nodup_append] at nd
    have := (List.nodup_cons.mp nd.2.1).1
    rw [e] at this
    exact this List.mem_cons_self
theorem mustRow_lead {ps : Lanes} {s x d : Int} {pre : List Int} (h : MustRow ps s x (pre ++ [d, x])) : Lead ps s x d := by
  have nd := h.nd
  rw [List.nodup_append] at nd
  have hne : d ≠ x := fun z => by
    have := (List.nodup_cons.mp nd.2.1).1
    rw [z] at this
    exact this List.mem_cons_self
  have up := h.up
  rw [List.pairwise_append] at up
  refine ⟨hne, (h.mem d).mp (by simp), fun e he hx => ?_⟩
  have := (h.mem e).mpr he
  rcases List.mem_append.mp this with m | m
  · exact up.2.2 e m d List.mem_cons_self
  · rcases List.mem_cons.mp m with c | c
    · rw [c]; exact Must.self (((h.mem d).mp (by simp)).rch)
    · exact absurd (List.mem_singleton.mp c) hx
/-- a row of one place: the start; a longer one: not the start -/
theorem mustRow_two {ps : Lanes} {s x : Int} {row : List Int} (h : MustRow ps s x row) (hr : Rch ps s x) (hl : 2 ≤ row.length) : x ≠ s ∧ ∃ pre d, row = pre ++ [d, x] := by
  obtain ⟨pre, e⟩ := mustRow_last h hr
  subst e
  have hp : pre ≠ [] := fun z => by rw [z] at hl; simp at hl
  refine ⟨fun z => ?_, pre.dropLast, pre.getLast hp, ?_⟩
  · subst z
    have := h.unique mustRow_start
    have := congrArg List.length this
    rw [List.length_append, List.length_singleton] at this
    rw [List.length_append, List.length_singleton] at hl
    simp at this
    exact hp this
  · have := List.dropLast_concat_getLast hp
    rw [← List.append_cancel_right_eq (bs := [x])] at this
    rw [List.append_assoc] at this
    exact this.symm
theorem mustRow_short {ps : Lanes} {s x : Int} {row : List Int} (h : MustRow ps s x row) (hr : Rch ps s x) (hl : row.length < 2) : x = s := by
  have m1 : s ∈ row := (h.mem s).mpr (Must.start hr)
  have m2 : x ∈ row := (h.mem x).mpr (Must.self hr)
  match row, hl with
  | [y], _ => rw [List.mem_singleton.mp m1, List.mem_singleton.mp m2]
/-! ### the program's test, and what it leaves -/
theorem rch_wo_self {ps : Lanes} {s x : Int} (h : Rch (wol ps s) s x) : x = s := by
  induction h with
  | here => rfl
  | step _ hl ih => exact absurd ih (mem_wo.mp hl).2.1
theorem must_test {ps : Lanes} {s g x : Int} (hx : Rch ps s x) : (¬ Rch (wol ps g) s x ∧ x ≠ g) ↔ (Must ps s g x ∧ g ≠ x) := by
  by_cases c : s = g
  · subst c
    exact ⟨fun h => ⟨Must.start hx, Ne.symm h.2⟩, fun h => ⟨fun r => h.2 (rch_wo_self r).symm, Ne.symm h.2⟩⟩
  · rw [rch_wo c]
    exact ⟨fun h => ⟨⟨hx, h.1⟩, Ne.symm h.2⟩, fun h => ⟨h.1.2, Ne.symm h.2⟩⟩
/-- o is the last of es that is a must of x, and isn't x -/
def LastOf (ps : Lanes) (s : Int) (es : List Int) (x : Int) (o : Option Int) : Prop :=
  (o = none ∧ ∀ e ∈ es, ¬ (Must ps s e x ∧ e ≠ x)) ∨ ∃ d j, o = some d ∧ es[j]? = some d ∧ Must ps s d x ∧ d ≠ x ∧ ∀ (k : Nat) (e : Int), es[k]? = some e → Must ps s e x → e ≠ x → k ≤ j
theorem last_nil (ps : Lanes) (s x : Int) : LastOf ps s [] x none := .inl ⟨rfl, fun _ h => by cases h⟩
theorem last_yes {ps : Lanes} {s x g : Int} {es : List Int} (h : Must ps s g x) (ne : g ≠ x) : LastOf ps s (es ++ [g]) x (some g) := by
  refine .inr ⟨g, es.length, rfl, by simp, h, ne, fun k e he _ _ => ?_⟩
  have := (List.getElem?_eq_some_iff.mp he).1
  rw [List.length_append, List.length_singleton] at this
  omega
theorem last_no {ps : Lanes} {s x g : Int} {es : List Int} {o : Option Int} (h : LastOf ps s es x o) (no : ¬ (Must ps s g x ∧ g ≠ x)) : LastOf ps s (es ++ [g]) x o := by
  rcases h with ⟨e, h⟩ | ⟨d, j, e, hj, hm, ne, hl⟩
  · refine .inl ⟨e, fun y hy => ?_⟩
    rcases List.mem_append.mp hy with m | m
    · exact h y m
    · rw [List.mem_singleton.mp m]; exact no
  · have hjl := (List.getElem?_eq_some_iff.mp hj).1
    refine .inr ⟨d, j, e, by rw [List.getElem?_append_left hjl]; exact hj, hm, ne, fun k y hk h1 h2 => ?_⟩
    by_cases c : k < es.length
    · rw [List.getElem?_append_left c] at hk
      exact hl k y hk h1 h2
    · have hk2 := (List.getElem?_eq_some_iff.mp hk).1
      rw [List.length_append, List.length_singleton] at hk2
      have e2 : k = es.length := by omega
      subst e2
      have : g = y := by simpa using hk
      subst this
      exact absurd ⟨h1, h2⟩ no
/-- what the program tells of a place -/
def LeadAt (ps : Lanes) (s x : Int) (o : Option Int) : Prop := (o = none ∧ (Rch ps s x → x = s)) ∨ ∃ d, o = some d ∧ Rch ps s x ∧ x ≠ s ∧ Lead ps s x d
theorem last_lead {ps : Lanes} {s x : Int} {t : PTree} {o : Option Int} (R : Reach ps s t) (D : Done ps t t.length) (h : LastOf ps s (keys t) x o) : LeadAt ps s x o := by
  rcases h with ⟨e, h⟩ | ⟨d, j, e, hj, hm, ne, hl⟩
  · refine .inl ⟨e, fun r => ?_⟩
    by_cases c : x = s
    · exact c
    · exact absurd ⟨Must.start r, Ne.symm c⟩ (h s R.start_mem)
  · refine .inr ⟨d, e, hm.1, fun z => ?_, lead_of R hm ne hj hl fun y hy => (tree_all R D).mpr hy⟩
    subst z
    exact ne (must_start hm)
open Classical in
/-- the musts of c among the places -/
noncomputable def mus (n : Nat) (ps : Lanes) (s c : Int) : List Int := ((List.range n).map fun k => ((k : Nat) : Int)).filter fun d => decide (Must ps s d c)
theorem rch_range {n : Int} {ps : Lanes} {s d : Int} (hs : 0 ≤ s ∧ s < n) (hin : ∀ p ∈ ps, (0 ≤ p.1 ∧ p.1 < n) ∧ (0 ≤ p.2 ∧ p.2 < n)) (h : Rch ps s d) : 0 ≤ d ∧ d < n := by
  cases h with
  | here => exact hs
  | step _ hl => exact (hin _ hl).2
open Classical in
theorem mus_ok {n : Nat} {ps : Lanes} {s c : Int} (hs : 0 ≤ s ∧ s < (n : Int)) (hin : ∀ p ∈ ps, (0 ≤ p.1 ∧ p.1 < (n : Int)) ∧ (0 ≤ p.2 ∧ p.2 < (n : Int))) : Musts ps s c (mus n ps s c) := by
  unfold mus
  refine ⟨List.Pairwise.sublist List.filter_sublist ?_, fun d => ?_⟩
  · rw [List.pairwise_map]
    exact List.pairwise_lt_range.imp fun {a b} h z => by omega
  · rw [List.mem_filter]
    constructor
    · intro h
      exact of_decide_eq_true h.2
    · intro h
      have := rch_range hs hin h.rch
      exact ⟨List.mem_map.mpr ⟨d.toNat, List.mem_range.mpr (by omega), by omega⟩, decide_eq_true h⟩
theorem mus_lt {n : Nat} {ps : Lanes} {s c d : Int} (hs : 0 ≤ s ∧ s < (n : Int)) (hin : ∀ p ∈ ps, (0 ≤ p.1 ∧ p.1 < (n : Int)) ∧ (0 ≤ p.2 ∧ p.2 < (n : Int))) (l : Lead ps s c d) : (mus n ps s d).length < (mus n ps s c).length :=
  Musts.lt (mus_ok hs hin) (mus_ok hs hin) l.must l.ne
theorem mustRow_len {n : Nat} {ps : Lanes} {s c : Int} {row : List Int} (hs : 0 ≤ s ∧ s < (n : Int)) (hin : ∀ p ∈ ps, (0 ≤ p.1 ∧ p.1 < (n : Int)) ∧ (0 ≤ p.2 ∧ p.2 < (n : Int))) (h : MustRow ps s c row) : row.length ≤ n := by
  rcases nodup_places (n := (n : Int)) h.nd fun d hd => rch_range hs hin ((h.mem d).mp hd).rch with z | z
  · omega
  · rw [z]; exact Nat.zero_le _
end Gra
/-! Plain mathematics: parts, and the order in which they lie. -/
namespace Gra
def places (n : Nat) : List Int := (List.range n).map fun k => ((k : Nat) : Int)
theorem mem_places {n : Nat} {x : Int} : x ∈ places n ↔ 0 ≤ x ∧ x < n := by
  unfold places
  rw [List.mem_map]
  constructor
  · rintro ⟨k, hk, rfl⟩
    have := List.mem_range.mp hk
    omega
  · rintro ⟨h1, h2⟩
    exact ⟨x.toNat, List.mem_range.mpr (by omega), by omega⟩
theorem places_up (n : Nat) : (places n).Pairwise (· < ·) := by
  unfold places
  rw [List.pairwise_map]
  exact List.pairwise_lt_range.imp fun {a b} h => by omega
theorem places_nd (n : Nat) : (places n).Nodup := (places_up n).imp fun {a b} h => by
  have : a < b := h
  intro z; omega
theorem places_len (n : Nat) : (places n).length = n := by
  unfold places
  rw [List.length_map, List.length_range]
/-- what is reached from each place -/
def RK (n : Nat) (ps : Lanes) (R : Int → List Int) : Prop := ∀ x : Int, 0 ≤ x → x < (n : Int) → (R x).Nodup ∧ ∀ y, y ∈ R x ↔ Rch ps x y
def scB (R : Int → List Int) (x y : Int) : Bool := decide (y ∈ R x) && decide (x ∈ R y)
def partOf (n : Nat) (R : Int → List Int) (x : Int) : List Int := (places n).filter (scB R x)
def least (n : Nat) (R : Int → List Int) (x : Int) : Bool := decide ((partOf n R x).head? = some x)
def once (n : Nat) (R : Int → List Int) : List (List Int) := ((places n).filter (least n R)).map (partOf n R)
section
variable {n : Nat} {ps : Lanes} {R : Int → List Int}
theorem mem_part (h : RK n ps R) {x y : Int} (hx : 0 ≤ x ∧ x < n) : y ∈ partOf n R x ↔ (0 ≤ y ∧ y < n) ∧ Rch ps x y ∧ Rch ps y x := by
  unfold partOf scB
  rw [List.mem_filter, mem_places, Bool.and_eq_true, decide_eq_true_iff, decide_eq_true_iff]
  constructor
  · rintro ⟨h1, h2, h3⟩
    exact ⟨h1, ((h x hx.1 hx.2).2 y).mp h2, ((h y h1.1 h1.2).2 x).mp h3⟩
  · rintro ⟨h1, h2, h3⟩
    exact ⟨h1, ((h x hx.1 hx.2).2 y).mpr h2, ((h y h1.1 h1.2).2 x).mpr h3⟩
theorem part_self (h : RK n ps R) {x : Int} (hx : 0 ≤ x ∧ x < n) : x ∈ partOf n R x := (mem_part h hx).mpr ⟨hx, .here, .here⟩
theorem part_up (n : Nat) (R : Int → List Int) (x : Int) : (partOf n R x).Pairwise (· < ·) := (places_up n).sublist List.filter_sublist
theorem part_eq (h : RK n ps R) {x y : Int} (hx : 0 ≤ x ∧ x < n) (hy : y ∈ partOf n R x) : partOf n R y = partOf n R x := by
  obtain ⟨hy0, h1, h2⟩ := (mem_part h hx).mp hy
  unfold partOf
  refine List.filter_congr fun z hz => ?_
  have hz0 := mem_places.mp hz
  have e : ∀ {u : Int} (_ : 0 ≤ u ∧ u < n), scB R u z = true ↔ Rch ps u z ∧ Rch ps z u := fun {u} hu => by
    unfold scB
    rw [Bool.and_eq_true, decide_eq_true_iff, decide_eq_true_iff, (h u hu.1 hu.2).2 z, (h z hz0.1 hz0.2).2 u]
  have : scB R y z = true ↔ scB R x z = true := by
    rw [e hy0, e hx]
    exact ⟨fun q => ⟨rch_trans h1 q.1, rch_trans q.2 h2⟩, fun q => ⟨rch_trans h2 q.1, rch_trans q.2 h1⟩⟩
  cases c : scB R x z with
  | true => exact this.mpr c
  | false =>
    cases c' : scB R y z with
    | false => rfl
    | true => rw [this.mp c'] at c; cases c
theorem part_head (h : RK n ps R) {x : Int} (hx : 0 ≤ x ∧ x < n) : ∃ y, (partOf n R x).head? = some y ∧ y ∈ partOf n R x := by
  cases e : partOf n R x with
  | nil => have := part_self h hx; rw [e] at this; cases this
  | cons y l => exact ⟨y, rfl, List.mem_cons_self⟩
theorem mem_once (h : RK n ps R) {p : List Int} : p ∈ once n R ↔ ∃ x : Int, (0 ≤ x ∧ x < n) ∧ p = partOf n R x ∧ p.head? = some x := by
  unfold once least
  rw [List.mem_map]
  constructor
  · rintro ⟨x, hx, rfl⟩
    obtain ⟨h1, h2⟩ := List.mem_filter.mp hx
    exact ⟨x, mem_places.mp h1, rfl, of_decide_eq_true h2⟩
  · rintro ⟨x, hx, rfl, hh⟩
    exact ⟨x, List.mem_filter.mpr ⟨mem_places.mpr hx, decide_eq_true hh⟩, rfl⟩
/-- any part stands there -/
theorem part_once (h : RK n ps R) {x : Int} (hx : 0 ≤ x ∧ x < n) : partOf n R x ∈ once n R := by
  obtain ⟨y, hy, hm⟩ := part_head h hx
  have hy0 := ((mem_part h hx).mp hm).1
  exact (mem_once h).mpr ⟨y, hy0, (part_eq h hx hm).symm, hy⟩
theorem once_apart (h : RK n ps R) : (once n R).Pairwise fun a b => ∀ x ∈ a, x ∉ b := by
  unfold once
  rw [List.pairwise_map]
  have nd : ((places n).filter (least n R)).Nodup := (places_nd n).sublist List.filter_sublist
  refine (List.Pairwise.and_mem.mp nd).imp fun {a b} ⟨ha, hb, ne⟩ x hxa hxb => ?_
  obtain ⟨a1, a2⟩ := List.mem_filter.mp ha
  obtain ⟨b1, b2⟩ := List.mem_filter.mp hb
  have e1 := part_eq h (mem_places.mp a1) hxa
  have e2 := part_eq h (mem_places.mp b1) hxb
  have q1 : (partOf n R a).head? = some a := of_decide_eq_true a2
  have q2 : (partOf n R b).head? = some b := of_decide_eq_true b2
  rw [← e1, e2, q2] at q1
  exact ne (Option.some.inj q1).symm
end
/-- what the parts told must be -/
structure PartsOk (n : Nat) (ps : Lanes) (F : List (List Int)) : Prop where
  ne : ∀ p ∈ F, p ≠ []
  up : ∀ p ∈ F, p.Pairwise (· < ·)
  rg : ∀ p ∈ F, ∀ x ∈ p, 0 ≤ x ∧ x < n
  sc : ∀ p ∈ F, ∀ x ∈ p, ∀ y ∈ p, Rch ps x y
  nd : F.flatten.Nodup
  all : ∀ x : Int, 0 ≤ x → x < n → x ∈ F.flatten
  ord : ∀ a b, (a, b) ∈ ps → ∀ (i j : Nat) (p q : List Int), F[i]? = some p → F[j]? = some q → a ∈ p → b ∈ q → i ≤ j
  wide : ∀ p ∈ F, ∀ x ∈ p, ∀ y : Int, 0 ≤ y → y < n → Rch ps x y → Rch ps y x → y ∈ p
theorem flat_apart {α : Type} : ∀ {F : List (List α)} {i j : Nat} {p q : List α} {x : α}, F.flatten.Nodup → F[i]? = some p → F[j]? = some q → x ∈ p → x ∈ q → i = j
  | [], i, _, _, _, _, _, h, _, _, _ => by simp at h
  | r :: F, 0, 0, _, _, _, _, _, _, _, _ => rfl
  | r :: F, 0, j + 1, p, q, x, nd, hi, hj, hp, hq => by
    rw [List.flatten_cons, List.nodup_append] at nd
    have e : r = p := by simpa using hi
    subst e
    exact absurd rfl (nd.2.2 x hp x (List.mem_flatten.mpr ⟨q, List.mem_of_getElem? (by simpa using hj), hq⟩))
  | r :: F, i + 1, 0, p, q, x, nd, hi, hj, hp, hq => by
    rw [List.flatten_cons, List.nodup_append] at nd
    have e : r = q := by simpa using hj
    subst e
    exact absurd rfl (nd.2.2 x hq x (List.mem_flatten.mpr ⟨p, List.mem_of_getElem? (by simpa using hi), hp⟩))
  | r :: F, i + 1, j + 1, p, q, x, nd, hi, hj, hp, hq => by
    rw [List.flatten_cons, List.nodup_append] at nd
    rw [flat_apart (F := F) (i := i) (j := j) nd.2.1 (by simpa using hi) (by simpa using hj) hp hq]
/-- the parts in an order by what they reach, the most first -/
theorem parts_ok {n : Nat} {ps : Lanes} {R : Int → List Int} {F : List (List Int)} (h : RK n ps R) (hin : ∀ p ∈ ps, (0 ≤ p.1 ∧ p.1 < n) ∧ (0 ≤ p.2 ∧ p.2 < n)) (hp : F.Perm (once n R)) (hs : F.Pairwise fun p q => ∀ x y, p.head? = some x → q.head? = some y → (R y).length ≤ (R x).length) : PartsOk n ps F := by
  have form : ∀ p ∈ F, ∃ x : Int, (0 ≤ x ∧ x < n) ∧ p = partOf n R x ∧ p.head? = some x := fun p hp' => (mem_once h).mp (hp.mem_iff.mp hp')
  have nd : F.flatten.Nodup := by
    have e : F.flatten.Perm (once n R).flatten := hp.flatten
    rw [e.nodup_iff]
    show List.Pairwise _ _
    rw [List.pairwise_flatten]
    have ap : (once n R).Pairwise fun a b => ∀ x ∈ a, ∀ y ∈ b, x ≠ y := (once_apart h).imp fun {a b} q x hx y hy z => q x hx (by rw [z]; exact hy)
    refine ⟨fun l hl => ?_, ap⟩
    obtain ⟨x, _, rfl, _⟩ := (mem_once h).mp hl
    exact (part_up n R x).imp fun {a b} q => by
      have : a < b := q
      intro z; omega
  refine ⟨fun p hp' z => ?_, fun p hp' => ?_, fun p hp' x hx => ?_, fun p hp' x hx y hy => ?_, nd, fun x h0 h1 => ?_, fun a b hab i j p q hi hj ha hb => ?_, fun p hp' x hx y h0 h1 r1 r2 => ?_⟩
  · obtain ⟨x, _, _, e⟩ := form p hp'
    rw [z] at e; cases e
  · obtain ⟨x, _, rfl, _⟩ := form p hp'
    exact part_up n R x
  · obtain ⟨u, hu, rfl, _⟩ := form p hp'
    exact ((mem_part h hu).mp hx).1
  · obtain ⟨u, hu, rfl, _⟩ := form p hp'
    exact rch_trans ((mem_part h hu).mp hx).2.2 ((mem_part h hu).mp hy).2.1
  · exact List.mem_flatten.mpr ⟨_, hp.mem_iff.mpr (part_once h ⟨h0, h1⟩), part_self h ⟨h0, h1⟩⟩
  · by_cases c : i ≤ j
    · exact c
    exfalso
    obtain ⟨u, hu, eu, hdu⟩ := form p (List.mem_of_getElem? hi)
    obtain ⟨v, hv, ev, hdv⟩ := form q (List.mem_of_getElem? hj)
    have hlt : j < i := by omega
    have hh := by
      have := List.pairwise_iff_getElem.mp hs j i (List.getElem?_eq_some_iff.mp hj).1 (List.getElem?_eq_some_iff.mp hi).1 hlt
      rw [(List.getElem?_eq_some_iff.mp hj).2, (List.getElem?_eq_some_iff.mp hi).2] at this
      exact this v u hdv hdu
    have ma := (mem_part h hu).mp (eu ▸ ha)
    have mb := (mem_part h hv).mp (ev ▸ hb)
    -- from u to v
    have huv : Rch ps u v := rch_trans ma.2.1 (rch_trans (rch_one hab) mb.2.2)
    have sub : ∀ x ∈ R v, x ∈ R u := fun x hx => ((h u hu.1 hu.2).2 x).mpr (rch_trans huv (((h v hv.1 hv.2).2 x).mp hx))
    have hvu : u ∈ R v := by
      by_cases m : u ∈ R v
      · exact m
      exfalso
      have := length_le_of_subset (l := u :: R v) (m := R u) (List.nodup_cons.mpr ⟨m, (h v hv.1 hv.2).1⟩) fun x hx => by
        rcases List.mem_cons.mp hx with e | e
        · rw [e]; exact ((h u hu.1 hu.2).2 u).mpr .here
        · exact sub x e
      rw [List.length_cons] at this
      omega
    have r2 : Rch ps v u := ((h v hv.1 hv.2).2 u).mp hvu
    have : a ∈ q := by
      rw [ev]
      exact (mem_part h hv).mpr ⟨ma.1, rch_trans r2 ma.2.1, rch_trans ma.2.2 huv⟩
    have := flat_apart nd hi hj ha this
    omega
  · obtain ⟨u, hu, rfl, _⟩ := form p hp'
    have mx := (mem_part h hu).mp hx
    exact (mem_part h hu).mpr ⟨⟨h0, h1⟩, rch_trans mx.2.1 r1, rch_trans r2 mx.2.2⟩
/-! ### the number of each place's part -/
def numsFrom (i : Nat) : List (List Int) → List (Int × Int)
  | [] => []
  | p :: F => p.map (fun x => (x, ((i : Nat) : Int))) ++ numsFrom (i + 1) F
theorem nums_snoc (p : List Int) : ∀ (F : List (List Int)) (i : Nat), numsFrom i (F ++ [p]) = numsFrom i F ++ p.map (fun x => (x, ((i + F.length : Nat) : Int)))
  | [], i => by simp [numsFrom]
  | q :: F, i => by
    show q.map _ ++ numsFrom (i + 1) (F ++ [p]) = (q.map _ ++ numsFrom (i + 1) F) ++ _
    rw [nums_snoc p F (i + 1), List.append_assoc, List.length_cons]
    have e : i + 1 + F.length = i + (F.length + 1) := by omega
    rw [e]
theorem nums_keys : ∀ (F : List (List Int)) (i : Nat), (numsFrom i F).map (·.1) = F.flatten
  | [], _ => rfl
  | p :: F, i => by
    show (p.map _ ++ numsFrom (i + 1) F).map _ = _
    rw [List.map_append, nums_keys F (i + 1), List.map_map, List.flatten_cons]
    congr 1
    exact (List.map_congr_left fun _ _ => rfl).trans (List.map_id _)
theorem mem_nums {x k : Int} : ∀ {F : List (List Int)} {i : Nat}, (x, k) ∈ numsFrom i F → ∃ j p, F[j]? = some p ∧ x ∈ p ∧ k = ((i + j : Nat) : Int)
  | [], _, h => by cases h
  | p :: F, i, h => by
    rcases List.mem_append.mp h with h | h
    · obtain ⟨y, hy, e⟩ := List.mem_map.mp h
      have e1 : y = x := congrArg Prod.fst e
      have e2 : ((i : Nat) : Int) = k := congrArg Prod.snd e
      exact ⟨0, p, rfl, e1 ▸ hy, e2.symm⟩
    · obtain ⟨j, q, h1, h2, h3⟩ := mem_nums h
      exact ⟨j + 1, q, by simpa using h1, h2, by rw [h3]; congr 1; omega⟩
theorem flat_len {n : Nat} {ps : Lanes} {F : List (List Int)} (h : PartsOk n ps F) : F.flatten.length = n := by
  have h1 := length_le_of_subset (m := places n) h.nd fun x hx => by
    obtain ⟨p, hp, hxp⟩ := List.mem_flatten.mp hx
    exact mem_places.mpr (h.rg p hp x hxp)
  have h2 := length_le_of_subset (m := F.flatten) (places_nd n) fun x hx => by
    have := mem_places.mp hx
    exact h.all x this.1 this.2
  rw [places_len] at h1 h2
  omega
theorem rch_swap {ps : Lanes} {a b : Int} (h : Rch (ps.map swap) a b) : Rch ps b a := by
  induction h with
  | here => exact .here
  | step _ hl ih =>
    obtain ⟨q, hq, e⟩ := List.mem_map.mp hl
    refine rch_trans (rch_one ?_) ih
    cases q
    simp only [swap, Prod.mk.injEq] at e
    rw [← e.1, ← e.2]; exact hq
theorem swap_swap (ps : Lanes) : (ps.map swap).map swap = ps := by
  rw [List.map_map]
  exact (List.map_congr_left fun _ _ => rfl).trans (List.map_id _)
theorem rch_swap' {ps : Lanes} {a b : Int} (h : Rch ps a b) : Rch (ps.map swap) b a := rch_swap (by rw [swap_swap]; exact h)
theorem perm_map {α β : Type} {g : α → β} {zs ys : List β} (h : zs.Perm ys) : ∀ L : List α, ys = L.map g → ∃ L' : List α, L'.Perm L ∧ zs = L'.map g := by
  induction h with
  | nil =>
    intro L e
    cases L with
    | nil => exact ⟨[], .refl _, rfl⟩
    | cons a l => cases e
  | cons x _ ih =>
    intro L e
    cases L with
    | nil => cases e
    | cons a l =>
      injection e with e1 e2
      obtain ⟨L', h1, h2⟩ := ih l e2
      exact ⟨a :: L', h1.cons a, by rw [List.map_cons, ← e1, ← h2]⟩
  | swap x y l =>
    intro L e
    match L, e with
    | a :: b :: l', e =>
      injection e with e1 e2
      injection e2 with e2 e3
      exact ⟨b :: a :: l', .swap .., by rw [List.map_cons, List.map_cons, ← e1, ← e2, ← e3]⟩
  | trans _ _ ih1 ih2 =>
    intro L e
    obtain ⟨L2, h1, h2⟩ := ih2 L e
    obtain ⟨L1, h3, h4⟩ := ih1 L2 h2
    exact ⟨L1, h3.trans h1, h4⟩
theorem asc_unique {l m : List Int} (hl : l.Pairwise (· < ·)) (hp : m.Perm l) (hm : m.Pairwise (· ≤ ·)) : m = l := by
  have nd : l.Nodup := hl.imp fun {a b} h => by
    have : a < b := h
    intro z; omega
  have hm' : m.Pairwise (· < ·) := strict_of hm (hp.nodup_iff.mpr nd)
  have key : ∀ {l m : List Int}, l.Pairwise (· < ·) → m.Pairwise (· < ·) → (∀ x, x ∈ l ↔ x ∈ m) → l = m := by
    intro l
    induction l with
    | nil =>
      intro m _ _ h
      cases m with
      | nil => rfl
      | cons b m => exact absurd ((h b).mpr List.mem_cons_self) (by simp)
    | cons a l ih =>
      intro m h1 h2 h
      cases m with
      | nil => exact absurd ((h a).mp List.mem_cons_self) (by simp)
      | cons b m =>
        obtain ⟨x1, x2⟩ := List.pairwise_cons.mp h1
        obtain ⟨y1, y2⟩ := List.pairwise_cons.mp h2
        have e : a = b := by
          rcases List.mem_cons.mp ((h a).mp List.mem_cons_self) with c | c
          · exact c
          rcases List.mem_cons.mp ((h b).mpr List.mem_cons_self) with c' | c'
          · exact c'.symm
          have z1 := x1 b c'
          have z2 := y1 a c
          omega
        subst e
        refine congrArg (a :: ·) (ih x2 y2 fun x => ⟨fun hx => ?_, fun hx => ?_⟩)
        · rcases List.mem_cons.mp ((h x).mp (List.mem_cons_of_mem _ hx)) with c | c
          · have := x1 x hx; omega
          · exact c
        · rcases List.mem_cons.mp ((h x).mpr (List.mem_cons_of_mem _ hx)) with c | c
          · have := y1 x hx; omega
          · exact c
  exact key hm' hl fun x => hp.mem_iff
end Gra
/-! My own rules over the hand layer, first part: list comprehensions. -/
namespace L2
open PySem PySem.Spec PyProof.Rows

/-! ### the cells that a comprehension's block sees -/
def clStep (env : Env) (cs : List (Str × Addr)) (p : Str × NameKind) : List (Str × Addr) :=
  if p.2 == .free then (p.1, (env.cells.lookup p.1).getD 0) :: cs else cs
def clOf (scope : Scope) (env : Env) : List (Str × Addr) := scope.names.foldl (clStep env) []

theorem closure_loop {env : Env} : ∀ (l : List (Str × NameKind)) (cs : List (Str × Addr)), (∀ p ∈ l, p.2 = .free → ∃ c, env.cells.lookup p.1 = some c) →
    (forIn l cs fun (p : Str × NameKind) (r : List (Str × Addr)) => (match p with
      | (name, kind) => if (kind == NameKind.free) = true then do let c ← cellOf env name; pure (ForInStep.yield ((name, c) :: r)) else pure (ForInStep.yield r) : Sem (ForInStep (List (Str × Addr))))) = pure (l.foldl (clStep env) cs)
  | [], cs, _ => rfl
  | (n, k) :: r, cs, h => by
    rw [List.forIn_cons, List.foldl_cons]
    by_cases e : k = .free
    · obtain ⟨c, hc⟩ := h (n, k) List.mem_cons_self e
      subst e
      have e2 : clStep env cs (n, .free) = (n, c) :: cs := by
        show (if (NameKind.free == NameKind.free) = true then (n, (env.cells.lookup n).getD 0) :: cs else cs) = _
        rw [if_pos (beq_self_eq_true NameKind.free)]
        have hc' : env.cells.lookup n = some c := hc
        rw [hc']; rfl
      rw [e2]
      have e3 : cellOf env n = pure c := by
        have hc' : env.cells.lookup n = some c := hc
        unfold cellOf; rw [hc']
      simp only [e3, beq_self_eq_true, if_true, pure_bind]
      exact closure_loop r _ fun p hp => h p (List.mem_cons_of_mem _ hp)
    · have e1 : (k == NameKind.free) = false := by simpa using e
      have e2 : clStep env cs (n, k) = cs := by
        show (if (k == NameKind.free) = true then _ else cs) = _
        rw [e1]; rfl
      rw [e2]
      simp only [e1, Bool.false_eq_true, if_false, pure_bind]
      exact closure_loop r _ fun p hp => h p (List.mem_cons_of_mem _ hp)
theorem closure_eq {scope : Scope} {env : Env} (h : ∀ p ∈ scope.names, p.2 = .free → ∃ c, env.cells.lookup p.1 = some c) : closureFor scope env = pure (clOf scope env) := by
  have e := closure_loop (env := env) scope.names [] h
  unfold closureFor clOf
  simp only [pure_bind, bind_pure]
  exact e

theorem cl_fold {env : Env} {y : Str} {c : Addr} : ∀ (l : List (Str × NameKind)) (cs : List (Str × Addr)), (∀ p ∈ l, p.2 = .free → ∃ c, env.cells.lookup p.1 = some c) →
    (cs.lookup y = some c → env.cells.lookup y = some c) → (l.foldl (clStep env) cs).lookup y = some c → env.cells.lookup y = some c
  | [], cs, _, h, e => h e
  | (n, k) :: r, cs, hl, h, e => by
    rw [List.foldl_cons] at e
    refine cl_fold r _ (fun p hp => hl p (List.mem_cons_of_mem _ hp)) (fun q => ?_) e
    unfold clStep at q
    by_cases f : (k == NameKind.free) = true
    · rw [if_pos f] at q
      have fk : k = .free := by simpa using f
      obtain ⟨c', hc'⟩ := hl (n, k) List.mem_cons_self fk
      have hc'' : env.cells.lookup n = some c' := hc'
      rw [List.lookup_cons] at q
      cases hy : y == n with
      | true =>
        rw [hy] at q
        have yn : y = n := by simpa using hy
        subst yn
        simp only [hc'', Option.getD_some] at q
        rw [hc'']; exact q
      | false =>
        rw [hy] at q
        exact h q
    · rw [if_neg f] at q
      exact h q
theorem cl_has {env : Env} {y : Str} : ∀ (l : List (Str × NameKind)) (cs : List (Str × Addr)), ((y, NameKind.free) ∈ l ∨ ∃ c, cs.lookup y = some c) → ∃ c, (l.foldl (clStep env) cs).lookup y = some c
  | [], cs, h => by
    rcases h with h | h
    · cases h
    · exact h
  | (n, k) :: r, cs, h => by
    rw [List.foldl_cons]
    refine cl_has r _ ?_
    unfold clStep
    rcases h with h | ⟨c, h⟩
    · rcases List.mem_cons.mp h with e | e
      · cases e
        refine .inr ⟨(env.cells.lookup y).getD 0, ?_⟩
        rw [if_pos (beq_self_eq_true NameKind.free), List.lookup_cons]
        simp
      · exact .inl e
    · right
      by_cases f : (k == NameKind.free) = true
      · rw [if_pos f, List.lookup_cons]
        cases hy : y == n with
        | true => exact ⟨_, rfl⟩
        | false => exact ⟨c, h⟩
      · rw [if_neg f]
        exact ⟨c, h⟩

/-- what is asked of a comprehension's scope: outer is the def's scope, N its names, x the clause's name, ys the names it takes from the def and js their places -/
structure CompSc (outer scope : Scope) (N : List Str) (x : Str) (ys : List Str) (js : List Nat) : Prop where
  cell : ∀ y ∈ scope.names, y.2 ≠ .cell
  kind : scope.kind = .function
  names : ∀ y ∈ scope.names, y.2 = .local → scope.names.lookup y.1 = some .local
  xl : scope.names.lookup x = some .local
  free : ∀ y ∈ scope.names, y.2 = .free → (outer.names.lookup y.1 = some .cell ∨ outer.names.lookup y.1 = some .free)
  caps : ∀ p ∈ ys.zip js, N[p.2]? = some p.1 ∧ scope.names.lookup p.1 = some .free
  len : ys.length = js.length
  nd : (x :: ys).Nodup

theorem lookup_relabel_free {env : Env} : ∀ {names : List (Str × NameKind)} {x : Str}, names.lookup x = some .free →
    (names.map fun (n, k) => if (k == NameKind.free && env.scope.kind == .function && env.kindOf n == some .cell) then (n, NameKind.cell) else (n, k)).lookup x = some .cell ∨
    (names.map fun (n, k) => if (k == NameKind.free && env.scope.kind == .function && env.kindOf n == some .cell) then (n, NameKind.cell) else (n, k)).lookup x = some .free
  | [], _, h => by simp at h
  | (n, k) :: r, x, h => by
    have ih := @lookup_relabel_free env r x
    rw [List.map_cons]
    cases hx : x == n with
    | true =>
      simp only [List.lookup_cons, hx] at h
      cases h
      by_cases hc : (NameKind.free == NameKind.free && env.scope.kind == .function && env.kindOf n == some .cell) = true
      · left
        show List.lookup x ((if (NameKind.free == NameKind.free && env.scope.kind == .function && env.kindOf n == some .cell) = true then (n, NameKind.cell) else (n, NameKind.free)) :: _) = _
        rw [if_pos hc]; simp only [List.lookup_cons, hx]
      · right
        show List.lookup x ((if (NameKind.free == NameKind.free && env.scope.kind == .function && env.kindOf n == some .cell) = true then (n, NameKind.cell) else (n, NameKind.free)) :: _) = _
        rw [if_neg hc]; simp only [List.lookup_cons, hx]
    | false =>
      simp only [List.lookup_cons, hx] at h
      have e : ∀ t, List.lookup x ((if (k == NameKind.free && env.scope.kind == .function && env.kindOf n == some .cell) = true then (n, NameKind.cell) else (n, k)) :: t) = List.lookup x t := fun t => by
        by_cases hc : (k == NameKind.free && env.scope.kind == .function && env.kindOf n == some .cell) = true
        · rw [if_pos hc]; simp only [List.lookup_cons, hx]
        · rw [if_neg hc]; simp only [List.lookup_cons, hx]
      rcases ih h with q | q
      · exact .inl ((e _).trans q)
      · exact .inr ((e _).trans q)
theorem relabel_cell {scope : Scope} {env : Env} {y : Str} (hn : ∀ z ∈ scope.names, z.2 ≠ .cell) (h : (relabel scope env).names.lookup y = some .cell ∨ (relabel scope env).names.lookup y = some .free) : (y, NameKind.free) ∈ scope.names := by
  have h' : (y, NameKind.cell) ∈ (relabel scope env).names ∨ (y, NameKind.free) ∈ (relabel scope env).names := h.imp PySem.mem_of_lookup PySem.mem_of_lookup
  rcases h' with h' | h'
  · obtain ⟨⟨n, k⟩, hp, e⟩ := List.mem_map.mp h'
    have e' : (if (k == NameKind.free && env.scope.kind == .function && env.kindOf n == some .cell) = true then (n, NameKind.cell) else (n, k)) = (y, NameKind.cell) := e
    by_cases hc : (k == NameKind.free && env.scope.kind == .function && env.kindOf n == some .cell) = true
    · rw [if_pos hc] at e'
      have hk : k = .free := by
        simp only [Bool.and_eq_true, beq_iff_eq] at hc
        exact hc.1.1
      cases e'
      rw [← hk]; exact hp
    · rw [if_neg hc] at e'
      cases e'
      exact absurd rfl (hn _ hp)
  · obtain ⟨⟨n, k⟩, hp, e⟩ := List.mem_map.mp h'
    have e' : (if (k == NameKind.free && env.scope.kind == .function && env.kindOf n == some .cell) = true then (n, NameKind.cell) else (n, k)) = (y, NameKind.free) := e
    by_cases hc : (k == NameKind.free && env.scope.kind == .function && env.kindOf n == some .cell) = true
    · rw [if_pos hc] at e'
      cases e'
    · rw [if_neg hc] at e'
      cases e'
      exact hp

/-! ### the block's context -/
def cxComp (X : Cx) (scope : Scope) (C : Addr) (N' : List Str) (s₂ : Shared) (H₂ : Hp) (fp : List Addr) : Cx :=
  { X with N := N', s₀ := s₂, H₀ := H₂, env := compEnvC scope (clOf scope X.env) C X.env, outer := X.stack, stack := X.stack, ex := fp, fn := fun _ => false, calm := true, pn := [], xe := fun _ _ => False }
def innerO (js : List Nat) (σ : St) (o : Option V) : St := o :: js.map fun j => (σ[j]?).join

def PCs (X : Cx) (ifs : List Expr) (t : TT) : Prop :=
  ∀ (pins : List (Addr × Obj)) (s : Shared) (σ : St) (H : Hp) (Q : Bool → Hp → Prop), Inv X pins σ H s → t σ H Q →
    wpAny (model X.prog X.w) X.A (forIn ifs true fun c r => if r = true then do let ok ← isTrue c X.env (eval c X.env); pure (ForInStep.yield ok) else pure (ForInStep.yield r)) (TP X pins σ Q) X.xe s
def tYes : TT := fun _ H Q => Q true H
theorem yes_of {σ : St} {H : Hp} {Q : Bool → Hp → Prop} (h : Q true H) : tYes σ H Q := h
theorem pcs_nil {X : Cx} : PCs X [] tYes := fun _ _ _ H _ I h => wpAny_tests_nil ⟨H, I, h⟩
theorem pcs_one {X : Cx} {c : Expr} {t : TT} (h : PT X c t) : PCs X [c] t := fun pins s σ H Q I hw => wpAny_tests_one (h pins s σ H Q I hw)

/-- a tracked list, of an untracked object -/
theorem HOk.track {P : Program} {w : World} {H : Hp} {h : Heap} {a : Addr} {o : HO} (x : HOk P w H h) (hn : H a = none) (new : ObjOk P w (upd H a o) h a o) : HOk P w (upd H a o) h := fun b u e => by
  by_cases hb : b = a
  · subst hb; rw [upd_same] at e; cases e; exact new
  · rw [upd_ne hb] at e
    exact (x b u e).stay (fun c v _ q => q) (fun c q => by rw [upd_ne (ne_of_none q hn)]; exact q) fun c xs q => by rw [upd_ne (ne_of_none q hn)]; exact q
theorem Un.track {fs ex : List Addr} {H H1 : Hp} {h h1 : Heap} {a : Addr} {o : HO} (u : Un fs ex H H1 h h1) (hn : H1 a = none) (hp : h.objs.size ≤ a) : Un fs ex H (upd H1 a o) h h1 where
  keep := u.keep
  slot := u.slot
  free := fun b ob q n hx => by rw [upd_ne (Nat.ne_of_lt (Nat.lt_of_lt_of_le (Heap.lt_size q) hp))]; exact u.free b ob q n hx
  there := u.there
  tups := fun b xs q => by
    have q' := u.tups b xs q
    rw [upd_ne (ne_of_none q' hn)]; exact q'
  frzs := fun b ob xs q => by
    have q' := u.frzs b ob xs q
    rw [upd_ne (ne_of_none q' hn)]; exact q'
  tbls := fun b ps q => by
    obtain ⟨m, q'⟩ := u.tbls b ps q
    exact ⟨m, by rw [upd_ne (ne_of_none q' hn)]; exact q'⟩

section
variable {X : Cx} {pins : List (Addr × Obj)} {σ : St} {H : Hp} {s : Shared}
theorem comp_ok {scope : Scope} {C : Addr} {x : Str} {ys : List Str} {js : List Nat} {fp : List Addr} (I : Inv X pins σ H s) (S : CompSc X.env.scope scope X.N x ys js) (hc : X.calm = true) (hC : s.heap.objs.size ≤ C)
    (hf : ∀ b ∈ fp, FpOk X pins H b) (hl : ∀ b ∈ fp, b < s.heap.objs.size) : (cxComp X scope C (x :: ys) s H fp).Ok := by
  have hfree : ∀ p ∈ scope.names, p.2 = .free → ∃ c, X.env.cells.lookup p.1 = some c := fun p hp e => I.ok.has p.1 (S.free p hp e)
  have hcl : ∀ y c, (clOf scope X.env).lookup y = some c → X.env.cells.lookup y = some c := fun y c e => cl_fold scope.names [] hfree (fun z => by simp at z) e
  refine ⟨I.ok.mod, S.kind, I.ok.glob, I.ok.blt, hC, fun y z c h1 h2 => I.ok.inj y z c (hcl y c h1) (hcl z c h2), fun y hy => ?_, fun y c h _ => ?_, fun _ => I.ok.hd hc, I.ok.frames, .inl rfl, fun b hb => ?_, I.bs, Nat.le_trans I.ok.bsz I.sz, fun b o e hb => ?_, fun b hb hfs => ?_, I.stack, I.stkFree⟩
  · exact cl_has scope.names [] (.inl (relabel_cell S.cell hy))
  · exact absurd (show false = true from h) (by decide)
  · refine ⟨Nat.ne_of_lt (Nat.lt_of_lt_of_le (hl b hb) hC), fun y c e => ?_⟩
    exact (hf b hb).2.2.2.2.1 y c (hcl y c e)
  · rcases (hf b hb).2.2.2.1 with z | z
    · exact I.ok.noex b o e z
    · exact absurd (Nat.lt_of_lt_of_le (Heap.lt_size (I.ok.bs b o e).1) z) (Nat.lt_irrefl _)
  · rcases List.mem_cons.mp (I.stkSub b hfs) with e | e
    · exact (hf b hb).2.1 e
    · exact (hf b hb).2.2.1 e

theorem join_get {js : List Nat} {σ : St} {i : Nat} {v : V} (e : (js.map fun j => (σ[j]?).join)[i]? = some (some v)) : ∃ j, js[i]? = some j ∧ σ[j]? = some (some v) := by
  rw [List.getElem?_map] at e
  cases h : js[i]? with
  | none => rw [h] at e; cases e
  | some j =>
    rw [h] at e
    have e' : (σ[j]?).join = some v := Option.some.inj e
    refine ⟨j, rfl, ?_⟩
    cases h2 : σ[j]? with
    | none => rw [h2] at e'; cases e'
    | some o => rw [h2] at e'; cases o with
      | none => cases e'
      | some u => rw [show u = v from Option.some.inj e']

theorem comp_start {scope : Scope} {C : Addr} {x : Str} {ys : List Str} {js : List Nat} {fp : List Addr} {h₁ : Heap} {tk : Nat} {m : Str → Option Value} (I : Inv X pins σ H s) (S : CompSc X.env.scope scope X.N x ys js) (hc : X.calm = true) (hC : s.heap.objs.size ≤ C)
    (hf : ∀ b ∈ fp, FpOk X pins H b) (hl : ∀ b ∈ fp, b < s.heap.objs.size) (old : ∀ b o, s.heap.get? b = some o → h₁.get? b = some o) (hns : h₁.Ns C m) :
    Inv (cxComp X scope C (x :: ys) s H fp) [] (innerO js σ none) H { s with heap := h₁, toks := tk } := by
  have hfree : ∀ p ∈ scope.names, p.2 = .free → ∃ c, X.env.cells.lookup p.1 = some c := fun p hp e => I.ok.has p.1 (S.free p hp e)
  have hcl : ∀ y c, (clOf scope X.env).lookup y = some c → X.env.cells.lookup y = some c := fun y c e => cl_fold scope.names [] hfree (fun z => by simp at z) e
  refine ⟨comp_ok I S hc hC hf hl, rfl, I.bare, Un.kept old, ⟨m, hns, fun i y v h1 h2 h3 => ?_⟩, fun y c e => ?_, I.hok.fresh hC, fun y c e => I.freeC y c (hcl y c e), fun p hp => absurd (show p ∈ ([] : List (Addr × Obj)) from hp) (by simp), I.hok.kept old, ?_⟩
  · cases i with
    | zero => exact absurd (show some (none : Option V) = some (some v) from h2) (by simp)
    | succ i =>
      have h2' : (js.map fun j => (σ[j]?).join)[i]? = some (some v) := h2
      have h1' : ys[i]? = some y := h1
      obtain ⟨j, hj, hv⟩ := join_get h2'
      have hz : (y, j) ∈ ys.zip js := by
        refine List.mem_iff_getElem?.mpr ⟨i, ?_⟩
        rw [List.getElem?_zip_eq_some]
        exact ⟨h1', hj⟩
      obtain ⟨hN, hfr⟩ := S.caps (y, j) hz
      have hk : X.env.kindOf y = some .cell ∨ X.env.kindOf y = some .free := S.free (y, .free) (PySem.mem_of_lookup hfr) rfl
      obtain ⟨m0, _, hl0⟩ := I.loc
      obtain ⟨u, r, l⟩ := hl0 j y v hN hv (.inr hk)
      refine ⟨u, r, .inr ⟨lookup_relabel_free hfr, ?_⟩⟩
      rcases l with ⟨k, _⟩ | ⟨_, c, ec, z⟩
      · rcases hk with z | z
        · rw [z] at k; cases k
        · rw [z] at k; cases k
      · obtain ⟨c', hc'⟩ := cl_has (env := X.env) (y := y) scope.names [] (.inl (PySem.mem_of_lookup hfr))
        have ec' := hcl y c' hc'
        rw [ec] at ec'; cases ec'
        obtain ⟨o, ho, hd⟩ := z
        exact ⟨c, hc', o, old c o ho, hd⟩
  · obtain ⟨v, o, ho, hd⟩ := I.cell y c (hcl y c e)
    exact ⟨v, o, old c o ho, hd⟩
  · show (js.map _).length + 1 = ys.length + 1
    rw [List.length_map, S.len]

/-- behind the block: the list at D is tracked -/
theorem comp_end {scope : Scope} {C D : Addr} {N' : List Str} {fp : List Addr} {pins' : List (Addr × Obj)} {σ' : St} {H' : Hp} {s' : Shared} {xs : List V} {its : List Value} {n : Nat} (I : Inv X pins σ H s) (hf : ∀ b ∈ fp, FpOk X pins H b)
    (J : Inv (cxComp X scope C N' s H fp) pins' σ' H' s') (hD : s.heap.objs.size ≤ D) (hn : H' D = none) (e : s'.heap.get? D = some { cls := .type "list", data := .seq its.toArray n }) (r : Vals xs its) (z : xs.length ≤ sizeLine) :
    Inv X pins σ (upd H' D (.lst xs)) s' := by
  refine I.call' (ch := fp) J.os (Un.track J.base hn hD) (HOk.track J.hok hn ⟨z, its, n, r, e⟩) J.bare fun b hb => ?_
  obtain ⟨_, f1, _, f3, f4, f5⟩ := hf b hb
  exact ⟨f3, f1, f4, f5⟩
end

/-! ### the loop -/
section
variable {prog : Program} {w : World} {A : Around} {R : Result → Shared → Prop} {s : Shared}
theorem codeAny_compLoop_go {elt target iter : Expr} {ifs : List Expr} {scope : Scope} {pos : Pos} {it acc : Value} {env : Env} (I : Nat → Shared → Prop)
    (turn : ∀ n s, I n s → wpAny (model prog w) A (pyNext it) (fun r s₁ => match r with
      | none => R (.ok .next) s₁
      | some v => wpAny (model prog w) A (letOwnedTupleGo target it v) (fun _ s₁ => wpAny (model prog w) A (assign target env v) (fun _ s₂ =>
          wpAny (model prog w) A (forIn ifs true fun c r => if r = true then do let ok ← isTrue c env (eval c env); pure (ForInStep.yield ok) else pure (ForInStep.yield r)) (fun ok s₃ =>
            if ok = true then wpAny (model prog w) A (eval elt env) (fun x s₄ =>
              wpAny (model prog w) A (call (.builtin "list.append") [acc, x]) (fun _ s₅ => ∃ m, m < n ∧ I m s₅) (fun _ _ => False) s₄) (fun _ _ => False) s₃
            else ∃ m, m < n ∧ I m s₃) (fun _ _ => False) s₂) (fun _ _ => False) s₁) (fun _ _ => False) s₁) (fun _ _ => False) s)
    (n : Nat) (h : I n s) :
    codeAny (model prog w) A (.compLoop (.ListComp elt [⟨target, iter, ifs, 0⟩] scope pos) 0 it acc env) R s := by
  refine codeAny_loop rfl I (fun n s hI => ?_) n h
  show wpAny _ A ((compTurn (.ListComp elt [⟨target, iter, ifs, 0⟩] scope pos) 0 it acc env).onRaise (fun x => do noteFrame x env; theTreesLotGoes x)) _ _ s
  refine wpAny_noted ?_
  rw [compTurn_list]
  have F : ∀ {P : Value → Shared → Prop} (a : Value) (s : Shared), False → P a s := fun _ _ z => z.elim
  refine wpAny_bind (wpAny_standAt (wpAny_bind (wpAny_mono (turn n s hI) (fun r s₁ h₁ => ?_) F)))
  cases r with
  | none => exact wpAny_pure h₁
  | some v =>
    refine wpAny_bind (wpAny_mono h₁ (fun _ s₁' h₁' => ?_) F)
    refine wpAny_bind (wpAny_mono h₁' (fun _ s₂ h₂ => wpAny_bind (wpAny_mono h₂ (fun ok s₃ h₃ => ?_) F)) F)
    cases ok with
    | false => exact wpAny_pure ⟨rfl, h₃⟩
    | true =>
      simp only [if_true] at h₃ ⊢
      exact wpAny_bind (wpAny_bind (wpAny_mono h₃ (fun x s₄ h₄ => wpAny_bind (wpAny_mono h₄ (fun _ s₅ h₅ => wpAny_pure (wpAny_pure ⟨rfl, h₅⟩)) F)) F))
end

/-- W is the invariant by the turn, a measure, the items so far and the heap -/
def LCw (js : List Nat) (σ : St) (tc : TT) (te : TE) (Q : VK) (J : It) (H1 : Hp) : Prop := ∃ W : Nat → Nat → List V → Hp → Prop, (∃ m, W 0 m [] H1) ∧ ∀ i m ys H, W i m ys H →
  (J.stop i H ∧ ys.length ≤ sizeLine ∧ ∀ p, H p = none → Q (.ref p) (upd H p (.lst ys))) ∨
  (J.go i H ∧ ys.length < sizeLine ∧ ∃ N : List V → Hp → Prop, (∀ ys' H', N ys' H' → ∃ m', m' < m ∧ W (i + 1) m' ys' H') ∧
    ∀ x H', J.yld i H x H' → tc (innerO js σ (some x)) H' fun b H2 => if b = true then te (innerO js σ (some x)) H2 fun y H3 => N (ys ++ [y]) H3 else N ys H2)
/-- the reading of a list comprehension -/
def tLC (js : List Nat) (wi : TI) (tc : TT) (te : TE) : TE := fun σ H Q => wi σ H (LCw js σ tc te Q)

section
variable {X : Cx} {elt iter : Expr} {x : Str} {px pos : Pos} {ifs : List Expr} {scope : Scope} {ys : List Str} {js : List Nat} {wi : TI} {tc : TT} {te : TE}
/-- the block: RR is what is wanted behind it -/
theorem comp_block {pins : List (Addr × Obj)} {σ : St} {H : Hp} {s : Shared} {it : Addr} {fp : List Addr} {tn : Nat → Heap → Prop} {J : It} {E : Value → Shared → Prop} {Q : VK} {RR : Value → Addr → Result → Shared → Prop}
    (S : CompSc X.env.scope scope X.N x ys js) (hc : X.calm = true) (hcs : ∀ C s H fp, PCs (cxComp X scope C (x :: ys) s H fp) ifs tc) (he : ∀ C s H fp, PE (cxComp X scope C (x :: ys) s H fp) elt te)
    (I : Inv X pins σ H s) (T : Turn X.prog X.w X.K (.Name x px) J fp it tn) (st : tn 0 s.heap) (hf : ∀ b ∈ fp, FpOk X pins H b)
    (hW : LCw js σ tc te Q J H)
    (hRR : ∀ (D C : Addr) (H' : Hp) (m : Str → Option Value) (s' : Shared), s.heap.objs.size ≤ C → H' C = none → Inv X pins σ H' s' → s'.heap.Ns C m → Q (.ref D) H' → RR (.ref D) C (.ok .next) s') :
    wpAny (model X.prog X.w) X.A (newList []) (fun acc s₃ => wpAny (model X.prog X.w) X.A (newFunctionEnv scope X.env.globals (clOf scope X.env) [] X.env.qual none .none (some X.env)) (fun cenv s₄ =>
      codeAny (model X.prog X.w) X.A (.compStart (.ListComp elt [⟨.Name x px, iter, ifs, 0⟩] scope pos) 0 (.ref it) acc { cenv with scope := relabel scope X.env }) (RR acc cenv.locals) s₄) E s₃) E s := by
  obtain ⟨W, ⟨m0, w0⟩, turn⟩ := hW
  have hl : ∀ b ∈ fp, b < s.heap.objs.size := fun b hb => let ⟨o, e, _⟩ := T.obj 0 _ st b hb; Heap.lt_size e
  refine wpAny_newObj_type (wpAny_newFunctionEnv S.cell (by intro y hy; simp at hy) (fun h₁ hns₁ hsb₁ => ?_) S.kind)
  dsimp only at hns₁ hsb₁ ⊢
  generalize hH2 : s.heap.push { cls := .type "list", dict := none, data := .seq ([] : List Value).toArray } = H2 at hns₁ hsb₁ ⊢
  have hC : H2.objs.size = s.heap.objs.size + 1 := by rw [← hH2, Heap.size_push]
  have hDC : s.heap.objs.size ≠ H2.objs.size := by rw [hC]; exact Nat.ne_of_lt (Nat.lt_succ_self _)
  have hCle : s.heap.objs.size ≤ H2.objs.size := by rw [hC]; exact Nat.le_succ _
  have old : ∀ b o, s.heap.get? b = some o → h₁.get? b = some o := fun b o e => hsb₁.extBut b o (by rw [hC]; exact Nat.ne_of_lt (Nat.lt_succ_of_lt (Heap.lt_size e))) (Heap.get?_push_of_some _ (hH2 ▸ Heap.get?_push_of_some _ e))
  have hacc : h₁.get? s.heap.objs.size = some { cls := .type "list", data := .seq ([] : List Value).toArray 0 } := hsb₁.extBut _ _ hDC (Heap.get?_push_of_some _ (hH2 ▸ Heap.get?_push_size _ rfl))
  have hDn : H s.heap.objs.size = none := I.hok.fresh (Nat.le_refl _)
  have J0 : Inv (cxComp X scope H2.objs.size (x :: ys) s H fp) [] (innerO js σ none) H { s with heap := h₁, toks := s.toks + ([] : List (Str × Value)).length } := comp_start I S hc hCle hf hl old hns₁
  have hDfs : s.heap.objs.size ∉ (cxComp X scope H2.objs.size (x :: ys) s H fp).fs := fun hb => by
    rcases List.mem_cons.mp (I.stkSub _ hb) with e | e
    · exact absurd I.lt (by rw [← e]; exact Nat.lt_irrefl _)
    · exact I.nofs (Nat.le_refl _) e
  have st1 : tn 0 h₁ := T.keep _ _ _ st fun b _ o e => old b o e
  -- the list's object as a pin
  let lob : List Value → Nat → Obj := fun its n => { cls := .type "list", data := .seq its.toArray n }
  have pinD : ∀ {σ' : St} {H' : Hp} {s' : Shared} {its : List Value} {n : Nat}, Inv (cxComp X scope H2.objs.size (x :: ys) s H fp) [] σ' H' s' → s'.heap.get? s.heap.objs.size = some (lob its n) → H' s.heap.objs.size = none →
      Inv (cxComp X scope H2.objs.size (x :: ys) s H fp) [(s.heap.objs.size, lob its n)] σ' H' s' := fun {σ' H' s' its n} K e hn => K.pins_of fun p hp => by
    have ep : p = (s.heap.objs.size, lob its n) := by simpa using hp
    subst ep
    exact ⟨e, hn, hDC, hDfs, fun v z => by cases z⟩
  have fpok : ∀ {H' : Hp} {pn : List (Addr × Obj)}, (∀ b ∈ fp, H' b = none) → (∀ p ∈ pn, p.1 = s.heap.objs.size) → ∀ b ∈ fp, FpOk (cxComp X scope H2.objs.size (x :: ys) s H fp) pn H' b := fun {H' pn} hn hp b hb => by
    refine ⟨hn b hb, Nat.ne_of_lt (Nat.lt_of_lt_of_le (hl b hb) hCle), (comp_ok I S hc hCle hf hl).exfs b hb, .inl hb, (comp_ok I S hc hCle hf hl).exf b hb |>.2, fun p hpp z => ?_⟩
    have := hp p hpp
    rw [this] at z
    exact absurd (hl b hb) (by rw [← z]; exact Nat.lt_irrefl _)
  have loop : ∀ s₃ : Shared, s₃ = { s with heap := h₁, toks := s.toks + ([] : List (Str × Value)).length } →
      codeAny (model X.prog X.w) X.A (.compLoop (.ListComp elt [⟨.Name x px, iter, ifs, 0⟩] scope pos) 0 (.ref it) (.ref s.heap.objs.size) (compEnvC scope (clOf scope X.env) H2.objs.size X.env)) (RR (.ref s.heap.objs.size) H2.objs.size) s₃ := by
    rintro s₃ rfl
    refine codeAny_compLoop_go (fun n s' => ∃ i o H' zs its k, Inv (cxComp X scope H2.objs.size (x :: ys) s H fp) [(s.heap.objs.size, lob its k)] (innerO js σ o) H' s' ∧ tn i s'.heap ∧ (∀ b ∈ fp, H' b = none) ∧ Vals zs its ∧ W i n zs H') ?_ m0
      ⟨0, none, H, [], [], 0, pinD J0 hacc hDn, st1, fun b hb => (hf b hb).1, .nil, w0⟩
    rintro n s3 ⟨i, o, H3, zs, its, k, I3, st3, fr3, rz, w3⟩
    have onlyD : ∀ p ∈ [(s.heap.objs.size, lob its k)], p.1 = s.heap.objs.size := fun p hp => by
      have ep : p = (s.heap.objs.size, lob its k) := by simpa using hp
      rw [ep]
    rcases turn i n zs H3 w3 with ⟨stop, hz, qn⟩ | ⟨go, hz, N, hN, step⟩
    · refine thn (T.done (cxComp X scope H2.objs.size (x :: ys) s H fp) rfl rfl rfl rfl i _ s3 _ H3 (fun _ _ => False) I3 (fpok fr3 onlyD) st3 stop) fun r s4 ⟨hr, I4⟩ => ?_
      subst hr
      obtain ⟨e4, n4, _⟩ := I4.pin (s.heap.objs.size, lob its k) (List.mem_append_right _ (by simp))
      obtain ⟨m4, hm4, _⟩ := I4.loc
      exact hRR _ _ _ _ s4 hCle (by rw [upd_ne (Ne.symm hDC)]; exact I4.free) (comp_end I hf I4 (Nat.le_refl _) n4 e4 rz hz) hm4 (qn _ n4)
    · refine thn (T.item (cxComp X scope H2.objs.size (x :: ys) s H fp) rfl rfl rfl rfl i _ s3 _ H3 (fun _ _ => False) I3 (fpok fr3 onlyD) st3 go) fun r s4 ⟨u, hr, h4⟩ => ?_
      subst hr
      refine thn h4 fun _ s5 ⟨v, H5, I5, r5, y5, st5, fr5⟩ => ?_
      have I5' := I5.pinned (fpok fr5 onlyD) (T.obj _ _ st5)
      have hx : Loc (cxComp X scope H2.objs.size (x :: ys) s H fp).env.scope x := .inl (lookup_relabel_local S.xl)
      refine thn (pg_name (i := 0) (X := cxComp X scope H2.objs.size (x :: ys) s H fp) S.nd rfl hx (.inr (lookup_relabel_local S.xl)) _ s5 _ H5 v u (fun σ6 H6 => σ6 = innerO js σ (some v) ∧ H6 = H5) I5' r5 ⟨rfl, rfl⟩) fun _ s6 ⟨σ6, H6, I6, e6, eH6⟩ => ?_
      subst e6 eH6
      refine thn (hcs _ _ _ _ _ s6 _ _ _ I6 (step v _ y5)) fun ok s7 ⟨H7, I7, q7⟩ => ?_
      have keepD : ∀ {σ' : St} {H' : Hp} {s' : Shared}, Inv (cxComp X scope H2.objs.size (x :: ys) s H fp) ([(s.heap.objs.size, lob its k)] ++ pinsAt fp s5.heap) σ' H' s' →
          (s'.heap.get? s.heap.objs.size = some (lob its k) ∧ H' s.heap.objs.size = none) ∧ tn (i + 1) s'.heap ∧ ∀ b ∈ fp, H' b = none := fun {σ' H' s'} K => by
        obtain ⟨e1, n1, _⟩ := K.pin (s.heap.objs.size, lob its k) (List.mem_append_right _ (by simp))
        refine ⟨⟨e1, n1⟩, T.keep _ _ _ st5 fun b hb o e => (K.pin (b, o) (List.mem_append_right _ (List.mem_append_right _ (mem_pinsAt hb e)))).1, fun b hb => ?_⟩
        obtain ⟨o, e, d⟩ := T.obj _ _ st5 b hb
        exact (K.pin (b, o) (List.mem_append_right _ (List.mem_append_right _ (mem_pinsAt hb e)))).2.1
      cases ok with
      | false =>
        obtain ⟨m', hm, w7⟩ := hN _ _ (show N zs H7 from q7)
        obtain ⟨⟨e1, n1⟩, tn7, fr7⟩ := keepD I7
        exact ⟨m', hm, i + 1, some v, H7, zs, its, k, I7.unpinned, tn7, fr7, rz, w7⟩
      | true =>
        simp only [if_true] at q7 ⊢
        refine thn (he _ _ _ _ _ s7 _ H7 _ I7 q7) fun y s8 ⟨yv, H8, I8, r8, q8⟩ => ?_
        obtain ⟨⟨e8, n8⟩, tn8, fr8⟩ := keepD I8
        refine wpAny_list_append_plain (items := its.toArray) ⟨k, e8⟩ (fun h9 hpl hsb => ?_) (by have := rz.length; simp only [List.size_toArray]; omega)
        obtain ⟨k9, e9⟩ := hpl
        have e9' : h9.get? s.heap.objs.size = some (lob (its ++ [y]) k9) := by rw [e9]; simp [lob]
        have I8' : Inv (cxComp X scope H2.objs.size (x :: ys) s H fp) [] (innerO js σ (some v)) H8 s8 := I8.pins_of fun p hp => absurd hp (by simp)
        have I9 : Inv (cxComp X scope H2.objs.size (x :: ys) s H fp) [] (innerO js σ (some v)) H8 { s8 with heap := h9 } :=
          I8'.turned (t' := s8.toks) (it := s.heap.objs.size) (fun b o hb e => hsb.extBut b o hb e) n8 hDC (.inr (Nat.le_refl _)) (fun y c e z => by
            have := I8'.freeC y c e
            obtain ⟨v', ob, ho, hd⟩ := I8'.cell y c e
            rw [z, e8] at ho
            cases ho
            cases hd) (fun p hp => absurd (show p ∈ ([] : List (Addr × Obj)) from hp) (by simp))
        obtain ⟨m', hm, w9⟩ := hN _ _ q8
        refine ⟨m', hm, i + 1, some v, H8, zs ++ [yv], its ++ [y], k9, pinD I9 e9' n8, ?_, fr8, rz.append (.cons r8 .nil), w9⟩
        exact T.keep _ _ _ tn8 fun b hb o e => hsb.extBut b o (Nat.ne_of_lt (hl b hb)) e
  exact codeAny_compStart_list (loop _ rfl) (T.self _ 0 _ _ _ st1 (loop _ rfl))

theorem pe_lc (S : CompSc X.env.scope scope X.N x ys js) (hc : X.calm = true) (hi : PI X (.Name x px) iter wi) (hcs : ∀ C s H fp, PCs (cxComp X scope C (x :: ys) s H fp) ifs tc) (he : ∀ C s H fp, PE (cxComp X scope C (x :: ys) s H fp) elt te)
    (hs : ∀ x, foldedSetIterable iter X.env x = pure x := by intro _; rfl) : PE X (.ListComp elt [⟨.Name x px, iter, ifs, 0⟩] scope pos) (tLC js wi tc te) := by
  intro pins s σ H Q I h
  have hclos : closureFor scope X.env = pure (clOf scope X.env) := closure_eq fun p hp e => I.ok.has p.1 (S.free p hp e)
  rw [eval_ListComp]
  refine wpAny_comprehension_free (use := none) rfl hs hclos S.kind S.names (thn (hi pins s σ H _ I h) fun xv s₁ h₁ => thn h₁ fun itv s₂ h₂ => ?_)
  obtain ⟨it, fp, tn, J, H2, e, I2, T, st2, f2, hW⟩ := h₂
  subst e
  refine comp_block (RR := fun acc C => compPost (model X.prog X.w) X.A X.xe none (EP X pins σ Q) acc C) S hc hcs he I2 T st2 f2 hW ?_
  intro D C H' m s' hC hCn I' hm q
  refine ⟨m, hm, fun h' hsb => ⟨.ref D, H', ?_, rfl, q⟩⟩
  exact I'.turned (t' := s'.toks) (it := C) (fun b o hb e => hsb.extBut b o hb e) hCn (Nat.ne_of_gt (Nat.lt_of_lt_of_le I2.lt hC)) (.inr (Nat.le_trans I2.sz hC)) (fun y c e z => by
    obtain ⟨v', q'⟩ := I2.cell y c e
    exact absurd (Nat.lt_of_lt_of_le q'.lt (by rw [z]; exact hC)) (Nat.lt_irrefl _)) (fun p hp z => absurd (Nat.lt_of_lt_of_le (Heap.lt_size (I2.pin p hp).1) (by rw [z]; exact hC)) (Nat.lt_irrefl _))

/-- name = [.. for ..] -/
theorem ps_setlc {i : Nat} {y : Str} {py spos : Pos} (hN : X.N.Nodup) (hiy : X.N[i]? = some y) (hy : Loc X.env.scope y) (S : CompSc X.env.scope scope X.N x ys js) (hc : X.calm = true) (hi : PI X (.Name x px) iter wi) (hcs : ∀ C s H fp, PCs (cxComp X scope C (x :: ys) s H fp) ifs tc)
    (he : ∀ C s H fp, PE (cxComp X scope C (x :: ys) s H fp) elt te) (hsw : swapsWith (.ListComp elt [⟨.Name x px, iter, ifs, 0⟩] scope pos) (some (.Name y py)) spos.line X.env = pure true := by rfl)
    (hf : X.fn y = true ∨ X.env.scope.names.lookup y = some .local := by first | exact .inl rfl | exact .inr rfl | assumption) (hs : ∀ x, foldedSetIterable iter X.env x = pure x := by intro _; rfl) :
    PS X (.Assign [.Name y py] (.ListComp elt [⟨.Name x px, iter, ifs, 0⟩] scope pos) spos) (tAsg (tLC js wi tc te) (gName i)) := by
  intro pins s σ H D I h
  have hclos : closureFor scope X.env = pure (clOf scope X.env) := closure_eq fun p hp e => I.ok.has p.1 (S.free p hp e)
  rw [exec_Assign_Name_used _ _ _ _ hsw]
  refine wpAny_bind (wpAny_standAt (wpAny_bind ?_))
  show wpAny _ X.A (do let _ ← comprehension (.ListComp elt [⟨.Name x px, iter, ifs, 0⟩] scope pos) scope X.env _ (newList []) false (eval iter X.env) (some (assign (.Name y py) X.env))) _ _ s
  refine wpAny_bind (wpAny_mono (wpAny_comprehension_free (use := some (assign (.Name y py) X.env)) (Q := fun _ s' => SP X pins D .next s') rfl hs hclos S.kind S.names
    (thn (hi pins s σ H _ I h) fun xv s₁ h₁ => thn h₁ fun itv s₂ h₂ => ?_)) (fun _ s' hq => wpAny_pure (wpAny_pure hq)) fun _ _ e => e)
  obtain ⟨it, fp, tn, J, H2, e, I2, T, st2, f2, hW⟩ := h₂
  subst e
  refine comp_block (Q := fun v H' => gName i v σ H' D.nx) (RR := fun acc C => compPost (model X.prog X.w) X.A X.xe (some (assign (.Name y py) X.env)) (fun _ s' => SP X pins D .next s') acc C) S hc hcs he I2 T st2 f2 hW ?_
  intro Da C H' m s' hC hCn I' hm q
  have neC : ∀ z c, X.env.cells.lookup z = some c → c ≠ C := fun z c e w => by
    obtain ⟨v', q'⟩ := I2.cell z c e
    exact absurd (Nat.lt_of_lt_of_le q'.lt (by rw [w]; exact hC)) (Nat.lt_irrefl _)
  have neL : C ≠ X.env.locals := Nat.ne_of_gt (Nat.lt_of_lt_of_le I2.lt hC)
  show wpAny _ X.A (assign (.Name y py) X.env (.ref Da)) _ _ _
  refine wpAny_assign_Name (store_ok2 (v := .ref Da) I' hN hiy hy rfl (fun s'' I'' hch => ?_) hf)
  obtain ⟨a, hsa, ha⟩ := hch
  have aC : C ≠ a := by
    rcases ha with e | e
    · rw [e]; exact neL
    · exact fun w => neC _ _ e w.symm
  refine ⟨m, hm.sameBut hsa aC, fun h' hsb => ?_⟩
  refine ⟨_, H', I''.turned (t' := s''.toks) (it := C) (fun b o hb e => hsb.extBut b o hb e) hCn neL (.inr (Nat.le_trans I2.sz hC)) neC (fun p hp z => absurd (Nat.lt_of_lt_of_le (Heap.lt_size (I2.pin p hp).1) (by rw [z]; exact hC)) (Nat.lt_irrefl _)), q⟩
end

/-! ### the forms one uses -/
theorem lc_list {K : PySem.W.Frag} {a : Addr} {xs : List V} {js : List Nat} {tc : TT} {te : TE} {σ : St} {H : Hp} {Q : VK} (Pv : Nat → List V → Hp → Prop) (h0 : Pv 0 [] H) (hl : ∀ i ys H, i ≤ xs.length → Pv i ys H → SqL K H a xs ∧ ys.length ≤ i) (hz : xs.length ≤ sizeLine)
    (hs : ∀ i x ys H, xs[i]? = some x → Pv i ys H → tc (innerO js σ (some x)) H fun b H2 => if b = true then te (innerO js σ (some x)) H2 fun y H3 => Pv (i + 1) (ys ++ [y]) H3 else Pv (i + 1) ys H2)
    (hd : ∀ ys H, Pv xs.length ys H → ∀ p, H p = none → Q (.ref p) (upd H p (.lst ys))) :
    LCw js σ tc te Q (Itl K a) H := by
  refine ⟨fun i m ys H => m = xs.length - i ∧ i ≤ xs.length ∧ Pv i ys H, ⟨xs.length, by simp, Nat.zero_le _, h0⟩, ?_⟩
  rintro i m ys H ⟨rfl, hi, p⟩
  obtain ⟨q, hy⟩ := hl i ys H hi p
  by_cases hlt : i < xs.length
  · refine .inr ⟨⟨xs, xs[i], q, by simp [hlt]⟩, by omega, Pv (i + 1), fun ys' H' p' => ⟨xs.length - (i + 1), by omega, rfl, hlt, p'⟩, fun x H' y => ?_⟩
    obtain ⟨e, y⟩ := y
    subst e
    exact hs i x ys _ (y xs q) p
  · have e : i = xs.length := by omega
    subst e
    exact .inl ⟨⟨xs, q, Nat.le_refl _⟩, by omega, hd ys H p⟩
theorem lc_tup {K : PySem.W.Frag} {a : Addr} {xs : List V} {js : List Nat} {tc : TT} {te : TE} {σ : St} {H : Hp} {Q : VK} (Pv : Nat → List V → Hp → Prop) (h0 : Pv 0 [] H) (hl : ∀ i ys H, i ≤ xs.length → Pv i ys H → SqT K H a xs ∧ ys.length ≤ i) (hz : xs.length ≤ sizeLine)
    (hs : ∀ i x ys H, xs[i]? = some x → Pv i ys H → tc (innerO js σ (some x)) H fun b H2 => if b = true then te (innerO js σ (some x)) H2 fun y H3 => Pv (i + 1) (ys ++ [y]) H3 else Pv (i + 1) ys H2)
    (hd : ∀ ys H, Pv xs.length ys H → ∀ p, H p = none → Q (.ref p) (upd H p (.lst ys))) :
    LCw js σ tc te Q (Itt K a) H := by
  refine ⟨fun i m ys H => m = xs.length - i ∧ i ≤ xs.length ∧ Pv i ys H, ⟨xs.length, by simp, Nat.zero_le _, h0⟩, ?_⟩
  rintro i m ys H ⟨rfl, hi, p⟩
  obtain ⟨q, hy⟩ := hl i ys H hi p
  by_cases hlt : i < xs.length
  · refine .inr ⟨⟨xs, xs[i], q, by simp [hlt]⟩, by omega, Pv (i + 1), fun ys' H' p' => ⟨xs.length - (i + 1), by omega, rfl, hlt, p'⟩, fun x H' y => ?_⟩
    obtain ⟨e, y⟩ := y
    subst e
    exact hs i x ys _ (y xs q) p
  · have e : i = xs.length := by omega
    subst e
    exact .inl ⟨⟨xs, q, Nat.le_refl _⟩, by omega, hd ys H p⟩
end L2
/-! My own rules over the hand layer, second part: built-ins. -/
namespace L2
open PySem PySem.Spec PyProof.Rows
section
variable {X : Cx}

theorem bt_len : bootBuiltins "len" = some (.builtin "len") := by decide +kernel
theorem bt_int : bootBuiltins "int" = some (.type "int") := by decide +kernel
theorem bt_bool : bootBuiltins "bool" = some (.type "bool") := by decide +kernel
theorem bt_str : bootBuiltins "str" = some (.type "str") := by decide +kernel
theorem bt_list : bootBuiltins "list" = some (.type "list") := by decide +kernel
theorem bt_dict : bootBuiltins "dict" = some (.type "dict") := by decide +kernel
theorem bt_tuple : bootBuiltins "tuple" = some (.type "tuple") := by decide +kernel
theorem bt_set : bootBuiltins "set" = some (.type "set") := by decide +kernel
theorem bt_range : bootBuiltins "range" = some (.type "range") := by decide +kernel
theorem bt_isinstance : bootBuiltins "isinstance" = some (.builtin "isinstance") := by decide +kernel
theorem bt_max : bootBuiltins "max" = some (.builtin "max") := by decide +kernel
theorem bt_min : bootBuiltins "min" = some (.builtin "min") := by decide +kernel
theorem bt_zip : bootBuiltins "zip" = some (.type "zip") := by decide +kernel
theorem bt_reversed : bootBuiltins "reversed" = some (.type "reversed") := by decide +kernel
theorem bt_sorted : bootBuiltins "sorted" = some (.builtin "sorted") := by decide +kernel
theorem bt_all : bootBuiltins "all" = some (.builtin "all") := by decide +kernel

/-! ### a walk over a list or a tuple -/
def iSeq (K : PySem.W.Frag) (tl : TE) : TI := fun σ H R => tl σ H fun x H1 => ∃ a, x = .ref a ∧ (((∃ xs, SqL K H1 a xs) ∧ R (Itl K a) H1) ∨ ((∃ xs, SqT K H1 a xs) ∧ R (Itt K a) H1))
theorem pi_seq {tg l : Expr} {tl : TE} (hl : PE X l tl) : PI X tg l (iSeq X.K tl) := by
  intro pins s σ H R I h
  refine thn (hl pins s σ H _ I h) fun v s1 ⟨x, H1, I1, r1, q1⟩ => ?_
  obtain ⟨a, e, ⟨⟨xs, hq⟩, q⟩ | ⟨⟨xs, hq⟩, q⟩⟩ := q1
  · subst e
    cases r1
    obtain ⟨its, rv, p, hz⟩ := I1.list hq
    refine wpAny_pyIter_list p.isList ?_
    refine ⟨s1.heap.objs.size, [s1.heap.objs.size], _, _, H1, rfl, I1.kept (t' := s1.toks) fun b o e => Heap.get?_push_of_some _ e, turn_list a _, ⟨_, Heap.get?_push_size _ rfl, rfl, rfl⟩, fun b hb => ?_, q⟩
    have e : b = s1.heap.objs.size := by simpa using hb
    subst e
    exact I1.fpOk (Nat.le_refl _) (I1.hok.fresh (Nat.le_refl _))
  · subst e
    cases r1
    obtain ⟨its, rv, p, hz⟩ := I1.tuple hq
    refine wpAny_pyIter_tuple (show s1.heap.IsTuple a its.toArray from p) ?_
    refine ⟨s1.heap.objs.size, [s1.heap.objs.size], _, _, H1, rfl, I1.kept (t' := s1.toks) fun b o e => Heap.get?_push_of_some _ e, turn_tuple a _, ⟨_, Heap.get?_push_size _ rfl, rfl, rfl⟩, fun b hb => ?_, q⟩
    have e : b = s1.heap.objs.size := by simpa using hb
    subst e
    exact I1.fpOk (Nat.le_refl _) (I1.hok.fresh (Nat.le_refl _))

/-! ### the same rules by the name of the written part: within a comprehension -/
theorem ix_tupK {K : PySem.W.Frag} (h : X.K = K) : IxR X (rIxT K) := h ▸ ix_tup
theorem ix_listK {K : PySem.W.Frag} (h : X.K = K) : IxR X (rIxL K) := h ▸ ix_list
theorem op_in_seqK {K : PySem.W.Frag} (h : X.K = K) : OpR X (compareOp .In) (rIn K false) := h ▸ op_in_seq
theorem op_notIn_seqK {K : PySem.W.Frag} (h : X.K = K) : OpR X (compareOp .NotIn) (rIn K true) := h ▸ op_notIn_seq

/-! ### all(a list of bools) -/
theorem all_at (bs : List Bool) (tr : Nat → Bool) (h : ∀ i b, bs[i]? = some b → tr i = b) : (List.range bs.length).all tr = bs.all id := by
  rw [Bool.eq_iff_iff, List.all_eq_true, List.all_eq_true]
  constructor
  · intro q b hb
    obtain ⟨i, hi⟩ := List.mem_iff_getElem?.mp hb
    have hl : i < bs.length := (List.getElem?_eq_some_iff.mp hi).1
    have e := q i (List.mem_range.mpr hl)
    rw [h i b hi] at e
    exact e
  · intro q i hi
    have hl := List.mem_range.mp hi
    have e : bs[i]? = some bs[i] := List.getElem?_eq_getElem hl
    rw [h i _ e]
    exact q _ (List.getElem_mem hl)
theorem call_all (hc : X.calm = true) : CallR X (.builtin "all") (fun xs H Q => ∃ (p : Addr) (bs : List Bool), xs = [.ref p] ∧ SqL X.K H p (bs.map V.bl) ∧ Q (.bl (bs.all id)) H) := by
  intro pins s σ H xs us Q I r h
  obtain ⟨p, bs, rfl, hq, q⟩ := h
  obtain ⟨u, rfl, rx⟩ := vals1 r
  cases rx
  obtain ⟨its, rv, pl, hz⟩ := I.list hq
  have hlen : bs.length = its.length := by have := rv.length; rwa [List.length_map] at this
  have hv : ∀ (i : Nat) (v : Value), its[i]? = some v → ∃ b, bs[i]? = some b ∧ v = .bool b := fun i v e => by
    have hi : i < bs.length := by rw [hlen]; exact (List.getElem?_eq_some_iff.mp e).1
    have e1 : (bs.map V.bl)[i]? = some (.bl bs[i]) := by rw [List.getElem?_map, List.getElem?_eq_getElem hi]; rfl
    obtain ⟨u, hu, ru⟩ := rv.get e1
    rw [e] at hu; cases hu
    exact ⟨bs[i], List.getElem?_eq_getElem hi, ru⟩
  have hp : p < s.heap.objs.size := let ⟨_, ho, _⟩ := pl.isList; Heap.lt_size ho
  refine call_all_walk (wpAny_pyIter_list pl.isList ?_)
  refine ⟨s.heap.objs.size, _, _, _, _, _, fun i => bs.getD i false, rfl, Walks.list (A := X.A.in1) (I.ok.hd hc) s.heap.objs.size p (Nat.ne_of_lt hp) its.toArray, ⟨⟨_, Heap.get?_push_size _ rfl, rfl, rfl⟩, pl.isList.at fun o e => Heap.get?_push_of_some _ e⟩, ?_, fun h' tk hk => ?_⟩
  · intro i v s Q E hP hQ
    have hP' : its[i]? = some v := by simpa using hP
    obtain ⟨b, hb, rfl⟩ := hv i v hP'
    have e : bs.getD i false = b := by rw [List.getD_eq_getElem?_getD, hb]; rfl
    have hQ' : Q (bs.getD i false) s := hQ
    rw [e] at hQ'
    exact wpAny_truthy_bool hQ'
  · have e : (List.range its.toArray.size).all (fun i => bs.getD i false) = bs.all id := by
      rw [List.size_toArray, ← hlen]
      exact all_at bs _ fun i b hb => by rw [List.getD_eq_getElem?_getD, hb]; rfl
    rw [e]
    refine ⟨.bl _, H, I.kept (h' := h') (t' := tk) fun b o hb => hk b o ?_ (Heap.get?_push_of_some _ hb), rfl, q⟩
    intro z
    have z' : b = s.heap.objs.size := by simpa using z
    exact absurd (Heap.lt_size hb) (by rw [z']; exact Nat.lt_irrefl _)

/-! ### isinstance(x, a built-in type) -/
theorem call_isi : CallR X (.builtin "isinstance") (fun xs H Q => ∃ (x : V) (n : String) (t : Value) (b : Bool), xs = [x, .ty n] ∧ TyOf X.K H x t ∧ PySem.W.kitOne X.K t (.type n) = some b ∧ Q (.bl b) H) := by
  intro pins s σ H xs us Q I r h
  obtain ⟨x, n, t, b, rfl, ty, e, q⟩ := h
  obtain ⟨u, u2, rfl, rx, r2⟩ := vals2 r
  cases r2
  exact isinst_ok I rx ty e fun tk => ⟨.bl b, H, I.tok _, rfl, q⟩

/-! ### == and != of two lists of ints -/
theorem int_at {ns : List Int} {its : List Value} (r : Vals (ns.map V.int) its) {j : Nat} (h : j < its.length) : ∃ n t, ns[j]? = some n ∧ its[j] = .int n t := by
  have hl := r.length
  rw [List.length_map] at hl
  have hj : j < ns.length := by omega
  have e1 : (ns.map V.int)[j]? = some (.int ns[j]) := by rw [List.getElem?_map, List.getElem?_eq_getElem hj]; rfl
  obtain ⟨u, hu, t, rfl⟩ := r.get e1
  rw [List.getElem?_eq_getElem h] at hu
  exact ⟨ns[j], t, List.getElem?_eq_getElem hj, Option.some.inj hu⟩
theorem all_range_eq {ns ms : List Int} (hl : ns.length = ms.length) : (List.range ns.length).all (fun j => ns.getD j 0 == ms.getD j 0) = decide (ns = ms) := by
  rw [Bool.eq_iff_iff, List.all_eq_true, decide_eq_true_iff]
  constructor
  · intro q
    refine List.ext_getElem hl fun j h1 h2 => ?_
    have e := q j (List.mem_range.mpr h1)
    rw [beq_iff_eq, List.getD_eq_getElem?_getD, List.getD_eq_getElem?_getD, List.getElem?_eq_getElem h1, List.getElem?_eq_getElem h2] at e
    exact e
  · rintro rfl j _
    exact beq_self_eq_true _
def rEqL (K : PySem.W.Frag) (neg : Bool) : R2 := fun x y H Q => ∃ (p q : Addr) (ns ms : List Int), x = .ref p ∧ y = .ref q ∧ SqL K H p (ns.map V.int) ∧ SqL K H q (ms.map V.int) ∧ Q (.bl (if neg then !decide (ns = ms) else decide (ns = ms))) H
theorem eqAt_ints {A : Around} {s : Shared} {ns ms : List Int} {its its2 : List Value} (r : Vals (ns.map V.int) its) (r2 : Vals (ms.map V.int) its2) :
    ∀ j (h1 : j < its.toArray.size) (h2 : j < its2.toArray.size), SeqAt.EqAt A s its.toArray[j] its2.toArray[j] (ns.getD j 0 == ms.getD j 0) := fun j h1 h2 => by
  obtain ⟨n, t, e, e'⟩ := int_at r (j := j) (by simpa using h1)
  obtain ⟨m, t2, e2, e2'⟩ := int_at r2 (j := j) (by simpa using h2)
  rw [List.getElem_toArray, List.getElem_toArray, e', e2', List.getD_eq_getElem?_getD, List.getD_eq_getElem?_getD, e, e2]
  exact SeqAt.EqAt.int_int n t m t2
theorem op_eqL (hu : X.A.units < cLine) : OpR X (compareOp .Eq) (rEqL X.K false) := by
  intro pins s σ H x y v u Q I rx ry h
  obtain ⟨p, q, ns, ms, rfl, rfl, h1, h2, hQ⟩ := h
  cases rx; cases ry
  obtain ⟨its, r, pl, hz⟩ := I.list h1
  obtain ⟨its2, r2, pl2, hz2⟩ := I.list h2
  have l1 := r.length; rw [List.length_map] at l1
  have l2 := r2.length; rw [List.length_map] at l2
  by_cases hl : ns.length = ms.length
  · refine SeqAt.eq_listAt (e := fun j => ns.getD j 0 == ms.getD j 0) pl.isList pl2.isList (by rw [List.size_toArray, List.size_toArray]; omega) hu (eqAt_ints r r2) ⟨.bl _, H, I, rfl, ?_⟩
    rw [List.size_toArray, ← l1, all_range_eq hl]
    exact hQ
  · have e : decide (ns = ms) = false := decide_eq_false fun z => hl (by rw [z])
    refine SeqAt.eq_list_lengthsAt pl.isList pl2.isList (by rw [List.size_toArray, List.size_toArray, ← l1, ← l2]; simpa using hl) hu ⟨.bl false, H, I, rfl, ?_⟩
    rw [e] at hQ; exact hQ
theorem op_neL (hu : X.A.units < cLine) : OpR X (compareOp .NotEq) (rEqL X.K true) := by
  intro pins s σ H x y v u Q I rx ry h
  obtain ⟨p, q, ns, ms, rfl, rfl, h1, h2, hQ⟩ := h
  cases rx; cases ry
  obtain ⟨its, r, pl, hz⟩ := I.list h1
  obtain ⟨its2, r2, pl2, hz2⟩ := I.list h2
  have l1 := r.length; rw [List.length_map] at l1
  have l2 := r2.length; rw [List.length_map] at l2
  by_cases hl : ns.length = ms.length
  · refine SeqAt.RcNeAt.lists (e := fun j => ns.getD j 0 == ms.getD j 0) pl.isList pl2.isList (by rw [List.size_toArray, List.size_toArray]; omega) hu (eqAt_ints r r2) X.prog X.w X.xe _ ⟨.bl _, H, I, rfl, ?_⟩
    rw [List.size_toArray, ← l1, all_range_eq hl]
    exact hQ
  · have e : decide (ns = ms) = false := decide_eq_false fun z => hl (by rw [z])
    refine SeqAt.RcNeAt.lists_lengths pl.isList pl2.isList (by rw [List.size_toArray, List.size_toArray, ← l1, ← l2]; simpa using hl) hu X.prog X.w X.xe _ ⟨.bl true, H, I, rfl, ?_⟩
    rw [e] at hQ; exact hQ

/-! ### tuples of ints: == and !=, in a list of such -/
def rEqT (K : PySem.W.Frag) (neg : Bool) : R2 := fun x y H Q => ∃ (p q : Addr) (ns ms : List Int), x = .ref p ∧ y = .ref q ∧ SqT K H p (ns.map V.int) ∧ SqT K H q (ms.map V.int) ∧ ns.length = ms.length ∧ Q (.bl (if neg then !decide (ns = ms) else decide (ns = ms))) H
theorem op_neT (hu : X.A.units < cLine) : OpR X (compareOp .NotEq) (rEqT X.K true) := by
  intro pins s σ H x y v u Q I rx ry h
  obtain ⟨p, q, ns, ms, rfl, rfl, h1, h2, hl, hQ⟩ := h
  cases rx; cases ry
  obtain ⟨its, r, pl, hz⟩ := I.tuple h1
  obtain ⟨its2, r2, pl2, hz2⟩ := I.tuple h2
  have l1 := r.length; rw [List.length_map] at l1
  have l2 := r2.length; rw [List.length_map] at l2
  refine SeqAt.RcNeAt.tuples (e := fun j => ns.getD j 0 == ms.getD j 0) pl pl2 hu (eqAt_ints r r2) X.prog X.w X.xe _ ⟨.bl _, H, I, rfl, ?_⟩
  have e1 : min its.toArray.size its2.toArray.size = ns.length := by rw [List.size_toArray, List.size_toArray]; omega
  have e2 : (its.toArray.size == its2.toArray.size) = true := by rw [List.size_toArray, List.size_toArray, beq_iff_eq]; omega
  rw [e1, e2, all_range_eq hl, Bool.and_true]
  exact hQ
/-- the tuples at as hold the lists kss -/
abbrev Tups (H : Hp) : List Addr → List (List Int) → Prop := Paired fun a ks => H a = some (.tup (ks.map V.int))
theorem Tups.mono {H H' : Hp} (s : ∀ b o, H b = some o → H' b = some o) {as : List Addr} {kss : List (List Int)} (t : Tups H as kss) : Tups H' as kss := Paired.mapP t fun _ _ e => s _ _ e
def eqTu (H : Hp) (ks : List Int) : Value → Bool
  | .ref b => match H b with
    | some (.tup vs) => decide (vs = ks.map V.int)
    | _ => false
  | _ => false
theorem map_int_inj : ∀ {a b : List Int}, a.map V.int = b.map V.int → a = b
  | [], [], _ => rfl
  | [], _ :: _, h => by cases h
  | _ :: _, [], h => by cases h
  | x :: a, y :: b, h => by
    injection h with h1 h2
    injection h1 with h1
    rw [h1, map_int_inj h2]
theorem tups_any {H : Hp} {ks : List Int} : ∀ {as : List Addr} {kss : List (List Int)} {its : List Value}, Tups H as kss → Vals (as.map V.ref) its → its.any (eqTu H ks) = decide (ks ∈ kss)
  | _, _, _, .nil, .nil => by simp
  | a :: as, k :: kss, u :: its, .cons e t, .cons r rs => by
    have ih := tups_any (ks := ks) t rs
    cases (show u = Value.ref a from r)
    have e1 : eqTu H ks (.ref a) = decide (ks = k) := by
      show (match H a with | some (.tup vs) => decide (vs = ks.map V.int) | _ => false) = _
      rw [e]
      show decide (k.map V.int = ks.map V.int) = decide (ks = k)
      exact decide_eq_decide.mpr ⟨fun z => (map_int_inj z).symm, fun z => by rw [z]⟩
    rw [List.any_cons, ih, e1]
    by_cases q : ks = k
    · simp [q]
    · simp [q]
theorem tups_eqAt {H : Hp} {ks : List Int} {pins : List (Addr × Obj)} {σ : St} {s : Shared} {a0 : Addr} {A : Around} (I : Inv X pins σ H s) (h0 : H a0 = some (.tup (ks.map V.int))) (hu : A.units < cLine) : ∀ {as : List Addr} {kss : List (List Int)} {its : List Value},
    Tups H as kss → (∀ k ∈ kss, k.length = ks.length) → Vals (as.map V.ref) its → ∀ u ∈ its, SeqAt.EqAt A s u (.ref a0) (eqTu H ks u)
  | _, _, _, .nil, _, .nil => fun u hu => by cases hu
  | a :: as, k :: kss, u :: its, .cons e t, hl, .cons r rs => fun u' hu' => by
    rcases List.mem_cons.mp hu' with rfl | hu'
    · cases (show u' = Value.ref a from r)
      have e1 : eqTu H ks (.ref a) = decide (k = ks) := by
        show (match H a with | some (.tup vs) => decide (vs = ks.map V.int) | _ => false) = _
        rw [e]
        show decide (k.map V.int = ks.map V.int) = decide (k = ks)
        exact decide_eq_decide.mpr ⟨fun z => map_int_inj z, fun z => by rw [z]⟩
      rw [e1]
      by_cases ea : a = a0
      · subst ea
        rw [h0] at e
        have z : k = ks := map_int_inj (HO.tup.inj (Option.some.inj e)).symm
        rw [decide_eq_true z]
        exact SeqAt.EqAt.same _
      · refine SeqAt.EqAt.of_refs ea ?_
        obtain ⟨i1, r1, p1, z1⟩ := I.tuple (SqT.of e)
        obtain ⟨i2, r2, p2, z2⟩ := I.tuple (SqT.of h0)
        have l1 := r1.length; rw [List.length_map] at l1
        have l2 := r2.length; rw [List.length_map] at l2
        have hl' : k.length = ks.length := hl k List.mem_cons_self
        have q := SeqAt.RcAt.tuples (A := A) (s := s) (e := fun j => k.getD j 0 == ks.getD j 0) p1 p2 hu (eqAt_ints r1 r2)
        have e1 : min i1.toArray.size i2.toArray.size = k.length := by rw [List.size_toArray, List.size_toArray]; omega
        have e2 : (i1.toArray.size == i2.toArray.size) = true := by rw [List.size_toArray, List.size_toArray, beq_iff_eq]; omega
        rw [e1, e2, all_range_eq hl', Bool.and_true] at q
        exact q
    · exact tups_eqAt I h0 hu t (fun k hk => hl k (List.mem_cons_of_mem _ hk)) rs u' hu'
def rInT (neg : Bool) : R2 := fun x y H Q => ∃ (a0 : Addr) (ks : List Int) (p : Addr) (as : List Addr) (kss : List (List Int)), x = .ref a0 ∧ y = .ref p ∧ H a0 = some (.tup (ks.map V.int)) ∧ H p = some (.lst (as.map V.ref)) ∧ Tups H as kss ∧ (∀ k ∈ kss, k.length = ks.length) ∧ Q (.bl (if neg then !decide (ks ∈ kss) else decide (ks ∈ kss))) H
theorem op_inT (hu : X.A.units + 1 < cLine) : OpR X (compareOp .In) (rInT false) := by
  intro pins s σ H x y v u Q I rx ry h
  obtain ⟨a0, ks, p, as, kss, rfl, rfl, h0, hp, t, hl, q⟩ := h
  cases rx; cases ry
  obtain ⟨its, r, pl, hz⟩ := I.list (SqL.of (K := X.K) hp)
  refine SeqAt.in_listAt (eqTu H ks) pl.isList (fun w hw => tups_eqAt (A := X.A.in1) I h0 hu t hl r w (by simpa using hw)) ⟨.bl _, H, I, rfl, ?_⟩
  rw [show its.toArray.any (eqTu H ks) = its.any (eqTu H ks) by simp, tups_any t r]
  exact q
theorem op_notInT (hu : X.A.units + 1 < cLine) : OpR X (compareOp .NotIn) (rInT true) := by
  intro pins s σ H x y v u Q I rx ry h
  obtain ⟨a0, ks, p, as, kss, rfl, rfl, h0, hp, t, hl, q⟩ := h
  cases rx; cases ry
  obtain ⟨its, r, pl, hz⟩ := I.list (SqL.of (K := X.K) hp)
  refine SeqAt.notIn_listAt (eqTu H ks) pl.isList (fun w hw => tups_eqAt (A := X.A.in1) I h0 hu t hl r w (by simpa using hw)) ⟨.bl _, H, I, rfl, ?_⟩
  rw [show its.toArray.any (eqTu H ks) = its.any (eqTu H ks) by simp, tups_any t r]
  exact q

/-! ### d.setdefault(k, v) -/
def rSetD : V → List V → Hp → VK → Prop := fun x vs H Q => ∃ (a : Addr) (kvs : List (Key × V)) (k : Key) (d : V), x = .ref a ∧ vs = [kV k, d] ∧ H a = some (.dK kvs) ∧ kvs.length < sizeLine ∧
  (∀ v, valV kvs k = some v → Q v H) ∧ (valV kvs k = none → Q d (upd H a (.dK (putK kvs k d))))
theorem mt_setdefault : MtR X "dict.setdefault" rSetD := by
  intro pins s σ H x vs v us Q I rx rv h
  obtain ⟨a, kvs, k, d, rfl, rfl, ha, hz, q1, q2⟩ := h
  cases rx
  obtain ⟨u, u2, rfl, ru, ru2⟩ := vals2 rv
  obtain ⟨z, hd, ws, rel, dd⟩ := dk_of I.hok ha
  refine call_meetsIn PySem.F.slot_dict_setdefault dd.typeIs PySem.F.entry_dict_setdefault (PySem.F.args_dict_setdefault_3 _ _ _) (kt_meets_setdefault (mixKind X.prog X.w) a (kV_is ru) hd u2) ⟨ws, dd, by rw [← rel.length]; exact z, fun w hw => ?_, fun hn h' dd' hs => ?_⟩
  · have e := rel.val k
    rw [hw] at e
    cases hv : valV kvs k with
    | none => rw [hv] at e; exact e.elim
    | some y =>
      rw [hv] at e
      exact ⟨y, H, I.tok _, e, q1 y hv⟩
  · have e : valV kvs k = none := by
      have e := rel.val k
      rw [hn] at e
      cases hv : valV kvs k with
      | none => rfl
      | some y => rw [hv] at e; exact e.elim
    have he : ∃ q, h'.get? a = some q := let ⟨q, _, _, hq, _⟩ := dd'; ⟨q, hq⟩
    refine ⟨d, _, d_write (ob := .dK (putK kvs k d)) I (by rw [ha]; exact True.intro) hs he (dk_new ?_ hd (rel.put k ru2) dd'), ru2, q2 e⟩
    rw [putK_new d e, List.length_append, List.length_singleton]
    omega

/-! ### sorted(a list of ints), sorted(a dict of ints), list(a dict of ints) -/
theorem vals_intsX {its : List Value} {ns : List Int} (h : IntsAre its ns) : Vals (ns.map V.int) its := by
  induction h with
  | nil => exact .nil
  | cons n t _ ih => exact .cons ⟨_, rfl⟩ ih
/-- the list's own sort, in a new list that nobody else sees: the current state ends with that list -/
theorem sort_new {pins : List (Addr × Obj)} {σ : St} {H : Hp} {s : Shared} {vs : List Value} {ns : List Int} {A : Around} {E : Value → Shared → Prop} {Q : VK} (I : Inv X pins σ H s)
    (hI : IntsAre vs ns) (h64 : vs.length < 64) (q : ∀ ns' : List Int, ns'.Perm ns → ns'.Pairwise (· ≤ ·) → ∀ p, H p = none → Q (.ref p) (upd H p (.lst (ns'.map V.int)))) :
    wpAny (model X.prog X.w) A (call (.builtin "list.sort") [.ref s.heap.objs.size]) (fun _ s' => EP X pins σ Q (.ref s.heap.objs.size) s') E { s with heap := s.heap.push (seqObj "list" vs.toArray 0) } := by
  have hoL : (s.heap.push (seqObj "list" vs.toArray 0)).get? s.heap.objs.size = some (seqObj "list" vs.toArray 0) := Heap.get?_push_size _ rfl
  refine wpAny_call_entry slot_list_sort ⟨_, hoL, rfl⟩ entry_list_sort (list_sort_tree hoL hI h64 fun out ns' a1 a2 a3 => ⟨_, rfl, ?_⟩) (args_list_sort _)
  obtain ⟨e, he⟩ := sortedHeap_at (vs := vs) (out := out) hoL
  refine ⟨.ref s.heap.objs.size, _, I.laid (a := s.heap.objs.size) (o := .lst (ns'.map V.int)) (t' := s.toks) (fun b o hb => ?_) (Nat.le_refl _) ?_, rfl, q ns' a2 a3 _ (I.hok.fresh (Nat.le_refl _))⟩
  · have hlt := Heap.lt_size hb
    show (sortedHeap (s.heap.push (seqObj "list" vs.toArray 0)) s.heap.objs.size vs out).get? b = some o
    rw [sortedHeap_old (Nat.ne_of_lt hlt) (by rw [size_push']; exact Nat.lt_succ_of_lt hlt)]
    exact Heap.get?_push_of_some _ hb
  · have r := vals_intsX a1
    refine ⟨?_, out.toList, e, r, ?_⟩
    · have l1 := r.length
      have l2 := a2.length_eq
      have l3 := (vals_intsX hI).length
      rw [List.length_map] at l1 l3 ⊢
      rw [sizeLine_eq]; omega
    · show (sortedHeap (s.heap.push (seqObj "list" vs.toArray 0)) s.heap.objs.size vs out).get? s.heap.objs.size = _
      rw [he]
theorem call_sorted_list : CallR X (.builtin "sorted") (fun xs H Q => ∃ (p : Addr) (ns : List Int), xs = [.ref p] ∧ SqL X.K H p (ns.map V.int) ∧ ns.length < 64 ∧
    ∀ ns' : List Int, ns'.Perm ns → ns'.Pairwise (· ≤ ·) → ∀ l, H l = none → Q (.ref l) (upd H l (.lst (ns'.map V.int)))) := by
  intro pins s σ H xs us Q I r h
  obtain ⟨p, ns, rfl, hq, h64, q⟩ := h
  obtain ⟨u, rfl, rx⟩ := vals1 r
  cases rx
  obtain ⟨its, rv, pl, hz⟩ := I.list hq
  have hlen := rv.length
  rw [List.length_map] at hlen
  refine sorted_ints pl.isList (intsAre_of rv) (by omega) fun out ns' a1 a2 a3 => ?_
  obtain ⟨e, he⟩ := sortedAll_at s.heap its out
  refine ⟨.ref (s.heap.objs.size + 1), _, I.laid (a := s.heap.objs.size + 1) (o := .lst (ns'.map V.int)) (t' := s.toks) (fun b o hb => sortedAll_old hb) (Nat.le_succ _) ?_, rfl, q ns' a2 a3 _ (I.hok.fresh (Nat.le_succ _))⟩
  have r := vals_intsX a1
  refine ⟨?_, out.toList, e, r, ?_⟩
  · have l1 := r.length
    have l2 := a2.length_eq
    rw [List.length_map] at l1 ⊢
    rw [sizeLine_eq]; omega
  · rw [he]
/-- the keys of a dict of ints -/
theorem int_keys {P : Program} {w : World} {kvs : List (Key × V)} {ks : List Int} {ws : List (Key × Value)} (hk : kvs.map (·.1) = ks.map Sum.inl) (rel : KV kvs ws) {vs : List Value} (hl : vs.length = ws.length)
    (h : ∀ (j : Nat) (v : Value), vs[j]? = some v → ∃ k x, ws[j]? = some (k, x) ∧ (mixKind P w).is k v = true) : IntsAre vs ks := by
  have hk' : ws.map (·.1) = ks.map Sum.inl := by rw [← rel.keys]; exact hk
  clear rel hk
  induction vs generalizing ws ks with
  | nil =>
    cases ws with
    | nil =>
      cases ks with
      | nil => exact .nil
      | cons _ _ => cases hk'
    | cons _ _ => cases hl
  | cons v vs ih =>
    cases ws with
    | nil => cases hl
    | cons w0 ws =>
      cases ks with
      | nil => cases hk'
      | cons k0 ks =>
        have e1 : w0.1 = Sum.inl k0 := (List.cons.inj hk').1
        have e2 := (List.cons.inj hk').2
        obtain ⟨k, x, hx, his⟩ := h 0 v rfl
        have ew : w0 = (k, x) := Option.some.inj hx
        subst ew
        have ek : k = Sum.inl k0 := e1
        subst ek
        obtain ⟨t, rfl⟩ := Value.isInt_shape (k := k0) (v := v) his
        exact .cons _ _ (ih (by simpa using hl) (fun j v hj => h (j + 1) v hj) e2)
theorem call_sorted_dict (hc : X.calm = true) : CallR X (.builtin "sorted") (fun xs H Q => ∃ (p : Addr) (kvs : List (Key × V)) (ks : List Int), xs = [.ref p] ∧ H p = some (.dK kvs) ∧ kvs.map (·.1) = ks.map Sum.inl ∧ ks.length < 64 ∧
    ∀ ns' : List Int, ns'.Perm ks → ns'.Pairwise (· ≤ ·) → ∀ l, H l = none → Q (.ref l) (upd H l (.lst (ns'.map V.int)))) := by
  intro pins s σ H xs us Q I r h
  obtain ⟨p, kvs, ks, rfl, hq, hks, h64, q⟩ := h
  obtain ⟨u, rfl, rx⟩ := vals1 r
  cases rx
  obtain ⟨z, hd, ws, rel, dd⟩ := dk_of I.hok hq
  obtain ⟨ep, hat⟩ := dd.dictAt
  have hl1 : ws.length = ks.length := by
    have e := congrArg List.length hks
    rw [List.length_map, List.length_map] at e
    rw [← rel.length]; exact e
  refine Calls.call_function_entry kind_sorted plain_sorted entry_sorted (args_sorted1 _) ?_
  unfold Builtin.«sorted»
  refine wpAny_bind (m := checkCount "sorted" 1 1 _) (wpAny_pure ?_)
  refine wpAny_bind (PySem.W.kdu_collect (A := X.A.in1) (PySem.W.kdl_dict (knd := mixKind X.prog X.w) (kvs := ws) (ep := ep) hd) (I.ok.hd hc) hat (by rw [sizeLine_eq]; omega) fun h' tk acc hk hacc => ?_)
  have hl : acc.toList.length = ws.length := by rw [Array.length_toList]; exact hacc.1
  refine wpAny_bind (wpAny_newList ?_ (by rw [hl, sizeLine_eq]; omega))
  have I' : Inv X pins σ H { s with heap := h', toks := tk } := I.kept hk
  have hI : IntsAre acc.toList ks := int_keys hks rel hl fun j v hj => hacc.2 j v (by rw [← Array.getElem?_toList]; exact hj)
  refine wpAny_bind (wpAny_holding (wpAny_mono (sort_new (A := X.A.in1) (E := X.xe) I' hI (by omega) q) (fun _ s' x => ?_) fun _ _ e => e))
  exact wpAny_pure ⟨_, rfl, x⟩
theorem call_list_dict (hc : X.calm = true) : CallR X (.type "list") (fun xs H Q => ∃ (p : Addr) (kvs : List (Key × V)) (ks : List Int), xs = [.ref p] ∧ H p = some (.dK kvs) ∧ kvs.map (·.1) = ks.map Sum.inl ∧ ∀ l, H l = none → Q (.ref l) (upd H l (.lst (ks.map V.int)))) := by
  intro pins s σ H xs us Q I r h
  obtain ⟨p, kvs, ks, rfl, hq, hks, q⟩ := h
  obtain ⟨u, rfl, rx⟩ := vals1 r
  cases rx
  obtain ⟨z, hd, ws, rel, dd⟩ := dk_of I.hok hq
  obtain ⟨ep, hat⟩ := dd.dictAt
  have hl0 := rel.length
  refine PySem.W.kdl_call (PySem.W.kdl_dict (knd := mixKind X.prog X.w) (kvs := ws) (ep := ep) hd) (I.ok.hd hc) hat (by omega) fun h' tk acc c hk hS hacc => ?_
  have hl : acc.toList.length = ws.length := by rw [Array.length_toList]; exact hacc.1
  have hI : IntsAre acc.toList ks := int_keys hks rel hl fun j v hj => hacc.2 j v (by rw [← Array.getElem?_toList]; exact hj)
  have rv := vals_intsX hI
  refine ⟨.ref s.heap.objs.size, _, I.laid (a := s.heap.objs.size) (o := .lst (ks.map V.int)) (t' := tk) hk (Nat.le_refl _) ⟨?_, acc.toList, c, rv, ?_⟩, rfl, q _ (I.hok.fresh (Nat.le_refl _))⟩
  · have := rv.length
    omega
  · rw [hS]

/-! ### list(reversed(a list)) -/
theorem nolen_lri : typeLookup (.type "list_reverseiterator") "__len__" = pure none := by rw [typeLookup_type, builtinLookup_eq_fast]; kernel_rfl
theorem hint_lri : typeLookup (.type "list_reverseiterator") "__length_hint__" = pure (some (.builtin "list_reverseiterator.__length_hint__")) := by rw [typeLookup_type, builtinLookup_eq_fast]; kernel_rfl
section
variable {prog : Program} {w : World} {A : Around} {E : Value → Shared → Prop} {s : Shared}
theorem hint_rev {r : Addr} {Q : Bool → Shared → Prop} (hT : s.TypeIs (.ref r) "list_reverseiterator") (h : Q false s) : wpAny (model prog w) A (Builtin.List.listLengthHint (.ref r)) Q E s := by
  unfold Builtin.List.listLengthHint
  refine wpAny_bind (wpAny_specialOf hT nolen_lri ?_)
  show wpAny _ A (specialOf (Value.ref r) (Str.ofString "__length_hint__") >>= _) _ _ _
  refine wpAny_bind (wpAny_specialOf hT hint_lri ?_)
  (generalize hid : ("list_reverseiterator.__length_hint__" : String) = id0; (fail_if_success (clear hid id0)); wp_delta; rw [show splitId id0 = some ("list_reverseiterator", "__length_hint__") from by subst hid; decide +kernel]; subst hid)
  refine wpAny_bind (wpAny_isInstance (b := true) hT (by rw [isSubtype_type]; kernel_rfl) ?_)
  exact wpAny_pure h
variable {I : Addr} {fp wr : List Addr} {G : Array GenState → Array GenState → Prop} {n : Nat} {P : Nat → Value → Prop} {Sn : Nat → Shared → Prop} {R : Result → Shared → Prop}
theorem ext_rev (W : WalksS prog w A.in1 I fp wr G n P Sn) (hT : ∀ i s, Sn i s → s.TypeIs (.ref I) "list_reverseiterator") (S : Addr) (res : Value) (c₀ : Nat) (hst : Sn 0 s) (hSf : S ∉ fp) (hI : I ∈ fp)
    (hS : s.heap.get? S = some { cls := .type "list", data := .seq #[] c₀ })
    (hR : ∀ s' acc' c', Moved (S :: wr) G s s' → s'.heap.get? S = some { cls := .type "list", dict := none, data := .seq acc' c', slots := #[] } → ItemsOf P acc' n → R (.ok (.ret res)) s') (hn : n ≤ sizeLine) :
    wpAny (model prog w) A.in1 (Builtin.List.listExtendWith (.ref S) (.ref I) res)
      (fun fin s' => match fin with | .done f => R (.ok f) s' | .again c' => c'.quiet = true ∧ codeAny (model prog w) A c' R s') (fun e s' => R (.error e) s') s := by
  have hSI : S ≠ I := fun e => hSf (e ▸ hI)
  unfold Builtin.List.listExtendWith
  refine wpAny_bind (wpAny_typeOf (hT 0 _ hst) ?_)
  have h1 : Builtin.List.listSameRef (.ref S) (.ref I) = false := by simp [Builtin.List.listSameRef, hSI]
  have h2 : (Value.type "list_reverseiterator" == Value.type "list") = false := by decide
  have h3 : (Value.type "list_reverseiterator" == Value.type "tuple") = false := by decide
  simp only [h1, h2, h3, Bool.or_false, Bool.false_eq_true, if_false]
  refine wpAny_bind (W.self 0 _ _ _ hst ?_)
  refine wpAny_bind (wpAny_holding (hint_rev (hT 0 _ hst) ?_))
  rw [if_neg (by decide)]
  refine wpAny_pure ⟨plainId_quiet PySem.F.plain_extend_loop _, codeAny_extend_loopS W hn _ hSf _ n 0 _ _ _ rfl (Nat.zero_le _) hst hS (ItemsOf.nil P) fun s' acc' c' hm hS' hacc => ?_⟩
  exact hR s' acc' c' hm hS' hacc
theorem init_rev (W : WalksS prog w A.in1 I fp wr G n P Sn) (hT : ∀ i s, Sn i s → s.TypeIs (.ref I) "list_reverseiterator") (S : Addr) (hst : Sn 0 s) (hSf : S ∉ fp) (hI : I ∈ fp)
    (hS : s.heap.get? S = some { cls := .type "list", data := .seq #[] })
    (hR : ∀ s' acc' c', Moved (S :: wr) G s s' → s'.heap.get? S = some { cls := .type "list", dict := none, data := .seq acc' c', slots := #[] } → ItemsOf P acc' n → R (.ok (.ret .none)) s') (hn : n ≤ sizeLine) :
    wpAny (model prog w) A.in1 (Builtin.«list.__init__» ⟨[.ref S, .ref I], []⟩)
      (fun fin s' => match fin with | .done f => R (.ok f) s' | .again c' => c'.quiet = true ∧ codeAny (model prog w) A c' R s') (fun e s' => R (.error e) s') s := by
  show wpAny _ A.in1 (do let old ← Builtin.List.listItems (.ref S); Builtin.List.listUpdate (.ref S) (fun _ => #[]); letGo old.toList.reverse; Builtin.List.listExtendWith (.ref S) (.ref I) .none) _ _ s
  refine wpAny_bind ?_
  unfold Builtin.List.listItems
  refine wpAny_bind (wpAny_seqItems hS rfl (wpAny_pure ?_))
  show wpAny _ A.in1 (updateSeq S (fun _ => #[]) >>= fun _ => letGo (#[] : Array Value).toList.reverse >>= fun _ => Builtin.List.listExtendWith (.ref S) (.ref I) .none) _ _ s
  refine wpAny_bind (wpAny_updateSeq hS rfl ?_)
  have hS₂ := Heap.get?_update_self (Obj.mapSeq (fun _ => (#[] : Array Value))) hS rfl
  have oth : ∀ b o, b ≠ S → s.heap.get? b = some o → (s.heap.update S (Obj.mapSeq (fun _ => (#[] : Array Value)))).get? b = some o :=
    fun b o hb e => (Heap.get?_update_other _ _ (Ne.symm hb)).trans e
  refine wpAny_bind (wpAny_letGo ?_)
  refine ext_rev (hn := hn) W hT S .none _ (W.frame 0 s _ s.toks hst (Nat.le_refl _) fun b hb o e => oth b o (fun h => hSf (h ▸ hb)) e) hSf hI hS₂ fun s' acc' c' hm hS' hacc => ?_
  exact hR s' acc' c' (Moved.trans W.gtrans ((Moved.refl W.grefl).then_heap (Nat.le_refl _) fun b o hb e => oth b o (fun h => hb (h ▸ List.mem_cons_self)) e) hm) hS' hacc
theorem call_list_rev {Q : Value → Shared → Prop} (W : WalksS prog w A.in1.in1 I fp wr G n P Sn) (hT : ∀ i s, Sn i s → s.TypeIs (.ref I) "list_reverseiterator") (hst : Sn 0 s) (hfp : ∀ b ∈ fp, b < s.heap.objs.size) (hI : I ∈ fp)
    (hQ : ∀ s' acc' c', Moved (s.heap.objs.size :: wr) G { s with heap := s.heap.push { cls := .type "list", data := .seq #[] } } s' →
      s'.heap.get? s.heap.objs.size = some { cls := .type "list", dict := none, data := .seq acc' c', slots := #[] } → ItemsOf P acc' n → Q (.ref s.heap.objs.size) s') (hn : n ≤ sizeLine) :
    wpAny (model prog w) A (call (.type "list") [.ref I]) Q E s := by
  have hSf : s.heap.objs.size ∉ fp := fun hm => Nat.lt_irrefl _ (hfp _ hm)
  refine callType_codes (Q₁ := fun obj s₁ => obj = .ref s.heap.objs.size ∧ s₁ = { s with heap := s.heap.push { cls := .type "list", data := .seq #[] } }) PySem.F.called_list (PySem.F.typeCall_list_1 _) PySem.F.entry_list_init
    (code_list_new _ ⟨rfl, rfl⟩) fun obj s₁ h₁ => ?_
  obtain ⟨rfl, rfl⟩ := h₁
  have hS : (s.heap.push { cls := .type "list", data := .seq #[] }).get? s.heap.objs.size = some { cls := .type "list", data := .seq #[] } := Heap.get?_push_size _ rfl
  refine ⟨⟨_, hS, rfl⟩, PySem.F.args_list_init_2 _ _, init_rev (hn := hn) W hT _ (W.frame 0 s _ s.toks hst (Nat.le_refl _) fun b _ o e => Heap.get?_push_of_some _ e) hSf hI hS fun s' acc' c' hm hS' hacc => ?_⟩
  exact ⟨rfl, hQ s' acc' c' hm hS' hacc⟩
end
def tRevL (K : PySem.W.Frag) (te : TE) : TE := fun σ H Q => te σ H fun x H1 => ∃ (a : Addr) (xs : List V), x = .ref a ∧ SqL K H1 a xs ∧ ∀ p, H1 p = none → Q (.ref p) (upd H1 p (.lst xs.reverse))
theorem rev_items {xs : List V} {its : List Value} {acc : List Value} (r : Vals xs its) (hl : acc.length = its.length) (h : ∀ (j : Nat) (v : Value), acc[j]? = some v → its[its.length - 1 - j]? = some v) : acc = its.reverse := by
  refine List.ext_getElem? fun j => ?_
  by_cases hj : j < acc.length
  · rw [List.getElem?_eq_getElem hj, List.getElem?_reverse (by omega)]
    exact (h j _ (List.getElem?_eq_getElem hj)).symm
  · rw [List.getElem?_eq_none (by omega), List.getElem?_eq_none (by rw [List.length_reverse]; omega)]
theorem Vals.rev : ∀ {xs : List V} {its : List Value}, Vals xs its → Vals xs.reverse its.reverse
  | _, _, .nil => .nil
  | _, _, .cons r t => by
    rw [List.reverse_cons, List.reverse_cons]
    exact (Vals.rev t).append (.cons r .nil)
theorem pe_revlist {e : Expr} {te : TE} {p1 p2 pos1 pos2 : Pos} (hc : X.calm = true) (hg1 : Gl X "list") (hm1 : X.mg "list" = none) (hg2 : Gl X "reversed") (hm2 : X.mg "reversed" = none) (he : PE X e te)
    (hs1 : starEach [.Call (.Name "reversed" p2) [e] [] pos2] X.env = [(false, eval (.Call (.Name "reversed" p2) [e] [] pos2) X.env)] := by rfl) (hs2 : starEach [e] X.env = [(false, eval e X.env)] := by rfl) :
    PE X (.Call (.Name "list" p1) [.Call (.Name "reversed" p2) [e] [] pos2] [] pos1) (tRevL X.K te) := by
  intro pins s σ H Q I h
  refine Call_ (ld_blt I hg1 hm1 boot_list (PyProof.Rows.callWith_type1 ?_ hs1 rfl))
  rw [hs1]
  refine Calls.spliced_cons (Call_ (ld_blt I hg2 hm2 boot_reversed (PyProof.Rows.callWith_type1 ?_ hs2 rfl)))
  rw [hs2]
  refine Calls.spliced_cons (thn (he pins s σ H _ I h) fun u s1 ⟨x, H1, I1, r1, a, xs, ex, hq, q⟩ => Calls.spliced_nil ?_)
  subst ex
  cases r1
  obtain ⟨its, rv, pl, hz⟩ := I1.list hq
  refine call_reversed_list pl.isList (Calls.spliced_nil ?_)
  have ha : a < s1.heap.objs.size := let ⟨_, ho, _⟩ := pl.isList; Heap.lt_size ho
  have hlen := rv.length
  have I2 : Inv X pins σ H1 { s1 with heap := s1.heap.push (revObj a ((its.toArray.size : Int) - 1)) } := I1.kept (t' := s1.toks) fun b o e => Heap.get?_push_of_some _ e
  refine call_list_rev (Walks.listRev (A := X.A.in1.in1) (I.ok.hd hc) s1.heap.objs.size a (Nat.ne_of_lt ha) its.toArray).toS (fun i s h => h.2.1.typeIs) ⟨Nat.zero_le _, ⟨_, Heap.get?_push_size _ rfl, rfl, by simp [revObj]⟩, pl.isList.at fun o e => Heap.get?_push_of_some _ e⟩ (fun b hb => ?_) (by simp) (fun s' acc' c' hm hS hacc => ?_) (by rw [List.size_toArray]; omega)
  · show b < (s1.heap.push _).objs.size
    rw [size_push']
    rcases List.mem_cons.mp hb with e | e
    · rw [e]; exact Nat.lt_succ_self _
    · rw [List.mem_singleton.mp e]; exact Nat.lt_succ_of_lt ha
  · have hacc1 : acc'.toList.length = its.length := by rw [Array.length_toList]; have := hacc.1; rwa [List.size_toArray] at this
    have e : acc'.toList = its.reverse := rev_items rv hacc1 fun j v hj => by
      have := hacc.2 j v (by rw [← Array.getElem?_toList]; exact hj)
      rw [List.size_toArray] at this
      simpa using this
    have D : (s1.heap.push (revObj a ((its.toArray.size : Int) - 1))).objs.size = s1.heap.objs.size + 1 := size_push' ..
    -- the old objects stay
    have old : ∀ b o, s1.heap.get? b = some o → s'.heap.get? b = some o := fun b o hb => by
      have hlt := Heap.lt_size hb
      refine hm.heap b o (fun z => ?_) (Heap.get?_push_of_some _ (Heap.get?_push_of_some _ hb))
      rcases List.mem_cons.mp z with z | z
      · have z' : b = (s1.heap.push (revObj a ((its.toArray.size : Int) - 1))).objs.size := z
        rw [D] at z'
        rw [z'] at hlt
        exact absurd hlt (Nat.not_lt.mpr (Nat.le_succ _))
      · have z' : b = s1.heap.objs.size := by simpa using z
        rw [z'] at hlt
        exact absurd hlt (Nat.lt_irrefl _)
    rw [Moved.eq_with hm]
    refine ⟨.ref _, _, I1.laid (a := (s1.heap.push (revObj a ((its.toArray.size : Int) - 1))).objs.size) (o := .lst xs.reverse) (t' := s'.toks) old (by rw [D]; exact Nat.le_succ _) ⟨by rw [List.length_reverse]; exact hz, its.reverse, c', rv.rev, ?_⟩, rfl, q _ (I1.hok.fresh (by rw [D]; exact Nat.le_succ _))⟩
    show s'.heap.get? _ = _
    rw [hS, ← e]

/-! ### xs.count(an int) -/
def rCount (K : PySem.W.Frag) : V → List V → Hp → VK → Prop := fun x vs H Q => ∃ (p : Addr) (ns : List Int) (k : Int), x = .ref p ∧ vs = [.int k] ∧ SqL K H p (ns.map V.int) ∧ Q (.int (ns.count k : Nat)) H
def eqIv (k : Int) : Value → Bool
  | .int n _ => n == k
  | _ => false
theorem count_ints {k : Int} : ∀ {ns : List Int} {its : List Value}, Vals (ns.map V.int) its → its.countP (eqIv k) = ns.count k
  | [], _, .nil => rfl
  | n :: ns, _, .cons ⟨t, e⟩ r => by
    subst e
    rw [List.countP_cons, List.count_cons, count_ints r]
    rfl
theorem mt_count : MtR X "list.count" (rCount X.K) := by
  intro pins s σ H x vs v us Q I rx rv h
  obtain ⟨p, ns, k, rfl, rfl, hq, q⟩ := h
  cases rx
  obtain ⟨u, rfl, t, rfl⟩ := vals1 rv
  obtain ⟨its, r, pl, hz⟩ := I.list hq
  obtain ⟨o, n, e, c, hd, ed⟩ := pl
  obtain ⟨cls, dd, data, sl⟩ := o
  simp only at c ed
  subst c ed
  refine call_meets PySem.F.slot_list_count ⟨_, e, rfl⟩ PySem.F.entry_list_count (PySem.F.args_list_count_2 _ _) (SeqAt.list_countAt p its.toArray n dd sl (.int k t) (eqIv k)) ⟨e, fun y hy => ?_, ?_⟩
  · obtain ⟨j, hj⟩ := List.mem_iff_getElem.mp (show y ∈ its by simpa using hy)
    obtain ⟨hj1, hj2⟩ := hj
    obtain ⟨m, t', _, e'⟩ := int_at r hj1
    rw [← hj2, e']
    exact SeqAt.EqAt.int_int m t' k t
  · exact ⟨.int _, H, I.tok _, ⟨s.toks, by rw [show its.toArray.toList = its from rfl, count_ints r]⟩, q⟩
end
end L2
/-! What the laws' proofs share: lanes, ends and trees on the abstract heap. -/
namespace Toy
open PySem L2 Gra
theorem same_new {H : Hp} {p : Addr} (h : H p = none) (o : HO) : Same H (upd H p o) := fun b u q => by rw [upd_ne (ne_of_none q h)]; exact q
theorem same_put {H H2 : Hp} {p : Addr} (s : Same H H2) (h : H p = none) (o : HO) : Same H (upd H2 p o) := fun b u q => by rw [upd_ne (ne_of_none q h)]; exact s b u q
theorem small {n : Nat} (h : n ≤ 1000) : n ≤ sizeLine := Nat.le_of_lt (small1000 h)
theorem Same.seqT {K : PySem.W.Frag} {H H' : Hp} {a : Addr} {xs : List V} (e : Same H H') (h : SqT K H a xs) : SqT K H' a xs := by
  rcases h with (h | ⟨o, h⟩) | h
  · exact .inl (.inl (e _ _ h))
  · exact .inl (.inr ⟨o, e _ _ h⟩)
  · exact .inr h
theorem int_of {ns : List Int} {i : Nat} {y : V} (h : (ns.map V.int)[i]? = some y) : ∃ z, y = V.int z ∧ ns[i]? = some z := by
  rw [List.getElem?_map] at h
  cases e : ns[i]? with
  | none => rw [e] at h; cases h
  | some z => rw [e] at h; exact ⟨z, (Option.some.inj h).symm, rfl⟩
theorem at_int {ns : List Int} {i : Nat} {z : Int} (h : ns[i]? = some z) : atI (ns.map V.int) (i : Int) = some (.int z) := atI_nat (by rw [List.getElem?_map, h]; rfl)
theorem take_succ_get {α : Type} {l : List α} {i : Nat} {x : α} (h : l[i]? = some x) : l.take (i + 1) = l.take i ++ [x] := by
  rw [List.take_add_one, h]; rfl

/-- if c: name = e, and what both ways give on -/
theorem if_key {c : Prop} [Decidable c] {te : TE} {i : Nat} {D : Ends} {σ : St} {H : Hp} (G : V → Hp → Prop) (h1 : (∀ v H', G v H' → D.nx (σ.set i (some v)) H') → c → te σ H (fun x H1 => D.nx (σ.set i (some x)) H1))
    (h2 : ¬ c → ∃ v, σ.set i (some v) = σ ∧ G v H) (key : ∀ v H', G v H' → D.nx (σ.set i (some v)) H') : if c then tAsg te (gName i) D σ H else tNext D σ H := by
  by_cases hc : c
  · rw [if_pos hc]
    exact h1 key hc
  · rw [if_neg hc]
    obtain ⟨v, e, g⟩ := h2 hc
    have := key v H g
    rw [e] at this
    exact this

/-! ### lanes -/
def pr (p : Int × Int) : List V := [.int p.1, .int p.2]
def LanesAt (H : Hp) (l : Addr) (ps : Lanes) : Prop := ∃ as : List Addr, H l = some (.lst (as.map V.ref)) ∧ Paired (fun a p => H a = some (.tup (pr p))) as ps
def InR (n : Int) (ps : Lanes) : Prop := ∀ p ∈ ps, (0 ≤ p.1 ∧ p.1 < n) ∧ (0 ≤ p.2 ∧ p.2 < n)
theorem LanesAt.mono {H H' : Hp} {l : Addr} {ps : Lanes} (s : Same H H') (h : LanesAt H l ps) : LanesAt H' l ps := by
  obtain ⟨as, h1, h2⟩ := h
  exact ⟨as, s _ _ h1, Paired.mapP h2 fun _ _ e => s _ _ e⟩
theorem paired_at {α β : Type} {F : α → β → Prop} : ∀ {as : List α} {ps : List β} {i : Nat} {a : α}, Paired F as ps → as[i]? = some a → ∃ p, ps[i]? = some p ∧ F a p
  | _, _, _, _, .nil, h => by simp at h
  | _, _, 0, _, .cons e _, h => by simp at h; subst h; exact ⟨_, rfl, e⟩
  | _, _, i + 1, a, .cons _ t, h => by
    obtain ⟨p, h1, h2⟩ := paired_at (i := i) (a := a) t (by simpa using h)
    exact ⟨p, by simpa using h1, h2⟩
theorem paired_at' {α β : Type} {F : α → β → Prop} : ∀ {as : List α} {ps : List β} {i : Nat} {p : β}, Paired F as ps → ps[i]? = some p → ∃ a, as[i]? = some a ∧ F a p
  | _, _, _, _, .nil, h => by simp at h
  | _, _, 0, _, .cons e _, h => by simp at h; subst h; exact ⟨_, rfl, e⟩
  | _, _, i + 1, a, .cons _ t, h => by
    obtain ⟨p, h1, h2⟩ := paired_at' (i := i) (p := a) t (by simpa using h)
    exact ⟨p, by simpa using h1, h2⟩
theorem lane_at {H : Hp} {as : List Addr} {ps : Lanes} (t : Paired (fun a p => H a = some (.tup (pr p))) as ps) {i : Nat} {y : V} (h : (as.map V.ref)[i]? = some y) : ∃ a p, y = V.ref a ∧ ps[i]? = some p ∧ H a = some (.tup (pr p)) := by
  rw [List.getElem?_map] at h
  cases e : as[i]? with
  | none => rw [e] at h; cases h
  | some a =>
    rw [e] at h
    obtain ⟨p, h1, h2⟩ := paired_at t e
    exact ⟨a, p, (Option.some.inj h).symm, h1, h2⟩
theorem Paired.len {α β : Type} {F : α → β → Prop} {as : List α} {ps : List β} (t : Paired F as ps) : as.length = ps.length := Paired.length t
theorem pr_ints (p : Int × Int) : pr p = [p.1, p.2].map V.int := rfl
theorem tups_of {H : Hp} {as : List Addr} {ps : Lanes} (t : Paired (fun a p => H a = some (.tup (pr p))) as ps) : Tups H as (ps.map fun p => [p.1, p.2]) := by
  induction t with
  | nil => exact .nil
  | cons e _ ih => exact .cons e ih
theorem mem_pairs {ps : Lanes} {a b : Int} : [a, b] ∈ ps.map (fun p => [p.1, p.2]) ↔ (a, b) ∈ ps := by
  constructor
  · intro h
    obtain ⟨p, hp, e⟩ := List.mem_map.mp h
    injection e with e1 e2
    injection e2 with e2 _
    have : p = (a, b) := by cases p; simp at e1 e2; rw [e1, e2]
    rw [← this]; exact hp
  · intro h
    exact List.mem_map.mpr ⟨(a, b), h, rfl⟩
theorem pairs_len {ps : Lanes} {a b : Int} : ∀ k ∈ ps.map (fun p => [p.1, p.2]), k.length = [a, b].length := fun k hk => by
  obtain ⟨p, _, e⟩ := List.mem_map.mp hk
  rw [← e]; rfl

/-! ### the ends by place -/
def endsOf (ps : Lanes) (k : Int) : List Int := (ps.filter fun p => decide (p.1 = k)).map (·.2)
theorem endsOf_snoc (ps : Lanes) (p : Int × Int) (k : Int) : endsOf (ps ++ [p]) k = if p.1 = k then endsOf ps k ++ [p.2] else endsOf ps k := by
  unfold endsOf
  rw [List.filter_append]
  by_cases e : p.1 = k
  · rw [if_pos e, List.filter_cons, if_pos (decide_eq_true e), List.filter_nil, List.map_append]; rfl
  · rw [if_neg e, List.filter_cons, if_neg (by simpa using e), List.filter_nil, List.append_nil]
theorem mem_endsOf {ps : Lanes} {k e : Int} : e ∈ endsOf ps k ↔ (k, e) ∈ ps := by
  unfold endsOf
  constructor
  · intro h
    obtain ⟨p, hp, he⟩ := List.mem_map.mp h
    obtain ⟨h1, h2⟩ := List.mem_filter.mp hp
    have h2' : p.1 = k := of_decide_eq_true h2
    have : p = (k, e) := by cases p; simp at h2' he; rw [h2', he]
    rw [← this]; exact h1
  · intro h
    exact List.mem_map.mpr ⟨(k, e), List.mem_filter.mpr ⟨h, by simp⟩, rfl⟩
theorem endsOf_len (ps : Lanes) (k : Int) : (endsOf ps k).length ≤ ps.length := by
  unfold endsOf
  rw [List.length_map]; exact List.length_filter_le _ _
abbrev Tab := List (Int × Addr)
def tabKV (tab : Tab) : List (Key × V) := tab.map fun q => (Sum.inl q.1, V.ref q.2)
structure EndsTab (H : Hp) (d : Addr) (ps : Lanes) (tab : Tab) : Prop where
  dict : H d = some (.dK (tabKV tab))
  nd : (tab.map (·.1)).Nodup
  na : (tab.map (·.2)).Nodup
  ls : ∀ q ∈ tab, H q.2 = some (.lst ((endsOf ps q.1).map V.int))
  all : ∀ p ∈ ps, p.1 ∈ tab.map (·.1)
def EndsAt (H : Hp) (d : Addr) (ps : Lanes) : Prop := ∃ tab, EndsTab H d ps tab
theorem EndsAt.mono {H H' : Hp} {d : Addr} {ps : Lanes} (s : Same H H') (h : EndsAt H d ps) : EndsAt H' d ps := by
  obtain ⟨tab, e⟩ := h
  exact ⟨tab, s _ _ e.dict, e.nd, e.na, fun q hq => s _ _ (e.ls q hq), e.all⟩
theorem val_tab_some {tab : Tab} {k : Int} {v : V} (h : valV (tabKV tab) (Sum.inl k : Key) = some v) : ∃ q ∈ tab, q.1 = k ∧ v = .ref q.2 := by
  induction tab with
  | nil => cases h
  | cons q r ih =>
    unfold valV tabKV at h
    rw [List.map_cons, List.find?_cons] at h
    by_cases e : (Sum.inl q.1 : Key) = Sum.inl k
    · rw [decide_eq_true e] at h
      exact ⟨q, List.mem_cons_self, Sum.inl.inj e, (Option.some.inj h).symm⟩
    · rw [decide_eq_false e] at h
      obtain ⟨q', h1, h2, h3⟩ := ih h
      exact ⟨q', List.mem_cons_of_mem _ h1, h2, h3⟩
theorem val_tab_none {tab : Tab} {k : Int} (h : valV (tabKV tab) (Sum.inl k : Key) = none) : k ∉ tab.map (·.1) := by
  intro m
  obtain ⟨q, hq, e⟩ := List.mem_map.mp m
  refine valV_not h (List.mem_map.mpr ⟨(Sum.inl q.1, V.ref q.2), List.mem_map.mpr ⟨q, hq, rfl⟩, by rw [← e]⟩)
theorem tabKV_inj : ∀ {t u : Tab}, tabKV t = tabKV u → t = u
  | [], [], _ => rfl
  | [], _ :: _, h => by cases h
  | _ :: _, [], h => by cases h
  | (x, a) :: t, (y, b) :: u, h => by
    have h' : ((Sum.inl x : Key), V.ref a) :: tabKV t = ((Sum.inl y : Key), V.ref b) :: tabKV u := h
    injection h' with h1 h2
    injection h1 with h1 h3
    injection h1 with h1
    injection h3 with h3
    rw [h1, h3, tabKV_inj h2]
theorem tabKV_len (tab : Tab) : (tabKV tab).length = tab.length := List.length_map _

/-! ### the tree as a dict -/
def optV : Option Int → V
  | none => .non
  | some p => .int p
def treeKV (t : PTree) : List (Key × V) := t.map fun q => (Sum.inl q.1, optV q.2)
theorem treeKV_len (t : PTree) : (treeKV t).length = t.length := List.length_map _
theorem treeKV_keys (t : PTree) : (treeKV t).map (·.1) = (keys t).map Sum.inl := by
  unfold treeKV keys
  rw [List.map_map, List.map_map]; rfl
theorem val_tree (t : PTree) (k : Int) : valV (treeKV t) (Sum.inl k : Key) = (look t k).map optV := by
  induction t with
  | nil => rfl
  | cons q r ih =>
    unfold valV treeKV look at ih ⊢
    rw [List.map_cons, List.find?_cons, List.find?_cons]
    by_cases e : q.1 = k
    · have e' : (Sum.inl q.1 : Key) = Sum.inl k := by rw [e]
      rw [decide_eq_true e, decide_eq_true e']; rfl
    · have e' : ¬ (Sum.inl q.1 : Key) = Sum.inl k := fun z => e (Sum.inl.inj z)
      rw [decide_eq_false e, decide_eq_false e']
      exact ih
theorem put_tree {t : PTree} {k p : Int} (h : k ∉ keys t) : putK (treeKV t) (Sum.inl k : Key) (.int p) = treeKV (t ++ [(k, some p)]) := by
  rw [putK_new _ (by rw [val_tree, look_none h]; rfl)]
  unfold treeKV
  rw [List.map_append]; rfl
theorem val_tree_some (t : PTree) (k : Int) : (valV (treeKV t) (Sum.inl k : Key)).isSome = decide (k ∈ keys t) := by
  rw [val_tree, Option.isSome_map, look_mem]
end Toy
/-! Comprehensions whose tests and elements leave what is there as it is. -/
namespace Toy
open PySem L2 Gra
theorem lc_range {n : Nat} {js : List Nat} {tc : TT} {te : TE} {σ : St} {H : Hp} {Q : VK} (Pv : Nat → List V → Hp → Prop) (h0 : Pv 0 [] H) (hl : ∀ i ys H, i ≤ n → Pv i ys H → ys.length ≤ i) (hz : n ≤ sizeLine)
    (hs : ∀ i ys H, i < n → Pv i ys H → tc (innerO js σ (some (.int (0 + (i : Int))))) H fun b H2 => if b = true then te (innerO js σ (some (.int (0 + (i : Int))))) H2 fun y H3 => Pv (i + 1) (ys ++ [y]) H3 else Pv (i + 1) ys H2)
    (hd : ∀ ys H, Pv n ys H → ∀ p, H p = none → Q (.ref p) (upd H p (.lst ys))) :
    LCw js σ tc te Q (Itr 0 n) H := by
  refine ⟨fun i m ys H => m = n - i ∧ i ≤ n ∧ Pv i ys H, ⟨n, by simp, Nat.zero_le _, h0⟩, ?_⟩
  rintro i m ys H ⟨rfl, hi, p⟩
  have hy := hl i ys H hi p
  by_cases hlt : i < n
  · refine .inr ⟨hlt, by omega, Pv (i + 1), fun ys' H' p' => ⟨n - (i + 1), by omega, rfl, hlt, p'⟩, fun x H' y => ?_⟩
    obtain ⟨e, y⟩ := y
    subst e y
    exact hs i ys _ hlt p
  · have e : i = n := by omega
    subst e
    exact .inl ⟨Nat.le_refl _, by omega, hd ys H p⟩
/-- over a tracked list: the x with f x, and of each g x -/
theorem lc_same {K : PySem.W.Frag} {a : Addr} {xs : List V} {js : List Nat} {tc : TT} {te : TE} {σ : St} {H : Hp} {Q : VK} (f : V → Bool) (g : V → V) (hxs : H a = some (.lst xs)) (hz : xs.length ≤ 1000)
    (hc : ∀ x ∈ xs, ∀ H2, Same H H2 → ∀ R : Bool → Hp → Prop, (∀ H3, Same H2 H3 → R (f x) H3) → tc (innerO js σ (some x)) H2 R)
    (he : ∀ x ∈ xs, f x = true → ∀ H2, Same H H2 → ∀ R : V → Hp → Prop, (∀ H3, Same H2 H3 → R (g x) H3) → te (innerO js σ (some x)) H2 R)
    (hd : ∀ H' p, Same H H' → H' p = none → Q (.ref p) (upd H' p (.lst ((xs.filter f).map g)))) : LCw js σ tc te Q (Itl K a) H := by
  refine lc_list (K := K) (a := a) (xs := xs) (fun i ys H2 => Same H H2 ∧ ys = ((xs.take i).filter f).map g) ⟨Same.refl _, rfl⟩ (fun i ys H2 hi ⟨s2, e⟩ => ?_) (small hz) (fun i x ys H2 hx ⟨s2, e⟩ => ?_) (fun ys H2 ⟨s2, e⟩ p hp => ?_)
  · subst e
    refine ⟨SqL.of (s2 _ _ hxs), ?_⟩
    have h1 := List.length_filter_le f (xs.take i)
    rw [List.length_take] at h1
    rw [List.length_map]; omega
  · subst e
    have hm := List.mem_of_getElem? hx
    refine hc x hm H2 s2 _ fun H3 s3 => ?_
    rw [take_succ_get hx, List.filter_append, List.map_append]
    cases c : f x with
    | false =>
      have e0 : [x].filter f = [] := by rw [List.filter_cons, if_neg (by rw [c]; exact Bool.false_ne_true)]; rfl
      rw [e0, List.map_nil, List.append_nil]
      exact iteF ⟨s2.trans s3, rfl⟩
    | true =>
      have e0 : [x].filter f = [x] := by rw [List.filter_cons, if_pos c]; rfl
      rw [e0]
      exact iteT (he x hm c H3 (s2.trans s3) _ fun H4 s4 => ⟨(s2.trans s3).trans s4, rfl⟩)
  · subst e
    rw [List.take_length]
    exact hd H2 p s2 hp
/-- over range(n) -/
theorem lc_rsame {n : Nat} {js : List Nat} {tc : TT} {te : TE} {σ : St} {H : Hp} {Q : VK} (f : Nat → Bool) (g : Nat → V) (hz : n ≤ 1000)
    (hc : ∀ i < n, ∀ H2, Same H H2 → ∀ R : Bool → Hp → Prop, (∀ H3, Same H2 H3 → R (f i) H3) → tc (innerO js σ (some (.int (0 + (i : Int))))) H2 R)
    (he : ∀ i < n, f i = true → ∀ H2, Same H H2 → ∀ R : V → Hp → Prop, (∀ H3, Same H2 H3 → R (g i) H3) → te (innerO js σ (some (.int (0 + (i : Int))))) H2 R)
    (hd : ∀ H' p, Same H H' → H' p = none → Q (.ref p) (upd H' p (.lst (((List.range n).filter f).map g)))) : LCw js σ tc te Q (Itr 0 n) H := by
  refine lc_range (n := n) (fun i ys H2 => Same H H2 ∧ ys = ((List.range i).filter f).map g) ⟨Same.refl _, rfl⟩ (fun i ys H2 hi ⟨s2, e⟩ => ?_) (small hz) (fun i ys H2 hi ⟨s2, e⟩ => ?_) (fun ys H2 ⟨s2, e⟩ p hp => ?_)
  · subst e
    have h1 := List.length_filter_le f (List.range i)
    rw [List.length_range] at h1
    rw [List.length_map]; omega
  · subst e
    refine hc i hi H2 s2 _ fun H3 s3 => ?_
    rw [List.range_succ, List.filter_append, List.map_append]
    cases c : f i with
    | false =>
      have e0 : [i].filter f = [] := by rw [List.filter_cons, if_neg (by rw [c]; exact Bool.false_ne_true)]; rfl
      rw [e0, List.map_nil, List.append_nil]
      exact iteF ⟨s2.trans s3, rfl⟩
    | true =>
      have e0 : [i].filter f = [i] := by rw [List.filter_cons, if_pos c]; rfl
      rw [e0]
      exact iteT (he i hi c H3 (s2.trans s3) _ fun H4 s4 => ⟨(s2.trans s3).trans s4, rfl⟩)
  · subst e
    exact hd H2 p s2 hp
/-- a new object for each x of a list, as Fr says -/
theorem lc_objs {K : PySem.W.Frag} {a : Addr} {xs : List V} {js : List Nat} {te : TE} {σ : St} {H : Hp} {Q : VK} (Fr : Hp → Addr → V → Prop) (mono : ∀ H1 H2 b x, Same H1 H2 → Fr H1 b x → Fr H2 b x) (hxs : H a = some (.lst xs)) (hz : xs.length ≤ 1000)
    (he : ∀ x ∈ xs, ∀ H2, Same H H2 → ∀ R : V → Hp → Prop, (∀ b H3, Same H2 H3 → Fr H3 b x → R (.ref b) H3) → te (innerO js σ (some x)) H2 R)
    (hd : ∀ H' p bs, Same H H' → H' p = none → Paired (Fr H') bs xs → Q (.ref p) (upd H' p (.lst (bs.map V.ref)))) : LCw js σ tYes te Q (Itl K a) H := by
  refine lc_list (K := K) (a := a) (xs := xs) (fun i ys H2 => Same H H2 ∧ ∃ bs : List Addr, ys = bs.map V.ref ∧ Paired (Fr H2) bs (xs.take i)) ⟨Same.refl _, [], rfl, .nil⟩ (fun i ys H2 hi ⟨s2, bs, e, hb⟩ => ?_) (small hz) (fun i x ys H2 hx ⟨s2, bs, e, hb⟩ => ?_) (fun ys H2 ⟨s2, bs, e, hb⟩ p hp => ?_)
  · subst e
    refine ⟨SqL.of (s2 _ _ hxs), ?_⟩
    have := Paired.len hb
    rw [List.length_take] at this
    rw [List.length_map]; omega
  · subst e
    refine yes_of (iteT (he x (List.mem_of_getElem? hx) H2 s2 _ fun b H3 s3 fr => ⟨s2.trans s3, bs ++ [b], by rw [List.map_append]; rfl, ?_⟩))
    rw [take_succ_get hx]
    exact Paired.snoc (Paired.mapP hb fun c y z => mono _ _ _ _ s3 z) fr
  · subst e
    rw [List.take_length] at hb
    exact hd H2 p bs s2 hp hb
/-- .. for each number of range(n) -/
theorem lc_robjs {n : Nat} {js : List Nat} {te : TE} {σ : St} {H : Hp} {Q : VK} (Fr : Hp → Addr → Nat → Prop) (mono : ∀ H1 H2 b x, Same H1 H2 → Fr H1 b x → Fr H2 b x) (hz : n ≤ 1000)
    (he : ∀ i < n, ∀ H2, Same H H2 → ∀ R : V → Hp → Prop, (∀ b H3, Same H2 H3 → Fr H3 b i → R (.ref b) H3) → te (innerO js σ (some (.int (0 + (i : Int))))) H2 R)
    (hd : ∀ H' p bs, Same H H' → H' p = none → Paired (Fr H') bs (List.range n) → Q (.ref p) (upd H' p (.lst (bs.map V.ref)))) : LCw js σ tYes te Q (Itr 0 n) H := by
  refine lc_range (n := n) (fun i ys H2 => Same H H2 ∧ ∃ bs : List Addr, ys = bs.map V.ref ∧ Paired (Fr H2) bs (List.range i)) ⟨Same.refl _, [], rfl, .nil⟩ (fun i ys H2 hi ⟨s2, bs, e, hb⟩ => ?_) (small hz) (fun i ys H2 hi ⟨s2, bs, e, hb⟩ => ?_) (fun ys H2 ⟨s2, bs, e, hb⟩ p hp => ?_)
  · subst e
    have := Paired.len hb
    rw [List.length_range] at this
    rw [List.length_map]; omega
  · subst e
    refine yes_of (iteT (he i hi H2 s2 _ fun b H3 s3 fr => ⟨s2.trans s3, bs ++ [b], by rw [List.map_append]; rfl, ?_⟩))
    rw [List.range_succ]
    exact Paired.snoc (Paired.mapP hb fun c y z => mono _ _ _ _ s3 z) fr
  · subst e
    exact hd H2 p bs s2 hp hb
/-- over lanes: those with f, and of each g -/
theorem lc_lanes {K : PySem.W.Frag} {l : Addr} {as : List Addr} {ps : Lanes} {js : List Nat} {tc : TT} {te : TE} {σ : St} {H : Hp} {Q : VK} (f : Int × Int → Bool) (g : Int × Int → V) (hl : H l = some (.lst (as.map V.ref))) (hp : Paired (fun a p => H a = some (.tup (pr p))) as ps) (hz : ps.length ≤ 1000)
    (hc : ∀ a, ∀ p ∈ ps, ∀ H2, Same H H2 → H2 a = some (.tup (pr p)) → ∀ R : Bool → Hp → Prop, (∀ H3, Same H2 H3 → R (f p) H3) → tc (innerO js σ (some (.ref a))) H2 R)
    (he : ∀ a, ∀ p ∈ ps, f p = true → ∀ H2, Same H H2 → H2 a = some (.tup (pr p)) → ∀ R : V → Hp → Prop, (∀ H3, Same H2 H3 → R (g p) H3) → te (innerO js σ (some (.ref a))) H2 R)
    (hd : ∀ H' p, Same H H' → H' p = none → Q (.ref p) (upd H' p (.lst ((ps.filter f).map g)))) : LCw js σ tc te Q (Itl K l) H := by
  have hpl := Paired.len hp
  have hml : (as.map V.ref).length = ps.length := by rw [List.length_map]; exact hpl
  refine lc_list (K := K) (a := l) (xs := as.map V.ref) (fun i ys H2 => Same H H2 ∧ ys = ((ps.take i).filter f).map g) ⟨Same.refl _, rfl⟩ (fun i ys H2 hi ⟨s2, e⟩ => ?_) (by rw [hml]; exact small hz) (fun i x ys H2 hx ⟨s2, e⟩ => ?_) (fun ys H2 ⟨s2, e⟩ p hpn => ?_)
  · subst e
    refine ⟨SqL.of (s2 _ _ hl), ?_⟩
    have h1 := List.length_filter_le f (ps.take i)
    rw [List.length_take] at h1
    rw [List.length_map]; omega
  · subst e
    obtain ⟨a, p, rfl, hpi, ha⟩ := lane_at hp hx
    have hm := List.mem_of_getElem? hpi
    refine hc a p hm H2 s2 (s2 _ _ ha) _ fun H3 s3 => ?_
    rw [take_succ_get hpi, List.filter_append, List.map_append]
    cases c : f p with
    | false =>
      have e0 : [p].filter f = [] := by rw [List.filter_cons, if_neg (by rw [c]; exact Bool.false_ne_true)]; rfl
      rw [e0, List.map_nil, List.append_nil]
      exact iteF ⟨s2.trans s3, rfl⟩
    | true =>
      have e0 : [p].filter f = [p] := by rw [List.filter_cons, if_pos c]; rfl
      rw [e0]
      exact iteT (he a p hm c H3 (s2.trans s3) ((s2.trans s3) _ _ ha) _ fun H4 s4 => ⟨(s2.trans s3).trans s4, rfl⟩)
  · subst e
    rw [hml, List.take_length]
    exact hd H2 p s2 hpn
/-- over a list of ints -/
theorem lc_ints {K : PySem.W.Frag} {a : Addr} {ns : List Int} {js : List Nat} {tc : TT} {te : TE} {σ : St} {H : Hp} {Q : VK} (f : Int → Bool) (g : Int → V) (hxs : H a = some (.lst (ns.map V.int))) (hz : ns.length ≤ 1000)
    (hc : ∀ x ∈ ns, ∀ H2, Same H H2 → ∀ R : Bool → Hp → Prop, (∀ H3, Same H2 H3 → R (f x) H3) → tc (innerO js σ (some (.int x))) H2 R)
    (he : ∀ x ∈ ns, f x = true → ∀ H2, Same H H2 → ∀ R : V → Hp → Prop, (∀ H3, Same H2 H3 → R (g x) H3) → te (innerO js σ (some (.int x))) H2 R)
    (hd : ∀ H' p, Same H H' → H' p = none → Q (.ref p) (upd H' p (.lst ((ns.filter f).map g)))) : LCw js σ tc te Q (Itl K a) H := by
  let fv : V → Bool := fun v => match v with | .int x => f x | _ => false
  let gv : V → V := fun v => match v with | .int x => g x | _ => .non
  refine lc_same (K := K) (xs := ns.map V.int) fv gv hxs (by rw [List.length_map]; exact hz) (fun v hv H2 s2 R hR => ?_) (fun v hv c H2 s2 R hR => ?_) (fun H2 p s2 hp => ?_)
  · obtain ⟨x, hx, rfl⟩ := List.mem_map.mp hv
    exact hc x hx H2 s2 R hR
  · obtain ⟨x, hx, rfl⟩ := List.mem_map.mp hv
    exact he x hx c H2 s2 R hR
  · have e : ((ns.map V.int).filter fv).map gv = (ns.filter f).map g := by
      rw [List.filter_map, List.map_map]; rfl
    rw [e]
    exact hd H2 p s2 hp
theorem lc_intsY {K : PySem.W.Frag} {a : Addr} {ns : List Int} {js : List Nat} {te : TE} {σ : St} {H : Hp} {Q : VK} (g : Int → V) (hxs : H a = some (.lst (ns.map V.int))) (hz : ns.length ≤ 1000)
    (he : ∀ x ∈ ns, ∀ H2, Same H H2 → ∀ R : V → Hp → Prop, (∀ H3, Same H2 H3 → R (g x) H3) → te (innerO js σ (some (.int x))) H2 R)
    (hd : ∀ H' p, Same H H' → H' p = none → Q (.ref p) (upd H' p (.lst (ns.map g)))) : LCw js σ tYes te Q (Itl K a) H := by
  refine lc_ints (K := K) (fun _ => true) g hxs hz (fun x hx H2 s2 R hR => yes_of (hR H2 (Same.refl _))) (fun x hx _ => he x hx) (fun H2 p s2 hp => ?_)
  rw [List.filter_eq_self.mpr fun _ _ => rfl]
  exact hd H2 p s2 hp
/-- if c: a block, and what both ways give on -/
theorem if_cont {c : Prop} [Decidable c] {tb : TS} {D : Ends} {σ : St} {H : Hp} (G : St → Hp → Prop) (h1 : (∀ σ' H', G σ' H' → D.nx σ' H') → c → tb D σ H) (h2 : ¬ c → G σ H) (key : ∀ σ' H', G σ' H' → D.nx σ' H') : if c then tb D σ H else tNext D σ H := by
  by_cases hc : c
  · rw [if_pos hc]; exact h1 key hc
  · rw [if_neg hc]; exact key σ H (h2 hc)
theorem paired_rep {α β : Type} {F : α → β → Prop} {v : β} : ∀ {as : List α} {n : Nat}, as.length = n → (∀ a ∈ as, F a v) → Paired F as (List.replicate n v)
  | [], n, h, _ => by rw [← h]; exact .nil
  | a :: as, n, h, f => by
    rw [← h, List.length_cons, List.replicate_succ]
    exact .cons (f a List.mem_cons_self) (paired_rep rfl fun x hx => f x (List.mem_cons_of_mem _ hx))
theorem paired_memP {α β : Type} {F G : α → β → Prop} : ∀ {as : List α} {ps : List β}, Paired F as ps → (∀ a ∈ as, ∀ p, F a p → G a p) → Paired G as ps
  | _, _, .nil, _ => .nil
  | _, _, .cons e t, f => .cons (f _ List.mem_cons_self _ e) (paired_memP t fun a ha => f a (List.mem_cons_of_mem _ ha))
/-- one of the rows is written -/
theorem paired_upd {H : Hp} {b : Addr} {row' : List Int} : ∀ {bs : List Addr} {rows : List (List Int)} {k : Nat}, bs.Nodup → Paired (fun b row => H b = some (.lst (row.map V.int))) bs rows → bs[k]? = some b → Paired (fun c row => (upd H b (.lst (row'.map V.int))) c = some (.lst (row.map V.int))) bs (rows.set k row')
  | _, _, _, _, .nil, h => by simp at h
  | x :: bs, _ :: rows, 0, nd, .cons e t, h => by
    have ex : x = b := by simpa using h
    subst ex
    rw [List.set_cons_zero]
    refine .cons upd_same (paired_memP t fun a ha p q => ?_)
    rw [upd_ne (fun z => (List.nodup_cons.mp nd).1 (by rw [← z]; exact ha))]
    exact q
  | x :: bs, _ :: rows, k + 1, nd, .cons e t, h => by
    have h' : bs[k]? = some b := by simpa using h
    rw [List.set_cons_succ]
    refine .cons ?_ (paired_upd (List.nodup_cons.mp nd).2 t h')
    rw [upd_ne (fun z => (List.nodup_cons.mp nd).1 (by rw [z]; exact List.mem_of_getElem? h'))]
    exact e
end Toy
/-! My own rules over the hand layer, third part: an own error class raised in a def and caught by its caller. -/
namespace L2
open PySem PySem.Spec PyProof.Rows

theorem ObjOk.ex {P : Program} {w : World} {H : Hp} {h : Heap} {a : Addr} {o : HO} (x : ObjOk P w H h a o) : ∃ ob, h.get? a = some ob := by
  cases o with
  | lst xs => obtain ⟨_, _, _, _, e⟩ := x; exact ⟨_, e⟩
  | tup xs => obtain ⟨_, _, _, o, e, _⟩ := x; exact ⟨_, e⟩
  | dK kvs => obtain ⟨_, _, _, _, o, _, _, e, _⟩ := x; exact ⟨_, e⟩
  | dT kvs => obtain ⟨_, _, _, _, o, _, _, e, _⟩ := x; exact ⟨_, e⟩
  | set S n => obtain ⟨o, _, _, _, e, _⟩ := x; exact ⟨_, e⟩
  | ins C dx fs => obtain ⟨_, _, _, e, _⟩ := x; exact ⟨_, e⟩
  | own y => obtain ⟨_, e⟩ := x; exact ⟨_, e⟩
  | xd fs => obtain ⟨_, ⟨_, _, _, e, _⟩, _⟩ := x; exact ⟨_, e⟩
  | rng lo hi => obtain ⟨_, _, _, e⟩ := x; exact ⟨_, e⟩
  | frz ob u => obtain ⟨e, _⟩ := x; exact ⟨_, e⟩
  | tbl ps => exact ⟨_, (show h.get? a = some _ from x)⟩
  | met f y => exact ⟨_, (show h.get? a = some _ from x)⟩
  | ext φ => obtain ⟨_, ⟨_, e⟩, _⟩ := x; exact ⟨_, e⟩

theorem exc_obj {K : PySem.W.Frag} {h : Heap} {C : Addr} {bmB : List Value} {newId : String} (X : K.In h) (q : PySem.W.excIn K C bmB newId = true) :
    ∃ bm N nm qn bs hdct sn sub ab col dd k0 k1 k2 k3 k5 mN, h.get? C = some (excClassObj nm qn C N bs bm hdct sn sub ab col dd k0 k1 k2 k3 k5 newId) ∧ h.Ns N mN ∧ mN "__init__" = none ∧ OwnTail h bmB bm := by
  unfold PySem.W.excIn at q
  split at q
  · rename_i dd cd sl ho
    split at q
    · rename_i C' bm k0 k1 k2 k3 n k5 hm hs
      simp only [Bool.and_eq_true, beq_iff_eq, Bool.not_eq_true'] at q
      obtain ⟨⟨⟨⟨⟨rfl, rfl⟩, hdel⟩, ht⟩, hok⟩, hni⟩ := q
      obtain ⟨nm, bs, mro, ns, qn, hd, sn, sub, ab, col, del⟩ := cd
      dsimp only at hm hdel hok hni
      subst hm hdel
      have hsl : sl = #[k0, k1, k2, k3, some (.builtin n), k5] := by
        obtain ⟨l⟩ := sl
        simp only at hs
        rw [hs]
      subst hsl
      exact ⟨bm, ns, nm, qn, bs, hd, sn, sub, ab, col, dd, k0, k1, k2, k3, k5, _, X _ _ ho, .of_isNs (PySem.W.isNs_of_in X hok), PySem.W.nsMap_none_of_in X hok hni, PySem.W.tail_of_in X ht⟩
    · cases q
  · cases q

/-- behind a call that raised: x the exception, C its class; all that stood ahead of the call, and all that is tracked, stands in B and stays -/
structure Flies (P : Program) (w : World) (outer : List Env) (H : Hp) (s : Shared) (E : XK) (x : Addr) (C : Value) (H' : Hp) (B : Heap) (a0 : Value) (s' : Shared) : Prop where
  os : s'.os = s.os
  bare : AllBare s'.gens
  un : Un (frs outer) [] H H' s.heap s'.heap
  hok : HOk P w H' s'.heap
  fly : Heap.FlyingW B outer x C a0 s'.heap
  old : ∀ b o, s.heap.get? b = some o → b ∉ frs outer → ∃ o', B.get? b = some o'
  trk : ∀ b u, H' b = some u → ∃ o', B.get? b = some o'
  wish : E C none H'
def CXr (P : Program) (w : World) : CXT := fun outer H s E e s' => ∃ x C H' B a0, e = .ref x ∧ Flies P w outer H s E x C H' B a0 s'

section
variable {X : Cx}
theorem ps_raise {x : Str} {np cpos pos : Pos} {e : Expr} {es : List Expr} {t : TA} {C : Addr} {bmB : List Value} {newId initId B : String} {E : XK} (FB : ExcBaseFacts B newId initId bmB) (hq : PySem.W.excIn X.K C bmB newId = true)
    (hg : Gl X x) (hm : X.mg x = some (.ref C)) (hc : X.calm = true) (ha : PA X (e :: es) t)
    (hx : ∀ (pins : List (Addr × Obj)) (σ : St) (H : Hp) (s : Shared) (vs : List Value) (h' : Heap) (a : Addr), Inv X pins σ H s → Heap.MadeExcOf s.heap h' a (.ref C) vs → E (.ref C) none H → X.xe (.ref a) { s with heap := h' })
    (he : starEach (e :: es) X.env = (false, eval e X.env) :: starEach es X.env := by rfl) (hplain : (backTo cpos (starEach es X.env)).any (·.1) = false := by rfl) (hd : (x == ("__debug__" : Str)) = false := by decide) :
    PS X (.Raise (some (.Call (.Name x np) (e :: es) [] cpos)) none pos) (fun _ σ H => t σ H fun vs H1 => vs.length ≤ sizeLine ∧ E (.ref C) none H1) := by
  intro pins s σ H D I h
  obtain ⟨tl, N, nm, q, bs, hdct, sn, sub, ab, col, dd, k0, k1, k2, k3, k5, mN, hC, hN, hni, T⟩ := exc_obj I.ok.mod.kin hq
  refine wpAny_Raise_call_subT (C := C) (nm := nm) (q := q) (N := N) (bs := bs) (bm := tl) (hdct := hdct) (sn := sn) (sub := sub) (ab := ab) (col := col) (dd := dd) (k0 := k0) (k1 := k1) (k2 := k2) (k3 := k3) (k5 := k5)
    FB (mN := mN) (T.hasType FB.hasBase) (I.ok.hd hc) (by rw [he]; show (false || (backTo cpos (starEach es X.env)).any (·.1)) = false; rw [hplain]; rfl) hni (ld_glob I hg hm ⟨rfl, ?_⟩ hd)
  have h2 := ha cpos pins s σ H _ I h
  rw [he] at h2 ⊢
  exact Calls.evalArgs_plain (wpAny_mono h2 (fun vs s₂ ⟨ws, H2, I2, r, z, hE⟩ => ⟨rfl, by rw [← r.length]; exact z, I2.bk _ _ hC, hN.keeps I2.bk, T.keeps I2.bk, fun h' a M => hx pins σ H2 s₂ vs h' a I2 M hE⟩) fun _ _ y => y)
end

/-- out of a def's frame -/
theorem leave_cxr {P : Program} {w : World} {K : PySem.W.Frag} {mg : Str → Option Value} {base : Heap} {N : List Str} {qual : Str} {scope : Scope} {f : Addr} {cd : Value} {A : Around} {outer : List Env} {s : Shared} {H : Hp} {E : XK} {C : Addr}
    (pins : List (Addr × Obj)) (σ : St) (H' : Hp) (s₂ : Shared) (vs : List Value) (h' : Heap) (a : Addr) (I : Inv (cxOf (CXr P w) P w K mg base N qual scope f cd A outer s H E) pins σ H' s₂) (M : Heap.MadeExcOf s₂.heap h' a (.ref C) vs) (hE : E (.ref C) none H') :
    (cxOf (CXr P w) P w K mg base N qual scope f cd A outer s H E).xe (.ref a) { s₂ with heap := h' } := by
  have hin : ∀ env ∈ (cxOf (CXr P w) P w K mg base N qual scope f cd A outer s H E).stack, ∀ b, env.frame = some b → b ∈ frs (cxOf (CXr P w) P w K mg base N qual scope f cd A outer s H E).stack := fun env he b hb => List.mem_filterMap.mpr ⟨env, he, hb⟩
  have sub : ∀ b, b ∈ frs outer → b ∈ frs (cxOf (CXr P w) P w K mg base N qual scope f cd A outer s H E).stack := fun b hb => by
    unfold frs
    show b ∈ List.filterMap _ (_ :: outer)
    rw [List.filterMap_cons]
    exact List.mem_cons_of_mem _ hb
  have inB : ∀ b o, s₂.heap.get? b = some o → b ∉ frs (cxOf (CXr P w) P w K mg base N qual scope f cd A outer s H E).stack → (PySem.W.hideAll s₂.heap (frs (cxOf (CXr P w) P w K mg base N qual scope f cd A outer s H E).stack)).get? b = some o := fun b o e n => PySem.W.hideAll_get _ e n
  have nstk : ∀ b o, s.heap.get? b = some o → b ∉ frs outer → b ∉ frs (cxOf (CXr P w) P w K mg base N qual scope f cd A outer s H E).stack := fun b o e n hb => by
    rcases List.mem_cons.mp (I.stkSub b hb) with z | z
    · exact absurd (Heap.lt_size e) (by rw [z]; exact Nat.not_lt.mpr I.ok.above)
    · exact n z
  refine wpAny_leaves_madeW (base := PySem.W.hideAll s₂.heap (frs (cxOf (CXr P w) P w K mg base N qual scope f cd A outer s H E).stack)) I.ok.frames rfl (fun b o q => PySem.W.of_hideAll _ q) (PySem.W.funFrames_hide I.stack hin) M fun h'' t x1 x2 x3 x4 => ?_
  have stay : ∀ b o, s₂.heap.get? b = some o → b ∉ frs (cxOf (CXr P w) P w K mg base N qual scope f cd A outer s H E).stack → h''.get? b = some o := fun b o e n => x1.1 b o (inB b o e n)
  have slot : ∀ b o, s₂.heap.get? b = some o → b ∈ frs outer → ∃ sl, h''.get? b = some { o with slots := sl } := fun b o e hb => by
    obtain ⟨_, o', ho', hd⟩ := I.funs.mem hb
    rw [e] at ho'
    cases ho'
    exact x4 b o (M.keeps b o e) hd
  refine ⟨a, .ref C, H', _, .ref t, rfl, I.os, I.bare, ⟨fun b o e n hb hx => ?_, fun b o e n hb hx => ?_, I.base.free, fun b o e hx => ?_, I.base.tups, I.base.frzs, I.base.tbls⟩, fun b u e => ?_, x1, fun b o e n => ?_, fun b u e => ?_, hE⟩
  · exact stay b o (I.base.keep b o e n hb hx) (nstk b o e hb)
  · obtain ⟨sl, e1⟩ := I.base.slot b o e n hb hx
    obtain ⟨sl', e2⟩ := slot b _ e1 hb
    exact ⟨sl', e2⟩
  · obtain ⟨o', e1⟩ := I.base.there b o e hx
    by_cases hb : b ∈ frs outer
    · obtain ⟨sl, e2⟩ := slot b o' e1 hb
      exact ⟨_, e2⟩
    · exact ⟨o', stay b o' e1 (nstk b o e hb)⟩
  · refine (I.hok b u e).stay (fun c v hc q => stay c v q fun hm => ?_) (fun _ q => q) fun _ _ q => q
    have z := I.stkFree c hm
    rcases hc with rfl | hc
    · rw [e] at z; cases z
    · rw [hc] at z; cases z
  · obtain ⟨o', e1⟩ := I.base.there b o e (by show b ∉ ([] : List Addr); simp)
    exact ⟨o', inB b o' e1 (nstk b o e n)⟩
  · obtain ⟨ob, e1⟩ := (I.hok b u e).ex
    refine ⟨ob, inB b ob e1 fun hm => ?_⟩
    have z := I.stkFree b hm
    rw [e] at z; cases z

/-- THE RULE for a def that raises: as Fun.ok, with exceptions that lie as CXr says -/
theorem Fun.okX {P : Program} {w : World} {K : PySem.W.Frag} {mg : Str → Option Value} {base : Heap} {x qual : Str} {st : Stmt} {f : Addr} {fd : FuncData} {N ps : List Str} {k : Nat} {sp : Sp} (F : Fun K x qual st f fd) (S : FnScope N ps (defScope st)) (len : ∀ vs H Q E, sp vs H Q E → vs.length = ps.length)
    (hbody : ∀ (cdv : Value) (A : Around) (outer : List Env) (s : Shared) (H : Hp) (vs : List V) (Q : VK) (E : XK), Room k (A.deeper (envOfC qual (defScope st) s.heap.objs.size f cdv)) → sp vs H Q E →
      ∃ t, PSs (cxOf (CXr P w) P w K mg base N qual (defScope st) f cdv A outer s H E) (defBody st) t ∧ t { nx := fun _ H' => Q .non H', rt := Q } (start N vs) H) : FnOk P w K mg base (CXr P w) (k + 1) f fd ps sp := by
  obtain ⟨oc, od, kV, doc, pm, an, cdv, ct, osl, rfl, lk, hcd⟩ := F.ex
  exact fn_of lk hcd S len fun A outer s H vs Q E hr hsp => hbody cdv A outer s H vs Q E hr hsp

/-! ### the catch -/
/-- an exception object -/
def excO (a : Addr) (C : Value) : HO := .ext fun h => ∃ oe vs, h.get? a = some oe ∧ oe.cls = C ∧ oe.data = .fields vs
section
variable {X : Cx} {pins : List (Addr × Obj)} {σ : St} {H H' : Hp} {s s' : Shared} {E : XK} {x : Addr} {C a0 : Value} {B h' : Heap}
theorem Flies.inv (I : Inv X pins σ H s) (F : Flies X.prog X.w X.stack H s E x C H' B a0 s') : Inv X pins σ H' s' := I.call' (ch := []) F.os F.un F.hok F.bare (fun b z => absurd z (by simp))
theorem Inv.fly (I : Inv X pins σ H s) (F : Flies X.prog X.w X.stack H s E x C H' B a0 s') (st : B.StaysIn h') (up : s'.heap.UpToSlots h') : Inv X pins σ H' { s' with heap := h' } := by
  have I1 := F.inv I
  -- what stood ahead of the call and is no frame stays
  have hold : ∀ b o o', s.heap.get? b = some o → b ∉ frs X.stack → s'.heap.get? b = some o' → h'.get? b = some o' := fun b o o' e n e' => by
    obtain ⟨o2, e2⟩ := F.old b o e n
    have e3 := F.fly.1 b o2 e2
    rw [e'] at e3
    cases e3
    exact st b o' e2
  have nst : ∀ b o, X.s₀.heap.get? b = some o → b ∉ X.fs → b ∉ frs X.stack := fun b o e n hb => by
    rcases List.mem_cons.mp (I.stkSub b hb) with z | z
    · exact absurd (Heap.lt_size e) (by rw [z]; exact Nat.not_lt.mpr I.ok.above)
    · exact n z
  have slot : ∀ b o, s'.heap.get? b = some o → b ∈ X.fs → ∃ sl, h'.get? b = some { o with slots := sl } := fun b o e hb => by
    obtain ⟨_, o', ho', hd⟩ := I1.funs.mem hb
    rw [e] at ho'
    cases ho'
    exact up b o e hd
  have cellK : ∀ c v, s'.heap.IsCell c v → h'.IsCell c v := fun c v ⟨o, ho, hd⟩ => by
    obtain ⟨sl, e⟩ := up c o ho (fun vs q => by rw [hd] at q; cases q)
    exact ⟨_, e, hd⟩
  refine ⟨I1.ok, I1.os, I1.bare, ⟨fun b o e n hb hx => ?_, fun b o e n hb hx => ?_, I1.base.free, fun b o e hx => ?_, I1.base.tups, I1.base.frzs, I1.base.tbls⟩, ?_, fun y c e => ?_, I1.free, I1.freeC, fun p hp => ?_, fun b u e => ?_, I1.len⟩
  · obtain ⟨o1, e1⟩ := I.base.there b o e hx
    exact hold b o1 o e1 (nst b o e hb) (I1.base.keep b o e n hb hx)
  · obtain ⟨sl, e1⟩ := I1.base.slot b o e n hb hx
    obtain ⟨sl', e2⟩ := slot b _ e1 hb
    exact ⟨sl', e2⟩
  · obtain ⟨o1, e1⟩ := I.base.there b o e hx
    obtain ⟨o2, e2⟩ := I1.base.there b o e hx
    by_cases hb : b ∈ X.fs
    · obtain ⟨sl, e3⟩ := slot b o2 e2 hb
      exact ⟨_, e3⟩
    · exact ⟨o2, hold b o1 o2 e1 (nst b o e hb) e2⟩
  · obtain ⟨m, hn, hl⟩ := I1.loc
    refine ⟨m, up.ns hn, fun i y v h1 h2 h3 => ?_⟩
    obtain ⟨u, r, l⟩ := hl i y v h1 h2 h3
    refine ⟨u, r, ?_⟩
    rcases l with l | ⟨k, c, e, z⟩
    · exact .inl l
    · exact .inr ⟨k, c, e, cellK c _ z⟩
  · obtain ⟨v, z⟩ := I1.cell y c e
    exact ⟨v, cellK c v z⟩
  · obtain ⟨e, n, ne, nf, d⟩ := I1.pin p hp
    obtain ⟨e0, _, ne0, nf0, _⟩ := I.pin p hp
    refine ⟨hold p.1 p.2 p.2 e0 (fun hb => ?_) e, n, ne, nf, d⟩
    rcases List.mem_cons.mp (I.stkSub _ hb) with z | z
    · exact ne0 z
    · exact nf0 z
  · refine (I1.hok b u e).stay (fun c v hc q => ?_) (fun _ q => q) fun _ _ q => q
    obtain ⟨u', eu⟩ : ∃ u', H' c = some u' := by
      rcases hc with rfl | hc
      · exact ⟨u, e⟩
      · exact ⟨_, hc⟩
    obtain ⟨o2, e2⟩ := F.trk c u' eu
    have e3 := F.fly.1 c o2 e2
    rw [q] at e3
    cases e3
    exact st c v e2
/-- the exception is tracked -/
theorem Inv.exc (I : Inv X pins σ H s) (F : Flies X.prog X.w X.stack H s E x C H' B a0 s') (J : Inv X pins σ H' { s' with heap := h' }) (fl : Heap.FlyingW B X.stack x C a0 h') : Inv X pins σ (upd H' x (excO x C)) { s' with heap := h' } ∧ H' x = none := by
  obtain ⟨oe, ws, T, oT, ts, he, ⟨hc, h0⟩, hd, _⟩ := fl.2.2.2
  have hx : B.get? x = none := fl.2.1
  have hn : H' x = none := by
    cases q : H' x with
    | none => rfl
    | some u => obtain ⟨o, e⟩ := F.trk x u q; rw [hx] at e; cases e
  have nfr : x ∉ frs X.stack := fun hm => by
    obtain ⟨_, o, ho, hnf⟩ := J.stack.mem hm
    have ho' : h'.get? x = some o := ho
    rw [he] at ho'
    cases ho'
    exact hnf _ hd
  have nold : s.heap.get? x = none := by
    cases q : s.heap.get? x with
    | none => rfl
    | some o =>
      obtain ⟨o', e⟩ := F.old x o q nfr
      rw [hx] at e; cases e
  have n0 : ∀ b o, X.s₀.heap.get? b = some o → b ∉ X.ex → b ≠ x := fun b o e hx' z => by
    obtain ⟨o1, e1⟩ := I.base.there b o e hx'
    rw [z, nold] at e1; cases e1
  refine ⟨⟨J.ok, J.os, J.bare, ⟨J.base.keep, J.base.slot, fun b o e n hx' => ?_, J.base.there, fun b xs e => ?_, fun b o u e => ?_, fun b ps e => ?_⟩, J.loc, J.cell, ?_, fun y c e => ?_, fun p hp => ?_, HOk.track J.hok hn ⟨⟨oe, ws, he, hc, hd⟩, ⟨oe, he⟩, ?_⟩, J.len⟩, hn⟩
  · rw [upd_ne (n0 b o e hx')]; exact J.base.free b o e n hx'
  · have e' := J.base.tups b xs e
    rw [upd_ne (ne_of_none e' hn)]; exact e'
  · have e' := J.base.frzs b o u e
    rw [upd_ne (ne_of_none e' hn)]; exact e'
  · obtain ⟨m, e'⟩ := J.base.tbls b ps e
    exact ⟨m, by rw [upd_ne (ne_of_none e' hn)]; exact e'⟩
  · have ne : X.env.locals ≠ x := fun z => by
      obtain ⟨m, ⟨o, es, ep, ho, hdd, _⟩, _⟩ := J.loc
      have ho' : h'.get? X.env.locals = some o := ho
      rw [z, he] at ho'
      cases ho'
      rw [hd] at hdd; cases hdd
    rw [upd_ne ne]; exact J.free
  · have ne : c ≠ x := fun z => by
      obtain ⟨v, o, ho, hdd⟩ := J.cell y c e
      have ho' : h'.get? c = some o := ho
      rw [z, he] at ho'
      cases ho'
      rw [hd] at hdd; cases hdd
    rw [upd_ne ne]; exact J.freeC y c e
  · obtain ⟨e, n, ne, nf, d⟩ := J.pin p hp
    have np : p.1 ≠ x := fun z => by
      have := (I.pin p hp).1
      rw [z, nold] at this; cases this
    exact ⟨e, by rw [upd_ne np]; exact n, ne, nf, d⟩
  · rintro h1 h2 ⟨oe', vs', e1, e2, e3⟩ k
    exact ⟨oe', vs', k oe' e1, e2, e3⟩

/-- the context of a handler's suite; nothing is raised in it -/
def exCx (X : Cx) (a : Addr) : Cx := { X with A := X.A.mark (some (.ref a)), calm := false, xe := fun _ _ => False }
theorem Inv.toEx (I : Inv X pins σ H s) (a : Addr) : Inv (exCx X a) pins σ H s :=
  ⟨⟨I.ok.mod, I.ok.kind, I.ok.glob, I.ok.blt, I.ok.above, I.ok.inj, I.ok.has, I.ok.cab, fun h => absurd (show false = true from h) (by decide), I.ok.frames, I.ok.stk, I.ok.exf, I.ok.bs, I.ok.bsz, I.ok.noex, I.ok.exfs, I.ok.funs, I.ok.frf⟩, I.os, I.bare, I.base, I.loc, I.cell, I.free, I.freeC, I.pin, I.hok, I.len⟩
theorem Inv.ofEx {a : Addr} (hd : X.calm = true → X.A.handled = none) (I : Inv (exCx X a) pins σ H s) : Inv X pins σ H s :=
  ⟨⟨I.ok.mod, I.ok.kind, I.ok.glob, I.ok.blt, I.ok.above, I.ok.inj, I.ok.has, I.ok.cab, hd, I.ok.frames, I.ok.stk, I.ok.exf, I.ok.bs, I.ok.bsz, I.ok.noex, I.ok.exfs, I.ok.funs, I.ok.frf⟩, I.os, I.bare, I.base, I.loc, I.cell, I.free, I.freeC, I.pin, I.hok, I.len⟩

/-- the handler's name is set to None and dropped -/
theorem unbind_ok {M : Model} {A : Around} {Ex : Value → Shared → Prop} {i : Nat} {n : Str} {pos : Pos} {Q : Unit → Shared → Prop} (I : Inv X pins σ H s) (hN : X.N.Nodup) (hi : X.N[i]? = some n) (hx : X.env.scope.names.lookup n = some .local)
    (h : ∀ s', Inv X pins (σ.set i none) H s' → Q () s') : wpAny M A (do bindName X.env n .none; unbindBehindTheSuite X.env n pos) Q Ex s := by
  have hcls : (X.env.scope.kind == .class || (X.env.scope.kind == .module && X.env.locals != X.env.globals)) = false := by rw [I.ok.kind]; rfl
  refine wpAny_bind (wpAny_bindName (store_ok (v := .non) I hN hi (.inl hx) rfl (fun s1 I1 => ?_) (.inr hx)))
  obtain ⟨m, hn, hl⟩ := id I1.loc
  have hiσ : i < σ.length := by rw [I.len]; exact (List.getElem?_eq_some_iff.mp hi).1
  obtain ⟨u, r, l⟩ := hl i n .non hi (by rw [List.getElem?_set_self hiσ]) (.inl hx)
  have hm : m n = some u := by
    rcases l with ⟨_, e⟩ | ⟨k, _⟩
    · exact e
    · have hx' : X.env.kindOf n = some .local := hx
      rcases k with k | k
      · rw [hx'] at k; cases k
      · rw [hx'] at k; cases k
  unfold unbindBehindTheSuite
  refine wpAny_onRaise (wpAny_unbindName_local hx hn hm hcls fun h' u' hn' hs => ?_)
  obtain ⟨oL, _, _, hoL, _⟩ := id hn
  have ext : ∀ b o, b ≠ X.env.locals → s1.heap.get? b = some o → h'.get? b = some o := fun b o hb e => (hs.2 b hb).trans e
  have ne0 : ∀ b o, X.s₀.heap.get? b = some o → b ≠ X.env.locals := fun b o e => Nat.ne_of_lt (Nat.lt_of_lt_of_le (Heap.lt_size e) I.ok.above)
  refine h _ ⟨I1.ok, I1.os, I1.bare, ⟨fun b o e n' hb hx' => ext b o (ne0 b o e) (I1.base.keep b o e n' hb hx'), fun b o e n' hb hx' => ?_, I1.base.free, fun b o e hx' => ?_, I1.base.tups, I1.base.frzs, I1.base.tbls⟩, ⟨_, hn', fun j y v' e1 e2 e3 => ?_⟩, fun y c e => ?_, I1.free, I1.freeC, fun p hp => ?_, fun b u e => ?_, ?_⟩
  · obtain ⟨sl, e1⟩ := I1.base.slot b o e n' hb hx'
    exact ⟨sl, ext b _ (ne0 b o e) e1⟩
  · obtain ⟨o', e1⟩ := I1.base.there b o e hx'
    exact ⟨o', ext b o' (ne0 b o e) e1⟩
  · by_cases hj : j = i
    · subst hj
      rw [List.getElem?_set_self hiσ] at e2
      cases e2
    · rw [List.getElem?_set_ne (Ne.symm hj)] at e2
      have e2' : (σ.set i (some V.non))[j]? = some (some v') := by rw [List.getElem?_set_ne (Ne.symm hj)]; exact e2
      obtain ⟨u2, r2, q⟩ := hl j y v' e1 e2' e3
      refine ⟨u2, r2, ?_⟩
      rcases q with ⟨k, e⟩ | ⟨k, c, e, z⟩
      · refine .inl ⟨k, ?_⟩
        have : y ≠ n := fun e => hj (nodup_ix hN e1 (e ▸ hi))
        simp [this, e]
      · obtain ⟨o, ho, hd⟩ := z
        exact .inr ⟨k, c, e, o, ext c o (I1.cne y c e) ho, hd⟩
  · obtain ⟨v, o, ho, hd⟩ := I1.cell y c e
    exact ⟨v, o, ext c o (I1.cne y c e) ho, hd⟩
  · obtain ⟨e, n', ne, nf, d⟩ := I1.pin p hp
    exact ⟨ext p.1 p.2 ne e, n', ne, nf, d⟩
  · refine (I1.hok b u e).stay (fun c v hc q => ext c v (fun z => ?_) q) (fun _ q => q) fun _ _ q => q
    have fr := I1.free
    rcases hc with rfl | hc
    · rw [z] at e; rw [fr] at e; cases e
    · rw [z] at hc; rw [fr] at hc; cases hc
  · rw [List.length_set]; exact I.len
end

theorem ld_globA {X : Cx} {M : Model} {A : Around} {E : Value → Shared → Prop} {pins : List (Addr × Obj)} {s : Shared} {σ : St} {H : Hp} {x : Str} {u : Value} {pos : Pos} {Q : Value → Shared → Prop} (I : Inv X pins σ H s) (hg : Gl X x) (hm : X.mg x = some u) (h : Q u s)
    (hd : (x == ("__debug__" : Str)) = false := by decide) : wpAny M A (eval (.Name x pos) X.env) Q E s :=
  Calls.Name_function_global I.ok.kind hg (Calls.loadGlobal_global (by rw [I.ok.glob]; exact I.mod.glob.keeps I.bk) hm h) hd
/-- what a handler asks: the class matches; the suite is read with its name bound -/
def exHit (K : PySem.W.Frag) (hc : Value) (j : Nat) (ts : TS) (D : Ends) (σ : St) : XK := fun C _ H2 => PySem.W.exmOne K C hc = some true ∧ ∀ a, H2 a = none →
  ts { nx := fun σ' H' => D.nx (σ'.set j none) H', rt := D.rt, bk := fun σ' H' => D.bk (σ'.set j none) H', ct := fun σ' H' => D.ct (σ'.set j none) H' } (σ.set j (some (.ref a))) (upd H2 a (excO a C))
section
variable {X : Cx} {k : Nat} {f : Addr} {fd : FuncData} {ps : List Str} {sp : Sp} {fx y n cn : Str} {e : Expr} {es : List Expr} {t : TA} {b₀ : Stmt} {suite : List Stmt} {i j : Nat} {py p pos spos cp hpos tpos : Pos} {hc : Value} {ts : TS}
theorem caught {pins : List (Addr × Obj)} {σ : St} {H : Hp} {s s' : Shared} {D : Ends} {ev : Value} (I : Inv X pins σ H s) (hq : CXr X.prog X.w X.stack H s (exHit X.K hc j ts D σ) ev s') (hcalm : X.calm = true) (hstk : X.stack = X.env :: X.outer) (hfr : X.env.frame = some X.env.locals)
    (hN : X.N.Nodup) (hj : X.N[j]? = some n) (hn : X.env.scope.names.lookup n = some .local) (hcn : ∀ {M : Model} {A : Around} {Ex : Value → Shared → Prop} {pins : List (Addr × Obj)} {σ : St} {H : Hp} {s : Shared} {Q : Value → Shared → Prop}, Inv X pins σ H s → Q hc s → wpAny M A (eval (.Name cn cp) X.env) Q Ex s)
    (hs : ∀ a, PSs (exCx X a) (b₀ :: suite) ts) :
    wpAny (model X.prog X.w) X.A (noteFrame ev X.env) (fun _ s₂ => wpAny (model X.prog X.w) X.A (setFlight ev none) (fun _ s₃ => wpAny (model X.prog X.w) X.A (handleBy ev X.env [.ExceptHandler (some (.Name cn cp)) (some n) (b₀ :: suite) hpos]) (SP X pins D) X.xe s₃) X.xe s₂) X.xe s' := by
  obtain ⟨x, C, H', B, a0, rfl, F⟩ := hq
  obtain ⟨hex, hsuite⟩ := F.wish
  have fly0 := F.fly
  rw [hstk] at fly0
  have hframes : X.A.frames = some (X.env :: X.outer) := by rw [I.ok.frames, hstk]
  refine wpAny_looks_onW hframes hfr fly0 fun h₄ held up₄ => ?_
  refine wpAny_landsW held fun h₅ fly₅ up₅ => ?_
  have J₅ : Inv X pins σ H' { s' with heap := h₅ } := I.fly F fly₅.1 (up₄.trans up₅)
  have LT : PySem.W.Looks (model X.prog X.w) h₅ (typeOf (.ref x)) C := by
    obtain ⟨ob, e1, e2⟩ := fly₅.there
    intro A' Q' E' s'' k q
    unfold typeOf
    have e1' := k x ob e1
    refine wpAny_bind (wpAny_loadPart e1' ?_)
    rw [e2]
    exact wpAny_pure q
  refine wpAny_handleBy_cons (codeAny_handlers_test (hcn J₅ ?_)) (by intro q; cases q)
  refine (PySem.W.exm_one J₅.kIn LT hex).here ?_
  refine codeAny_handlers_suite_as ?_
  refine lands_againW fly₅ fun h₆ fly₆ up₆ => ?_
  have J₆ : Inv X pins σ H' { s' with heap := h₆ } := I.fly F fly₆.1 ((up₄.trans up₅).trans up₆)
  have fly₆' : Heap.FlyingW B X.stack x C a0 h₆ := by rw [hstk]; exact fly₆
  obtain ⟨J₇, hx⟩ := I.exc F J₆ fly₆'
  refine store_ok (v := .ref x) J₇ hN hj (.inl hn) rfl (fun s₇ J₈ => ?_) (.inr hn)
  refine wpAny_mono (hs x pins s₇ _ _ _ (J₈.toEx x) (hsuite x hx)) (fun fl s₈ q => ?_) fun _ _ z => z.elim
  have hd : X.calm = true → X.A.handled = none := I.ok.hd
  cases fl with
  | next =>
    obtain ⟨σ', H2, K1, q⟩ := q
    exact unbind_ok (K1.ofEx hd) hN hj hn fun s₉ K2 => ⟨_, H2, K2, q⟩
  | brk =>
    obtain ⟨σ', H2, K1, q⟩ := q
    exact unbind_ok (K1.ofEx hd) hN hj hn fun s₉ K2 => ⟨_, H2, K2, q⟩
  | cont =>
    obtain ⟨σ', H2, K1, q⟩ := q
    exact unbind_ok (K1.ofEx hd) hN hj hn fun s₉ K2 => ⟨_, H2, K2, q⟩
  | ret u =>
    obtain ⟨v, σ', H2, K1, r, q⟩ := q
    exact unbind_ok (K1.ofEx hd) hN hj hn fun s₉ K2 => ⟨v, _, H2, K2, r, q⟩

/-- the callee runs; an exception of it is wanted as Eo says -/
theorem run_fnE {pins : List (Addr × Obj)} {σ : St} {H : Hp} {s : Shared} {Q : VK} {us : List Value} {vs : List V} {E : XK} {Eo : Value → Shared → Prop} (F : FnOk X.prog X.w X.K X.mg X.base (CXr X.prog X.w) k f fd ps sp) (hr : Room k X.A) (hb : Binds X.K fd ps [])
    (I : Inv X pins σ H s) (r : Vals vs us) (h : sp vs H Q E) (hx : ∀ e s', CXr X.prog X.w X.stack H s E e s' → Eo e s') : wpAny (model X.prog X.w) X.A (call (.ref f) us) (EP X pins σ Q) Eo s := by
  have hl : us.length = ps.length := by rw [← r.length]; exact F.len _ _ _ _ h
  have hb' := hb s us I.kIn (by rw [List.append_nil]; exact hl)
  rw [List.append_nil] at hb'
  refine wpAny_call (codeAny_mono (F.run X.A X.stack s H ⟨us, []⟩ us vs Q E hr I.env0 hb' r h) fun r s' hq => ?_)
  cases r with
  | error e => exact hx e s' hq
  | ok fl =>
    cases fl with
    | ret u => exact I.after hq
    | next => exact False.elim hq
    | brk => exact False.elim hq
    | cont => exact False.elim hq
/-- try: y = f(..) except C as n: .. -/
def tTryA (K : PySem.W.Frag) (sp : Sp) (t : TA) (i : Nat) (hc : Value) (j : Nat) (ts : TS) : TS := fun D σ H => t σ H fun vs H1 => sp vs H1 (fun v H2 => D.nx (σ.set i (some v)) H2) (exHit K hc j ts D σ)
theorem ps_try_asg (F : FnOk X.prog X.w X.K X.mg X.base (CXr X.prog X.w) k f fd ps sp) (hr : Room k X.A) (hg : Gl X fx) (hm : X.mg fx = some (.ref f)) (hk : PySem.W.keepIn X.K (.ref f) = true) (hb : Binds X.K fd ps []) (ha : PA X.nox (e :: es) t)
    (hcalm : X.calm = true) (hstk : X.stack = X.env :: X.outer) (hfr : X.env.frame = some X.env.locals) (hN : X.N.Nodup) (hi : X.N[i]? = some y) (hy : Loc X.env.scope y) (hj : X.N[j]? = some n) (hn : X.env.scope.names.lookup n = some .local)
    (hcn : ∀ {M : Model} {A : Around} {Ex : Value → Shared → Prop} {pins : List (Addr × Obj)} {σ : St} {H : Hp} {s : Shared} {Q : Value → Shared → Prop}, Inv X pins σ H s → Q hc s → wpAny M A (eval (.Name cn cp) X.env) Q Ex s) (hs : ∀ a, PSs (exCx X a) (b₀ :: suite) ts)
    (hf : X.fn y = true ∨ X.env.scope.names.lookup y = some .local := by first | exact .inl rfl | exact .inr rfl | assumption) (hdb : (fx == ("__debug__" : Str)) = false := by decide) (he : starEach (e :: es) X.env = (false, eval e X.env) :: starEach es X.env := by rfl) (hpl : (backTo pos (starEach es X.env)).any (·.1) = false := by rfl)
    (hsw : swapsWith (.Call (.Name fx p) (e :: es) [] pos) (some (.Name y py)) spos.line X.env = pure false := by rfl) :
    PS X (.Try [.Assign [.Name y py] (.Call (.Name fx p) (e :: es) [] pos) spos] [.ExceptHandler (some (.Name cn cp)) (some n) (b₀ :: suite) hpos] [] [] tpos) (tTryA X.K sp t i hc j ts) := by
  intro pins s σ H D I h
  refine wpAny_Try_except (wpAny_execs_cons (wpAny_Assign_Name (wpAny_Call_Name_kw (ld_glob I hg hm ?_ hdb)) hsw))
  refine PySem.W.callWith_K (h₀ := X.base) I.ok.mod.kin hk ?_ he hpl
  refine wpAny_mono (ha pos pins s σ H _ (I.wish _) h) (fun us s1 ⟨vs, H1, I1, r, q⟩ => ⟨I1.kIn, ?_⟩) fun _ _ z => z.elim
  have I1' : Inv X pins σ H1 s1 := I1.unwish
  refine thn (run_fnE F hr hb I1' r q fun ev s' hq => caught I1' hq hcalm hstk hfr hN hj hn hcn hs) fun u s2 ⟨v, H2, I2, r2, q2⟩ => ?_
  exact store_ok I2 hN hi hy r2 (fun s3 I3 => wpAny_execs_nil (wpAny_execs_nil ⟨_, H2, I3, q2⟩)) hf
/-- try: f(..) except C as n: .. -/
def tTryE (K : PySem.W.Frag) (sp : Sp) (t : TA) (hc : Value) (j : Nat) (ts : TS) : TS := fun D σ H => t σ H fun vs H1 => sp vs H1 (fun _ H2 => D.nx σ H2) (exHit K hc j ts D σ)
theorem ps_try_expr (F : FnOk X.prog X.w X.K X.mg X.base (CXr X.prog X.w) k f fd ps sp) (hr : Room k X.A) (hg : Gl X fx) (hm : X.mg fx = some (.ref f)) (hk : PySem.W.keepIn X.K (.ref f) = true) (hb : Binds X.K fd ps []) (ha : PA X.nox (e :: es) t)
    (hcalm : X.calm = true) (hstk : X.stack = X.env :: X.outer) (hfr : X.env.frame = some X.env.locals) (hN : X.N.Nodup) (hj : X.N[j]? = some n) (hn : X.env.scope.names.lookup n = some .local)
    (hcn : ∀ {M : Model} {A : Around} {Ex : Value → Shared → Prop} {pins : List (Addr × Obj)} {σ : St} {H : Hp} {s : Shared} {Q : Value → Shared → Prop}, Inv X pins σ H s → Q hc s → wpAny M A (eval (.Name cn cp) X.env) Q Ex s) (hs : ∀ a, PSs (exCx X a) (b₀ :: suite) ts)
    (hdb : (fx == ("__debug__" : Str)) = false := by decide) (he : starEach (e :: es) X.env = (false, eval e X.env) :: starEach es X.env := by rfl) (hpl : (backTo pos (starEach es X.env)).any (·.1) = false := by rfl)
    (hsw : swapsWith (.Call (.Name fx p) (e :: es) [] pos) none spos.line X.env = pure false := by rfl) :
    PS X (.Try [.Expr (.Call (.Name fx p) (e :: es) [] pos) spos] [.ExceptHandler (some (.Name cn cp)) (some n) (b₀ :: suite) hpos] [] [] tpos) (tTryE X.K sp t hc j ts) := by
  intro pins s σ H D I h
  refine wpAny_Try_except (wpAny_execs_cons (wpAny_Expr_any (wpAny_Call_Name_kw (ld_glob I hg hm ?_ hdb)) I.quiet hsw))
  refine PySem.W.callWith_K (h₀ := X.base) I.ok.mod.kin hk ?_ he hpl
  refine wpAny_mono (ha pos pins s σ H _ (I.wish _) h) (fun us s1 ⟨vs, H1, I1, r, q⟩ => ⟨I1.kIn, ?_⟩) fun _ _ z => z.elim
  have I1' : Inv X pins σ H1 s1 := I1.unwish
  refine thn (run_fnE F hr hb I1' r q fun ev s' hq => caught I1' hq hcalm hstk hfr hN hj hn hcn hs) fun u s2 ⟨v, H2, I2, r2, q2⟩ => ?_
  exact wpAny_execs_nil (wpAny_execs_nil ⟨_, H2, I2, q2⟩)

/-! ### isinstance of a caught exception, where the answer is True -/
theorem exc_looks {M : Model} {h : Heap} {a : Addr} {oe : Obj} {C : Value} (e1 : h.get? a = some oe) (e2 : oe.cls = C) : PySem.W.Looks M h (typeOf (.ref a)) C := by
  intro A' Q' E' s'' k q
  unfold typeOf
  refine wpAny_bind (wpAny_loadPart (k a oe e1) ?_)
  rw [e2]
  exact wpAny_pure q
theorem exc_answers {K : PySem.W.Frag} {a : Addr} {C c : Value} (e : PySem.W.kitOne K C c = some true) : Answers (fun s => K.In s.heap ∧ ∃ oe, s.heap.get? a = some oe ∧ oe.cls = C) (.ref a) c true := by
  intro dep tk prog w A R s hs
  obtain ⟨h0, g, d, tt, os⟩ := s
  obtain ⟨⟨X, oe, e1, e2⟩, hq⟩ := hs
  have LT := exc_looks (M := model prog w) e1 e2
  unfold PySem.W.kitOne at e
  unfold Builtin.«isinstance.nested»
  refine wpAny_bind (LT.at ?_)
  by_cases q : (C == c) = true
  · rw [if_pos q]
    first
      | exact wpAny_bind (wpAny_rule (hq tt))
      | exact wpAny_bind (wpAny_rule (wpAny_pure (hq tt)))
  · rw [if_neg q] at e
    rw [if_neg q]
    obtain ⟨hty, his, hsub⟩ := PySem.W.kit_cls (M := model prog w) X e
    have LI : PySem.W.Looks (model prog w) h0 (isInstance (.ref a) c) true := LT.andThen hsub
    refine wpAny_bind (hty.at ?_)
    rw [if_pos (by decide)]
    k_delta "plainIsInstance"
    refine wpAny_bind (wpAny_bind (his.at ?_))
    simp only [Bool.not_true, Bool.false_eq_true, if_false]
    refine wpAny_bind (LI.at ?_)
    first
      | exact wpAny_pure (wpAny_pure (hq tt))
      | (simp only [if_true]; first | exact wpAny_pure (wpAny_pure (hq tt)) | exact wpAny_pure (hq tt) | exact wpAny_bind (wpAny_pure (wpAny_pure (hq tt))))
def clsV : V → Option Value
  | .ref b => some (.ref b)
  | .ty n => some (.type n)
  | _ => none
theorem call_isi_exc : CallR X (.builtin "isinstance") (fun xs H Q => ∃ (a : Addr) (cv : V) (c C : Value), xs = [.ref a, cv] ∧ clsV cv = some c ∧ H a = some (excO a C) ∧ PySem.W.kitOne X.K C c = some true ∧ Q (.bl true) H) := by
  intro pins s σ H xs us Q I r h
  obtain ⟨a, cv, c, C, rfl, rc, ha, e, q⟩ := h
  obtain ⟨u, u2, rfl, rx, r2⟩ := vals2 r
  cases rx
  have eu : u2 = c := by
    cases cv with
    | ref b => cases r2; exact Option.some.inj rc
    | ty n => cases r2; exact Option.some.inj rc
    | _ => cases rc
  subst eu
  obtain ⟨⟨oe, vs, e1, e2, _⟩, _, _⟩ := (show ObjOk X.prog X.w H s.heap a (excO a C) from I.hok a _ ha)
  exact call_isinstance (S := fun _ R s => (X.K.In s.heap ∧ ∃ oe, s.heap.get? a = some oe ∧ oe.cls = C) ∧ ∀ tk, R (.ok (.ret (.bool true))) { s with toks := tk })
    (fun prog w A R s hs => isinstance_outer (exc_answers e 0 _ prog w A R s hs) (by intro z; cases z)) ⟨⟨I.kIn, oe, e1, e2⟩, fun tk => ⟨.bl true, H, I.tok _, rfl, q⟩⟩
def rIsiX (K : PySem.W.Frag) : List V → Hp → VK → Prop := fun xs H Q => ∃ (a : Addr) (cv : V) (c C : Value), xs = [.ref a, cv] ∧ clsV cv = some c ∧ H a = some (excO a C) ∧ PySem.W.kitOne K C c = some true ∧ Q (.bl true) H
theorem call_isi_excK {K : PySem.W.Frag} (h : X.K = K) : CallR X (.builtin "isinstance") (rIsiX K) := by
  subst h
  exact call_isi_exc
theorem bt_ValueError : bootBuiltins "ValueError" = some (.type "ValueError") := by decide +kernel
/-- an own error class of the text, under ValueError -/
structure ClsAt (K : PySem.W.Frag) (mg : Str → Option Value) (x : Str) (C : Addr) : Prop where
  m : mg x = some (.ref C)
  exc : PySem.W.excIn K C [.type "ValueError", .type "Exception", .type "BaseException", .type "object"] "ValueError.__new__" = true
end
end L2
/-! My own rules over the hand layer: a callee that could raise and doesn't; for over a dict; for over enumerate; list(range(n)); list.insert. -/
namespace L2
open PySem PySem.Spec PyProof.Rows
/-- a callee that may raise, but here doesn't -/
theorem passX {X : Cx} : Passes (CXr X.prog X.w) X (fun _ _ _ => False) := fun _ _ _ _ _ _ _ h => by
  obtain ⟨x, C, H', B, a0, _, F⟩ := h
  exact F.wish.elim

/-! ### for over a dict of ints; the dict is known while it is walked -/
theorem Inv.freezeD {X : Cx} {pins : List (Addr × Obj)} {σ : St} {H : Hp} {s : Shared} {a : Addr} {ob : Obj} {kvs : List (Key × V)} (I : Inv X pins σ H s) (ha : H a = some (.dK kvs)) (ho : s.heap.get? a = some ob) : Inv X pins σ (upd H a (.frz ob (.dK kvs))) s := by
  have ne : ∀ c v, H c = some v → v ≠ .dK kvs → c ≠ a := fun c v e n z => by subst z; rw [ha] at e; exact n (Option.some.inj e).symm
  have st : ∀ b v, H b = some v → ObjOk X.prog X.w (upd H a (.frz ob (.dK kvs))) s.heap b v := fun b v e => (I.hok b v e).stay (fun _ _ _ q => q) (fun c q => by rw [upd_ne (ne c _ q (by intro z; cases z))]; exact q) fun c xs q => by rw [upd_ne (ne c _ q (by intro z; cases z))]; exact q
  have hk : HOk X.prog X.w (upd H a (.frz ob (.dK kvs))) s.heap := fun b v e => by
    by_cases hb : b = a
    · subst hb; rw [upd_same] at e; cases e; exact ⟨ho, st _ _ ha⟩
    · rw [upd_ne hb] at e; exact st b v e
  exact I.un (t' := s.toks) (Un.write (x := a) (e := a) (by rw [ha]; trivial) (.inl rfl) (fun _ _ _ q => q) ⟨ob, ho⟩) hk
def DObj (P : Program) (w : World) (ob : Obj) (ws : List (Key × Value)) (ep : Nat) : Prop := ∃ es, ob.ExactDict ∧ ob.data = .dict es ep ∧ KeysOf (mixKind P w) es ∧ Pairs (mixKind P w) es.toList ws ∧ (ws.map (·.1)).Nodup
def Itd (a : Addr) (ob : Obj) (ks : List Int) : It :=
  ⟨fun i H => (∃ u, H a = some (.frz ob u)) ∧ i < ks.length, fun i H x H' => H' = H ∧ ∃ k, ks[i]? = some k ∧ x = .int k, fun i H => (∃ u, H a = some (.frz ob u)) ∧ ks.length ≤ i⟩
theorem turn_dict {P : Program} {w : World} {K : PySem.W.Frag} {tg : Expr} {ob : Obj} {ws : List (Key × Value)} {ep : Nat} {ks : List Int} (a it : Addr) (D : DObj P w ob ws ep) (hk : ws.map (·.1) = ks.map Sum.inl) :
    Turn P w K tg (Itd a ob ks) [it] it (fun i h => h.IsKeyIter it a i ws.length ep) where
  mem := by simp
  obj := fun i h st b hb => by
    have e : b = it := by simpa using hb
    subst e
    obtain ⟨o, e, c, d⟩ := st
    exact ⟨o, e, fun v z => by rw [d] at z; cases z⟩
  keep := fun i h h' st k => st.at fun o e => k it (by simp) o e
  item := by
    intro X hP hw hK hc i pins s σ H E I hf st hg
    subst hP hw hK
    obtain ⟨⟨u, hu⟩, hi⟩ := hg
    obtain ⟨es, d1, d2, d3, d4, d5⟩ := D
    have ho : s.heap.get? a = some ob := (show ObjOk X.prog X.w H s.heap a (.frz ob u) from I.hok a _ hu).1
    have hm : s.heap.DictAt (mixKind X.prog X.w) a ws ep := ⟨ob, es, ho, d1, d2, d3, d4, d5⟩
    have hl : ws.length = ks.length := by have := congrArg List.length hk; rwa [List.length_map, List.length_map] at this
    obtain ⟨⟨k, x⟩, hx⟩ : ∃ p, ws[i]? = some p := ⟨ws[i]'(by omega), by simp [hl, hi]⟩
    obtain ⟨k0, hk0⟩ : ∃ k0, ks[i]? = some k0 := ⟨ks[i], by simp [hi]⟩
    have ek : k = Sum.inl k0 := by
      have e := congrArg (fun l => l[i]?) hk
      simp only [List.getElem?_map, hx, hk0] at e
      exact Option.some.inj e
    subst ek
    obtain ⟨f0, f1, f2, f3, f4, f5⟩ := hf it (by simp)
    refine wpAny_pyNext_dict_item st hm hx fun key h' hkey st' sb => ?_
    obtain ⟨t, rfl⟩ := Value.isInt_shape (k := k0) (v := key) hkey
    have I1 : Inv X pins σ H { s with heap := h' } := I.turned (t' := s.toks) (fun b o hb e => (sb.2 b hb).trans e) f0 f1 f3 f4 f5
    obtain ⟨o, e, c, d⟩ := id st'
    exact ⟨_, rfl, go_of (s := { s with heap := h' }) e c d (by decide) ⟨.int k0, H, I1, ⟨t, rfl⟩, ⟨rfl, k0, hk0, rfl⟩, st', fun b hb => (hf b hb).1⟩⟩
  done := by
    intro X hP hw hK hc i pins s σ H E I hf st hg
    subst hP hw hK
    obtain ⟨⟨u, hu⟩, hi⟩ := hg
    obtain ⟨es, d1, d2, d3, d4, d5⟩ := D
    have ho : s.heap.get? a = some ob := (show ObjOk X.prog X.w H s.heap a (.frz ob u) from I.hok a _ hu).1
    have hm : s.heap.DictAt (mixKind X.prog X.w) a ws ep := ⟨ob, es, ho, d1, d2, d3, d4, d5⟩
    have hl : ws.length = ks.length := by have := congrArg List.length hk; rwa [List.length_map, List.length_map] at this
    obtain ⟨f0, f1, f2, f3, f4, f5⟩ := hf it (by simp)
    exact wpAny_pyNext_dict_end (I.ok.hd hc) st hm (List.getElem?_eq_none (by omega)) fun h' eb => ⟨rfl, I.turned (t' := s.toks) (fun b o hb e => eb b o hb e) f0 f1 f3 f4 f5⟩
  self := fun _ _ _ _ _ st h => wpAny_pyIter_keyiter st h
def iDict (tl : TE) : TI := fun σ H R => tl σ H fun x H1 => ∃ (a : Addr) (kvs : List (Key × V)) (ks : List Int), x = .ref a ∧ kvs.map (·.1) = ks.map Sum.inl ∧
  ((H1 a = some (.dK kvs) ∧ ∀ ob, R (Itd a ob ks) (upd H1 a (.frz ob (.dK kvs)))) ∨ (∃ ob, H1 a = some (.frz ob (.dK kvs)) ∧ R (Itd a ob ks) H1))
theorem pi_dict {X : Cx} {tg l : Expr} {tl : TE} (hl : PE X l tl) : PI X tg l (iDict tl) := by
  intro pins s σ H R I h
  refine thn (hl pins s σ H _ I h) fun v s1 ⟨x, H1, I1, r1, q1⟩ => ?_
  obtain ⟨a, kvs, ks, e, hks, q⟩ := q1
  subst e
  cases r1
  obtain ⟨ob, H2, I2, hf, q2⟩ : ∃ ob H2, Inv X pins σ H2 s1 ∧ H2 a = some (.frz ob (.dK kvs)) ∧ R (Itd a ob ks) H2 := by
    rcases q with ⟨ha, q⟩ | ⟨ob, ha, q⟩
    · obtain ⟨z, hd, ws, rel, dd⟩ := dk_of I1.hok ha
      obtain ⟨ob, es, ep, ho, _⟩ := id dd
      exact ⟨ob, _, I1.freezeD ha ho, upd_same, q ob⟩
    · exact ⟨ob, H1, I1, ha, q⟩
  obtain ⟨ho, z, hd, ws, rel, dd⟩ := (show ObjOk X.prog X.w H2 s1.heap a (.frz ob (.dK kvs)) from I2.hok a _ hf)
  obtain ⟨o', es, ep, ho', hx, hdat, hK, hP, hN⟩ := dd
  rw [ho] at ho'
  cases ho'
  refine wpAny_pyIter_dict (knd := mixKind X.prog X.w) (kvs := ws) (ep := ep) hd ⟨ob, es, ho, hx, hdat, hK, hP, hN⟩ ?_
  refine ⟨s1.heap.objs.size, [s1.heap.objs.size], _, _, H2, rfl, I2.kept (t' := s1.toks) fun b o e => Heap.get?_push_of_some _ e, turn_dict (ks := ks) a _ ⟨es, hx, hdat, hK, hP, hN⟩ (by rw [← rel.keys]; exact hks), ⟨_, Heap.get?_push_size _ rfl, rfl, rfl⟩, fun b hb => ?_, q2⟩
  have e : b = s1.heap.objs.size := by simpa using hb
  subst e
  exact I2.fpOk (Nat.le_refl _) (I2.hok.fresh (Nat.le_refl _))
theorem for_dict {a : Addr} {ob : Obj} {ks : List Int} {g : TG} {tb : TS} {D : Ends} {σ : St} {H : Hp} (Pv : Nat → St → Hp → Prop) (h0 : Pv 0 σ H) (hl : ∀ i σ H, i ≤ ks.length → Pv i σ H → ∃ u, H a = some (.frz ob u))
    (hs : ∀ i k σ H, ks[i]? = some k → Pv i σ H → g (.int k) σ H fun σ2 H2 => tb { D with nx := Pv (i + 1), ct := Pv (i + 1), bk := D.nx } σ2 H2) (hd : ∀ σ H, Pv ks.length σ H → D.nx σ H) :
    ∃ W : Nat → Nat → St → Hp → Prop, (∃ m, W 0 m σ H) ∧ ∀ i m σ H, W i m σ H →
      ((Itd a ob ks).stop i H ∧ D.nx σ H) ∨ ((Itd a ob ks).go i H ∧ ∃ N : St → Hp → Prop, (∀ σ' H', N σ' H' → ∃ m', m' < m ∧ W (i + 1) m' σ' H') ∧ ∀ x H', (Itd a ob ks).yld i H x H' → g x σ H' fun σ2 H2 => tb { D with nx := N, ct := N, bk := D.nx } σ2 H2) := by
  refine ⟨fun i m σ H => m = ks.length - i ∧ i ≤ ks.length ∧ Pv i σ H, ⟨ks.length, by simp, Nat.zero_le _, h0⟩, ?_⟩
  rintro i m σ H ⟨rfl, hi, p⟩
  have q := hl i σ H hi p
  by_cases hlt : i < ks.length
  · refine .inr ⟨⟨q, hlt⟩, Pv (i + 1), fun σ' H' p' => ⟨ks.length - (i + 1), by omega, rfl, hlt, p'⟩, fun x H' y => ?_⟩
    obtain ⟨e, k, hk, ex⟩ := y
    subst e ex
    exact hs i k σ _ hk p
  · have e : i = ks.length := by omega
    subst e
    exact .inl ⟨⟨q, Nat.le_refl _⟩, hd σ H p⟩

/-! ### for number, x in enumerate(a list) -/
def Ite (K : PySem.W.Frag) (a : Addr) : It :=
  ⟨fun i H => ∃ xs x, SqL K H a xs ∧ xs[i]? = some x, fun i H x H' => ∃ p v, H p = none ∧ (∀ xs, SqL K H a xs → xs[i]? = some v) ∧ x = .ref p ∧ H' = upd H p (.tup [.int i, v]), fun i H => ∃ xs, SqL K H a xs ∧ xs.length ≤ i⟩
theorem turn_enum {P : Program} {w : World} {K : PySem.W.Frag} {elts : List Expr} {x1 : Nat} {pos : Pos} (a e it : Addr) (hne : e ≠ it) : Turn P w K (.Tuple elts x1 pos) (Ite K a) [e, it] e (fun i h => (∃ old, IsEnum h e it i old) ∧ h.IsListIter it a i) where
  mem := by simp
  obj := fun i h st b hb => by
    obtain ⟨⟨old, he⟩, o, ho, c, d⟩ := st
    rcases List.mem_cons.mp hb with z | z
    · subst z; exact ⟨_, he, fun v z => by cases z⟩
    · have z' : b = it := by simpa using z
      subst z'; exact ⟨o, ho, fun v z => by rw [d] at z; cases z⟩
  keep := fun i h h' st k => by
    obtain ⟨⟨old, he⟩, hit⟩ := st
    exact ⟨⟨old, k e (by simp) _ he⟩, hit.at fun o q => k it (by simp) o q⟩
  item := by
    intro X hP hw hK hc i pins s σ H E I hf st hg
    subst hP hw hK
    obtain ⟨xs, x, hq, hx⟩ := hg
    obtain ⟨its, rv, p, hz⟩ := I.list hq
    obtain ⟨u, hu, ru⟩ := rv.get hx
    obtain ⟨⟨old, he⟩, hit⟩ := st
    obtain ⟨e0, e1, e2, e3, e4, e5⟩ := hf e (by simp)
    obtain ⟨f0, f1, f2, f3, f4, f5⟩ := hf it (by simp)
    refine wpAny_pyNext_enum_item he hit p.isList (x := u) (by simpa using hu) hne fun h' ho hit' hT hsz hk => ?_
    refine ⟨_, rfl, wpAny_letOwnedTupleGo_enum ho fun h2 he2 sb => ?_⟩
    have sb' : Heap.SameBut e h' h2 := sb
    have he_lt : e < s.heap.objs.size := Heap.lt_size he
    have hT2 : h2.get? s.heap.objs.size = some { cls := .type "tuple", data := .seq #[.int i s.toks, u] } := (sb'.2 _ (Nat.ne_of_gt he_lt)).trans hT
    have kp : ∀ b o, b ≠ e → b ≠ it → s.heap.get? b = some o → h2.get? b = some o := fun b o h1 h3 q => (sb'.2 b h1).trans (hk b o h1 h3 q)
    have hTn : H s.heap.objs.size = none := I.hok.fresh (Nat.le_refl _)
    have hl2 : h2.IsListIter it a (i + 1) := hit'.at fun o q => (sb'.2 it (Ne.symm hne)).trans q
    have hk2 : HOk X.prog X.w (upd H s.heap.objs.size (.tup [.int i, x])) h2 := fun b v q => by
      by_cases hb : b = s.heap.objs.size
      · subst hb
        rw [upd_same] at q
        cases q
        exact ⟨by show 2 ≤ sizeLine; decide, [.int i s.toks, u], .cons ⟨s.toks, rfl⟩ (.cons ru .nil), ⟨_, hT2, rfl, _, rfl⟩⟩
      · rw [upd_ne hb] at q
        refine (I.hok b v q).stay (fun c o hc q' => kp c o ?_ ?_ q') (fun c q' => by rw [upd_ne (ne_of_none q' hTn)]; exact q') fun c ys q' => by rw [upd_ne (ne_of_none q' hTn)]; exact q'
        · rcases hc with z | z
          · rw [z]; exact ne_of_none q e0
          · exact ne_of_none z e0
        · rcases hc with z | z
          · rw [z]; exact ne_of_none q f0
          · exact ne_of_none z f0
    have I2 : Inv X pins σ (upd H s.heap.objs.size (.tup [.int i, x])) { s with heap := h2, toks := s.toks + 1 } := by
      refine I.step (g' := s.gens) (d' := s.drawn) (t' := s.toks + 1) (ch := [e, it]) (fun b hb => ?_) (fun b o _ _ hc q _ => kp b o (fun z => hc (by simp [z])) (fun z => hc (by simp [z])) q) (fun b o _ _ hc q _ => ⟨o.slots, kp b o (fun z => hc (by simp [z])) (fun z => hc (by simp [z])) q⟩)
        (fun b o _ q n => by rw [upd_ne (Nat.ne_of_lt (Heap.lt_size q))]; exact n) (fun b o hc q => ⟨o, kp b o (fun z => hc (by simp [z])) (fun z => hc (by simp [z])) q⟩) (fun b ys q => by rw [upd_ne (ne_of_none q hTn)]; exact q) (fun b o v q => by rw [upd_ne (ne_of_none q hTn)]; exact q)
        (fun b ps q => ⟨#[], by rw [upd_ne (ne_of_none q hTn), q]; simp⟩) (fun m hm => ?_) hk2 I.bare
      · rcases List.mem_cons.mp hb with z | z
        · subst z; exact ⟨e3, e1, e4, e5⟩
        · have z' : b = it := by simpa using z
          subst z'; exact ⟨f3, f1, f4, f5⟩
      · obtain ⟨o, es, ep, q, r⟩ := hm
        exact ⟨o, es, ep, kp _ o (Ne.symm e1) (Ne.symm f1) q, r⟩
    refine ⟨.ref s.heap.objs.size, _, I2, rfl, ⟨_, x, hTn, fun ys hy => by rw [I.list_inj hy hq]; exact hx, rfl, rfl⟩, ⟨⟨u, by simpa using he2⟩, hl2⟩, fun b hb => ?_⟩
    rw [upd_ne (fun z => ?_)]
    · exact (hf b hb).1
    · rcases List.mem_cons.mp hb with y | y
      · rw [← y, z] at he_lt; exact Nat.lt_irrefl _ he_lt
      · have y' : b = it := by simpa using y
        obtain ⟨o, q, _⟩ := hit
        have := Heap.lt_size q
        rw [← y', z] at this; exact Nat.lt_irrefl _ this
  done := by
    intro X hP hw hK hc i pins s σ H E I hf st hg
    subst hP hw hK
    obtain ⟨xs, hq, hx⟩ := hg
    obtain ⟨its, rv, p, hz⟩ := I.list hq
    obtain ⟨⟨old, he⟩, hit⟩ := st
    obtain ⟨f0, f1, f2, f3, f4, f5⟩ := hf it (by simp)
    have hl := rv.length
    exact wpAny_pyNext_enum_end (I.ok.hd hc) he hit p.isList (by simp; omega) fun h' eb => ⟨rfl, I.turned (t' := s.toks) (fun b o hb e => eb b o hb e) f0 f1 f3 f4 f5⟩
  self := fun _ _ _ _ _ st h => by
    obtain ⟨⟨old, he⟩, _⟩ := st
    exact wpAny_pyIter_enum he h
theorem boot_enumerate : bootBuiltins "enumerate" = some (.type "enumerate") := by decide +kernel
def iEnum (K : PySem.W.Frag) (ta : TA) : TI := fun σ H R => ta σ H fun vs H1 => ∃ a, vs = [.ref a] ∧ (∃ xs, SqL K H1 a xs) ∧ R (Ite K a) H1
theorem pi_enum {X : Cx} {elts : List Expr} {x1 : Nat} {tp : Pos} {a : Expr} {ta : TA} {p pos : Pos} (hg : Gl X "enumerate") (hm : X.mg "enumerate" = none) (ha : PA X [a] ta) (hs : starEach [a] X.env = [(false, eval a X.env)] := by rfl) : PI X (.Tuple elts x1 tp) (.Call (.Name "enumerate" p) [a] [] pos) (iEnum X.K ta) := by
  intro pins s σ H R I h
  refine Call_ (ld_blt I hg hm boot_enumerate (PyProof.Rows.callWith_type1 (thn (ha pos pins s σ H _ I h) fun us s1 ⟨vs, H1, I1, r1, q1⟩ => ?_) hs rfl))
  obtain ⟨l, e, ⟨xs, hq⟩, q⟩ := q1
  subst e
  cases r1 with
  | cons r rr =>
    cases rr
    cases r
    obtain ⟨its, rv, pl, hz⟩ := I1.list hq
    refine call_enumerate_list pl.isList fun h' he hit hz' hk => wpAny_pyIter_enum he ?_
    have hn : s1.heap.objs.size ≤ s1.heap.objs.size + 1 := Nat.le_succ _
    refine ⟨s1.heap.objs.size + 1, [s1.heap.objs.size + 1, s1.heap.objs.size], _, _, H1, rfl, I1.kept (t' := s1.toks) hk, turn_enum l _ _ (Nat.ne_of_gt (Nat.lt_succ_self _)), ⟨⟨_, he⟩, hit⟩, fun b hb => ?_, q⟩
    rcases List.mem_cons.mp hb with z | z
    · subst z; exact I1.fpOk hn (I1.hok.fresh hn)
    · have z' : b = s1.heap.objs.size := by simpa using z
      subst z'; exact I1.fpOk (Nat.le_refl _) (I1.hok.fresh (Nat.le_refl _))
theorem for_enum {K : PySem.W.Frag} {a : Addr} {xs : List V} {g : TG} {tb : TS} {D : Ends} {σ : St} {H : Hp} (Pv : Nat → St → Hp → Prop) (h0 : Pv 0 σ H) (hl : ∀ i σ H, i ≤ xs.length → Pv i σ H → SqL K H a xs)
    (hs : ∀ i x σ H p, xs[i]? = some x → Pv i σ H → H p = none → g (.ref p) σ (upd H p (.tup [.int i, x])) fun σ2 H2 => tb { D with nx := Pv (i + 1), ct := Pv (i + 1), bk := D.nx } σ2 H2) (hd : ∀ σ H, Pv xs.length σ H → D.nx σ H) :
    ∃ W : Nat → Nat → St → Hp → Prop, (∃ m, W 0 m σ H) ∧ ∀ i m σ H, W i m σ H →
      ((Ite K a).stop i H ∧ D.nx σ H) ∨ ((Ite K a).go i H ∧ ∃ N : St → Hp → Prop, (∀ σ' H', N σ' H' → ∃ m', m' < m ∧ W (i + 1) m' σ' H') ∧ ∀ x H', (Ite K a).yld i H x H' → g x σ H' fun σ2 H2 => tb { D with nx := N, ct := N, bk := D.nx } σ2 H2) := by
  refine ⟨fun i m σ H => m = xs.length - i ∧ i ≤ xs.length ∧ Pv i σ H, ⟨xs.length, by simp, Nat.zero_le _, h0⟩, ?_⟩
  rintro i m σ H ⟨rfl, hi, p⟩
  have q := hl i σ H hi p
  by_cases hlt : i < xs.length
  · refine .inr ⟨⟨xs, xs[i], q, by simp [hlt]⟩, Pv (i + 1), fun σ' H' p' => ⟨xs.length - (i + 1), by omega, rfl, hlt, p'⟩, fun x H' y => ?_⟩
    obtain ⟨b, v, hn, hv, ex, e⟩ := y
    subst e ex
    exact hs i v σ _ b (hv xs q) p hn
  · have e : i = xs.length := by omega
    subst e
    exact .inl ⟨⟨xs, q, Nat.le_refl _⟩, hd σ H p⟩

/-! ### list(range(n)) -/
def tLRng (ta : TA) : TE := fun σ H Q => ta σ H fun vs H1 => ∃ j : Int, vs = [.int j] ∧ 0 ≤ j ∧ j ≤ 1000 ∧ ∀ p, H1 p = none → Q (.ref p) (upd H1 p (.lst ((List.range j.toNat).map fun k : Nat => V.int (k : Int))))
theorem range_vals : ∀ {n : Nat} {its : List Value}, its.length = n → (∀ (j : Nat) (v : Value), its[j]? = some v → ∃ t, v = .int (0 + (j : Int) * 1) t) → Vals ((List.range n).map fun k : Nat => V.int (k : Int)) its
  | 0, its, hl, _ => by
    rw [List.length_eq_zero_iff.mp hl]; exact .nil
  | n + 1, its, hl, h => by
    have hne : its ≠ [] := by intro z; rw [z] at hl; cases hl
    have hd := List.dropLast_concat_getLast hne
    rw [List.range_succ, List.map_append, ← hd]
    refine Vals.append (range_vals (by rw [List.length_dropLast, hl]; rfl) fun j v hj => ?_) (.cons ?_ .nil)
    · refine h j v ?_
      rw [← hd, List.getElem?_append_left (List.getElem?_eq_some_iff.mp hj).1]
      exact hj
    · have : its[n]? = some (its.getLast hne) := by rw [List.getLast_eq_getElem, List.getElem?_eq_getElem (by omega)]; simp [hl]
      obtain ⟨t, e⟩ := h n _ this
      refine ⟨t, ?_⟩
      rw [e]; simp
theorem pe_listrange {X : Cx} {e : Expr} {te : TA} {p1 p2 pos1 pos2 : Pos} (hc : X.calm = true) (hg1 : Gl X "list") (hm1 : X.mg "list" = none) (hg2 : Gl X "range") (hm2 : X.mg "range" = none) (he : PA X [e] te)
    (hs1 : starEach [.Call (.Name "range" p2) [e] [] pos2] X.env = [(false, eval (.Call (.Name "range" p2) [e] [] pos2) X.env)] := by rfl) (hs2 : starEach [e] X.env = [(false, eval e X.env)] := by rfl) :
    PE X (.Call (.Name "list" p1) [.Call (.Name "range" p2) [e] [] pos2] [] pos1) (tLRng te) := by
  intro pins s σ H Q I h
  refine Call_ (ld_blt I hg1 hm1 boot_list (PyProof.Rows.callWith_type1 ?_ hs1 rfl))
  rw [hs1]
  refine Calls.spliced_cons (Call_ (ld_blt I hg2 hm2 boot_range (PyProof.Rows.callWith_type1 (thn (he pos2 pins s σ H _ I h) fun us s1 ⟨vs, H1, I1, r1, q1⟩ => ?_) hs2 rfl)))
  obtain ⟨j, ev, j0, j1, q⟩ := q1
  subst ev
  cases r1 with
  | cons r rr =>
    cases rr
    obtain ⟨t, rfl⟩ := r
    refine call_range_1 (Calls.spliced_nil ?_)
    have I2 : Inv X pins σ H1 { s1 with heap := s1.heap.push { cls := .type "range", data := .fields #[.int 0 s1.toks, .int j t, .int 1 (s1.toks + 1)] }, toks := s1.toks + 1 + 1 } := I1.kept fun b o e => Heap.get?_push_of_some _ e
    have hsz : Builtin.Range.rangeSize 0 j 1 = (j.toNat : Nat) := by rw [rangeSize_one]; split <;> omega
    refine call_list_range (I.ok.hd hc) (IsRange.new ..) (small_one (by omega) (by omega) (by omega) (by omega)) hsz (by omega) fun h' tk acc' c' hk hS hacc => ?_
    have hD : (s1.heap.push { cls := .type "range", data := .fields #[.int 0 s1.toks, .int j t, .int 1 (s1.toks + 1)] }).objs.size = s1.heap.objs.size + 1 := size_push' ..
    have rv : Vals ((List.range j.toNat).map fun k : Nat => V.int (k : Int)) acc'.toList := range_vals (by rw [Array.length_toList]; exact hacc.1) fun i v hi => hacc.2 i v (by rw [← Array.getElem?_toList]; exact hi)
    refine ⟨.ref _, _, I2.laid (a := _) (o := .lst ((List.range j.toNat).map fun k : Nat => V.int (k : Int))) (t' := tk) hk (Nat.le_refl _) ⟨?_, acc'.toList, c', rv, ?_⟩, rfl, q _ (I2.hok.fresh (Nat.le_refl _))⟩
    · rw [List.length_map, List.length_range, sizeLine_eq]; omega
    · rw [hS]

/-! ### a list's insert -/
def rInsert : V → List V → Hp → VK → Prop := fun x vs H Q => ∃ l xs y i, x = .ref l ∧ vs = [.int i, y] ∧ H l = some (.lst xs) ∧ 0 ≤ i ∧ i ≤ xs.length ∧ xs.length < 1000 ∧ Q .non (upd H l (.lst (xs.take i.toNat ++ y :: xs.drop i.toNat)))
end L2
/-! My own rules over the hand layer: the table of a code object that grows, a lambda, sorted(.., key=lambda one: len(rows[one])). -/
namespace L2
open PySem PySem.Spec PyProof.Rows

/-! ### a table grows -/
section
variable {P : Program} {w : World} {H : Hp} {h h' : Heap} {T : Addr} {ps more : Array Value} {fs ex : List Addr}
theorem HOk.grow (x : HOk P w H h) (hT : H T = some (.tbl ps)) (k : ∀ b o, b ≠ T → h.get? b = some o → h'.get? b = some o) (hT' : h'.get? T = some { cls := .none, data := .fields (ps ++ more) }) : HOk P w (upd H T (.tbl (ps ++ more))) h' := fun b u e => by
  by_cases hb : b = T
  · subst hb; rw [upd_same] at e; cases e; exact hT'
  · rw [upd_ne hb] at e
    refine (x b u e).stay (fun c v hc q => k c v ?_ q) (fun c q => ?_) fun c xs q => ?_
    · rcases hc with rfl | hc
      · exact hb
      · rintro rfl; rw [hT] at hc; cases hc
    · rw [upd_ne (by rintro rfl; rw [hT] at q; cases q)]; exact q
    · rw [upd_ne (by rintro rfl; rw [hT] at q; cases q)]; exact q
theorem Un.grow (hT : H T = some (.tbl ps)) (k : ∀ b o, b ≠ T → h.get? b = some o → h'.get? b = some o) (hT' : h'.get? T = some { cls := .none, data := .fields (ps ++ more) }) : Un fs ex H (upd H T (.tbl (ps ++ more))) h h' := by
  have hn : ∀ b, H b = none → b ≠ T := fun b n z => by rw [z, hT] at n; cases n
  refine ⟨fun b o e n _ _ => k b o (hn b n) e, fun b o e n _ _ => ⟨o.slots, k b o (hn b n) e⟩, fun b o e n _ => by rw [upd_ne (hn b n)]; exact n, fun b o e _ => ?_, fun b xs q => ?_, fun b o u q => ?_, fun b qs q => ?_⟩
  · by_cases hb : b = T
    · rw [hb]; exact ⟨_, hT'⟩
    · exact ⟨o, k b o hb e⟩
  · rw [upd_ne (by rintro rfl; rw [hT] at q; cases q)]; exact q
  · rw [upd_ne (by rintro rfl; rw [hT] at q; cases q)]; exact q
  · by_cases hb : b = T
    · subst hb
      rw [hT] at q; cases q
      exact ⟨more, upd_same⟩
    · exact ⟨#[], by rw [upd_ne hb, q]; simp⟩
end
/-- the table at T, for the lambda at pos of the name q -/
def TabAt (H : Hp) (T : Addr) (pos : Pos) (q : Str) : Prop :=
  ∃ ps : Array Value, H T = some (.tbl ps) ∧ TriplesOk ps.toList ∧ (codeAmong pos ps.toList = none ∨ ∃ c, codeAmong pos ps.toList = some (.ref c) ∧ H c = some (.ext fun h => h.CodeRec (.ref c) q))
/-- all but the table is kept -/
def SameT (T : Addr) (H H' : Hp) : Prop := ∀ b u, b ≠ T → H b = some u → H' b = some u
theorem SameT.refl {T : Addr} {H : Hp} : SameT T H H := fun _ _ _ e => e
theorem SameT.trans {T : Addr} {H H1 H2 : Hp} (a : SameT T H H1) (b : SameT T H1 H2) : SameT T H H2 := fun c u n e => b c u n (a c u n e)
theorem TabAt.same {H H' : Hp} {T : Addr} {pos : Pos} {q : Str} (x : TabAt H T pos q) (s : ∀ b u, H b = some u → H' b = some u) : TabAt H' T pos q := by
  obtain ⟨ps, h1, h2, h3⟩ := x
  refine ⟨ps, s _ _ h1, h2, h3.imp id ?_⟩
  rintro ⟨c, e1, e2⟩
  exact ⟨c, e1, s _ _ e2⟩
theorem codeRec_keeps {h h' : Heap} {v : Value} {q : Str} (x : h.CodeRec v q) (k : ∀ b o, h.get? b = some o → h'.get? b = some o) : h'.CodeRec v q := by
  obtain ⟨c, o, vs, t, e, ho, r⟩ := x
  exact ⟨c, o, vs, t, e, k _ _ ho, r⟩

section
variable {X : Cx} {pins : List (Addr × Obj)} {σ : St} {H : Hp} {s : Shared}
/-- a lambda is made -/
theorem lam_make {params : Arguments} {body : Expr} {scope : Scope} {pos : Pos} {c T : Addr} {Q : Value → Shared → Prop} {E : Value → Shared → Prop} (I : Inv X pins σ H s) (hcode : X.env.code = .ref c) (hC : PySem.W.CodeHd X.base c T)
    (hB : X.base.BuiltinsAt X.mg T) (hfr : ∀ p ∈ scope.names, p.2 = .free → X.env.kindOf p.1 = some .cell ∨ X.env.kindOf p.1 = some .free) (hdef : defaultsOf params X.env = ([], [])) (hT : TabAt H T pos (X.env.qual ++ "<lambda>"))
    (h : ∀ f c' ctv H' s', Inv X pins σ H' s' → s'.heap.get? f = some (PySem.W.kla_obj "<lambda>" (X.env.qual ++ "<lambda>") params body scope (clOf scope X.env) ((X.mg "__name__").getD .none) c' ctv) → s'.heap.CodeRec (.ref c') (X.env.qual ++ "<lambda>") →
      H' f = none → TabAt H' T pos (X.env.qual ++ "<lambda>") → SameT T H H' → s'.heap.objs.size = f + 1 → Q (.ref f) s') :
    wpAny (model X.prog X.w) X.A (eval (.Lambda params body scope pos) X.env) Q E s := by
  have hclos : closureFor scope X.env = pure (clOf scope X.env) := closure_eq fun p hp e => I.ok.has p.1 (hfr p hp e)
  obtain ⟨ps, hP, htr, hk⟩ := hT
  have hPh : s.heap.get? T = some { cls := .none, data := .fields ps } := I.hok T _ hP
  have hg : s.heap.Ns mainGlobals X.mg := I.mod.glob.keeps I.bk
  have hgP : mainGlobals ≠ T := fun q => by
    obtain ⟨o, es, ep, e, hd, _⟩ := hg
    rw [q, hPh] at e; cases e; cases hd
  have hb : s.heap.BuiltinsAt X.mg T := by
    obtain ⟨bm, ob, b1, b2, b3, b4, b5, b6⟩ := hB
    exact ⟨bm, ob, b1, b2, b3, b4, I.bk _ _ b5, b6⟩
  refine PySem.W.kla_eval hdef ?_
  rcases hk with hk | ⟨c', hk, hc'⟩
  · refine PySem.W.kla_makeFunction (mg := X.mg) hclos I.ok.glob hg hcode (hC.keeps I.bk) hPh htr hk hgP hb fun c' ctv h' tk hx hge hlt hrec htb => ?_
    have kx : ∀ b o, b ≠ T → s.heap.get? b = some o → (h'.push (PySem.W.kla_obj "<lambda>" (X.env.qual ++ "<lambda>") params body scope (clOf scope X.env) ((X.mg "__name__").getD .none) c' ctv)).get? b = some o := fun b o hb e => Heap.get?_push_of_some _ (hx b o hb e)
    have htb' := Heap.get?_push_of_some (PySem.W.kla_obj "<lambda>" (X.env.qual ++ "<lambda>") params body scope (clOf scope X.env) ((X.mg "__name__").getD .none) c' ctv) htb
    have hrec' := codeRec_keeps hrec fun b o e => Heap.get?_push_of_some (PySem.W.kla_obj "<lambda>" (X.env.qual ++ "<lambda>") params body scope (clOf scope X.env) ((X.mg "__name__").getD .none) c' ctv) e
    have hTlt : T < s.heap.objs.size := Heap.lt_size hPh
    have cT : c' ≠ T := fun z => absurd (Nat.lt_of_lt_of_le hTlt hge) (by rw [z]; exact Nat.lt_irrefl _)
    have hn : (upd H T (.tbl (ps ++ #[rawInt pos.line, rawInt pos.col, .ref c']))) c' = none := by rw [upd_ne cT]; exact I.hok.fresh hge
    have ok1 := HOk.grow (more := #[rawInt pos.line, rawInt pos.col, .ref c']) I.hok hP kx htb'
    have new : ObjOk X.prog X.w (upd (upd H T (.tbl (ps ++ #[rawInt pos.line, rawInt pos.col, .ref c']))) c' (.ext fun h => h.CodeRec (.ref c') (X.env.qual ++ "<lambda>"))) (h'.push (PySem.W.kla_obj "<lambda>" (X.env.qual ++ "<lambda>") params body scope (clOf scope X.env) ((X.mg "__name__").getD .none) c' ctv)) c'
        (.ext fun h => h.CodeRec (.ref c') (X.env.qual ++ "<lambda>")) := by
      refine ⟨hrec', ?_, fun h1 h2 p k => ?_⟩
      · obtain ⟨c2, o, vs, t, e, ho, _⟩ := hrec'
        cases e
        exact ⟨o, ho⟩
      · obtain ⟨c2, o, vs, t, e, ho, r⟩ := p
        cases e
        exact ⟨c', o, vs, t, rfl, k o ho, r⟩
    refine h h'.objs.size c' ctv (upd (upd H T (.tbl (ps ++ #[rawInt pos.line, rawInt pos.col, .ref c']))) c' (.ext fun h => h.CodeRec (.ref c') (X.env.qual ++ "<lambda>"))) _ (I.un ((Un.grow hP kx htb').track hn hge) (HOk.track ok1 hn new)) (Heap.get?_push_size _ rfl) hrec' ?_ ?_ ?_ (Heap.size_push _ _)
    · rw [upd_ne (Nat.ne_of_gt hlt), upd_ne (Nat.ne_of_gt (Nat.lt_trans (Nat.lt_of_lt_of_le hTlt hge) hlt))]
      exact I.hok.fresh (Nat.le_trans hge (Nat.le_of_lt hlt))
    · refine ⟨_, by rw [upd_ne (Ne.symm cT)]; exact upd_same, ?_, .inr ⟨c', ?_, upd_same⟩⟩
      · rw [Array.toList_append]
        exact TriplesOk_snoc _ _ _ _ htr
      · rw [Array.toList_append]
        exact codeAmong_snoc _ htr hk
    · intro b u nb e
      rw [upd_ne (fun z => by rw [z, I.hok.fresh hge] at e; cases e), upd_ne nb]
      exact e
  · have hrec : s.heap.CodeRec (.ref c') (X.env.qual ++ "<lambda>") := (I.hok c' _ hc').1
    refine PySem.W.kla_makeFunctionHit (mg := X.mg) hclos I.ok.glob hg hcode (hC.keeps I.bk) hPh htr hk hb fun ctv h' tk hkp hsz => ?_
    have kx : ∀ b o, s.heap.get? b = some o → (h'.push (PySem.W.kla_obj "<lambda>" (X.env.qual ++ "<lambda>") params body scope (clOf scope X.env) ((X.mg "__name__").getD .none) c' ctv)).get? b = some o := fun b o e => Heap.get?_push_of_some _ (hkp b o e)
    exact h h'.objs.size c' ctv H _ (I.kept kx) (Heap.get?_push_size _ rfl) (codeRec_keeps hrec kx) (I.hok.fresh hsz) ⟨ps, hP, htr, .inr ⟨c', hk, hc'⟩⟩ SameT.refl (Heap.size_push _ _)
end

section
variable {X : Cx} {pins : List (Addr × Obj)} {σ : St} {H : Hp} {s : Shared}
/-- all is kept but the frame, and the frame's map -/
theorem Inv.butL {h' : Heap} {t' : Nat} {m : Str → Option Value} (I : Inv X pins σ H s) (hm : s.heap.Ns X.env.locals m) (hm' : h'.Ns X.env.locals m) (k : ∀ b o, b ≠ X.env.locals → s.heap.get? b = some o → h'.get? b = some o) :
    Inv X pins σ H { s with heap := h', toks := t' } := by
  have nL : ∀ b u, H b = some u → b ≠ X.env.locals := fun b u e z => by rw [z, I.free] at e; cases e
  refine I.step (g' := s.gens) (d' := s.drawn) (ch := []) (fun _ z => nomatch z) (fun b o hb _ _ e _ => k b o hb e) (fun b o hb _ _ e _ => ⟨o.slots, k b o hb e⟩) (fun _ _ _ _ n => n) (fun b o _ e => ?_) (fun _ _ e => e) (fun _ _ _ e => e) (fun b ps e => ⟨#[], by rw [e]; simp⟩) (fun m' hn => ?_) (fun b u e => ?_) I.bare
  · by_cases hb : b = X.env.locals
    · obtain ⟨o', _, _, e', _⟩ := hm'
      exact ⟨o', by rw [hb]; exact e'⟩
    · exact ⟨o, k b o hb e⟩
  · have em : m' = m := by
      obtain ⟨o1, es1, ep1, e1, d1, _, f1⟩ := hn
      obtain ⟨o2, es2, ep2, e2, d2, _, f2⟩ := hm
      rw [e1] at e2; cases e2
      rw [d1] at d2; cases d2
      funext x
      rw [← f1 x, ← f2 x]
    rw [em]; exact hm'
  · refine (I.hok b u e).stay (fun c v hc q => k c v ?_ q) (fun _ q => q) fun _ _ q => q
    rcases hc with z | z
    · rw [z]; exact nL b u e
    · exact nL c _ z
/-- an untracked object of ours is tracked -/
theorem Inv.track {a : Addr} {o : HO} (I : Inv X pins σ H s) (hn : H a = none) (hp : X.s₀.heap.objs.size ≤ a) (hL : a ≠ X.env.locals) (hc : ∀ x c, X.env.cells.lookup x = some c → c ≠ a) (hpn : ∀ p ∈ X.pn ++ pins, p.1 ≠ a)
    (new : ObjOk X.prog X.w (upd H a o) s.heap a o) : Inv X pins σ (upd H a o) s :=
  ⟨I.ok, I.os, I.bare, I.base.track hn hp, I.loc, I.cell, by rw [upd_ne (Ne.symm hL)]; exact I.free, fun x c e => by rw [upd_ne (hc x c e)]; exact I.freeC x c e, fun p hp => by
    obtain ⟨e, n, r⟩ := I.pin p hp
    exact ⟨e, by rw [upd_ne (hpn p hp)]; exact n, r⟩, HOk.track I.hok hn new, I.len⟩
end

/-! ### the lambda that tells a row's length -/
/-- x: the parameter, y: the name from around -/
structure LamSc (scope : Scope) (x y : Str) : Prop where
  cell : ∀ z ∈ scope.names, z.2 ≠ .cell
  kind : scope.kind = .function
  co : scope.isCoroutine = false
  gen : scope.isGenerator = false
  xl : scope.names.lookup x = some .local
  yf : scope.names.lookup y = some .free
  gl : scope.names.lookup ("len" : Str) = some .globalImplicit
  dx : (x == ("__debug__" : Str)) = false
  dy : (y == ("__debug__" : Str)) = false
  cy : (y == ("__classdict__" : Str)) = false
def lenBody (x y : Str) (p1 p2 p3 p4 p5 : Pos) : Expr := .Call (.Name "len" p1) [.Subscript (.Name y p2) (.Name x p3) p4] [] p5
section
variable {prog : Program} {w : World} {A : Around} {s : Shared}
theorem lam_len {x y : Str} {p1 p2 p3 p4 p5 : Pos} {qual : Str} {params : Arguments} {scope : Scope} {cl : List (Str × Addr)} {pm ctv : Value} {c' f r q cy : Addr} {mg mb : Str → Option Value} {n : Int} {t : Tok} {its jts : Array Value}
    (S : LamSc scope x y) (hroom : A.depth < recursionLimit) (hlim : s.heap.NoLimit) (hg : s.heap.Ns mainGlobals mg) (hm : mg "len" = none) (hb : s.heap.Ns builtinsNs mb) (hmb : mb "len" = some (.builtin "len"))
    (ho : s.heap.get? f = some (PySem.W.kla_obj "<lambda>" qual params (lenBody x y p1 p2 p3 p4 p5) scope cl pm c' ctv)) (hcd : s.heap.CodeRec (.ref c') qual)
    (hbind : ∀ v, bindArgs (PySem.W.kla_fn "<lambda>" qual params (lenBody x y p1 p2 p3 p4 p5) scope cl pm (.ref c') ctv) ⟨[v], []⟩ = pure [(x, v)])
    (hcy : cl.lookup y = some cy) (hcell : s.heap.IsCell cy (some (.ref r))) (hr : s.heap.IsList r its) (h0 : 0 ≤ n) (hfit : n < 2 ^ 63) (hit : its[n.toNat]? = some (.ref q)) (hq : s.heap.IsList q jts) (hjt : (jts.size : Int) < 2 ^ 63) :
    wpAny (model prog w) A (call (.ref f) [.int n t]) (fun u s' => ∃ h' tk t', s' = { s with heap := h', toks := tk } ∧ u = .int jts.size t' ∧ ∀ b o, s.heap.get? b = some o → h'.get? b = some o) (fun _ _ => False) s := by
  refine wpAny_call (PySem.W.kla_callFunE (body := lenBody x y p1 p2 p3 p4 p5) hroom ho rfl S.co S.gen rfl hcd ?_)
  rw [hbind]
  refine wpAny_pure ?_
  refine wpAny_newFunctionEnv S.cell (by intro z hz; rw [List.mem_singleton.mp hz]; exact S.xl) (fun h1 hns hsb => ?_) S.kind
  have hk : ∀ b o, s.heap.get? b = some o → h1.get? b = some o := fun b o e => hsb.extBut b o (Nat.ne_of_lt (Heap.lt_size e)) (Heap.get?_push_of_some _ e)
  refine ⟨hlim.keeps hk, PySem.W.kla_codeExpr ?_⟩
  unfold lenBody
  refine wpAny_Call_Name_kw (Calls.Name_function_global S.kind S.gl (Calls.loadGlobal_builtin (hg.keeps hk) hm (hb.keeps hk) hmb ?_) (by decide))
  refine PyProof.Rows.callWith_builtin1 ?_ rfl rfl
  refine Calls.spliced_cons (Subscript_ (wpAny_Name (wpAny_loadName_free (v := .ref r) S.kind S.yf hcy ?_ ?_ S.cy) S.dy))
  · obtain ⟨o, e, d⟩ := hcell
    exact ⟨o, hk _ _ e, d⟩
  refine wpAny_Name (wpAny_loadName_local (v := .int n t) S.kind S.xl hns ?_ ?_) S.dx
  · show List.lookup x [(x, Value.int n t)] = _
    simp
  have lk : ∀ {a : Addr} {zs : Array Value}, s.heap.IsList a zs → h1.IsList a zs := fun {a zs} ⟨o, e, r⟩ => ⟨o, hk _ _ e, r⟩
  refine item_listR (lk hr) h0 hfit hit ?_ rfl
  refine Calls.spliced_nil ?_
  refine Calls.call_len_list (lk hq) hjt ?_
  exact ⟨h1, _, _, rfl, rfl, hk⟩
end
end L2

namespace L2
open PySem PySem.Spec PyProof.Rows
/-- the n-th of the rows at r has the length k -/
def rowLen (K : PySem.W.Frag) (H : Hp) (r : Addr) (n k : Int) : Prop := ∃ (rs : List V) (q : Addr) (xs : List V), SqL K H r rs ∧ 0 ≤ n ∧ rs[n.toNat]? = some (.ref q) ∧ SqL K H q xs ∧ k = xs.length
theorem SqL.sameT {K : PySem.W.Frag} {H H' : Hp} {T a : Addr} {ps : Array Value} {xs : List V} (h : SqL K H a xs) (hT : H T = some (.tbl ps)) (s : SameT T H H') : SqL K H' a xs := by
  rcases h with (h | ⟨o, h⟩) | h
  · exact .inl (.inl (s a _ (by rintro rfl; rw [hT] at h; cases h) h))
  · exact .inl (.inr ⟨o, s a _ (by rintro rfl; rw [hT] at h; cases h) h⟩)
  · exact .inr h
/-- ns' are the ns in the order of their keys ks -/
def ByKey (ks ns ns' : List Int) : Prop := ∃ zs : List (Int × Int), zs.Perm (ks.zip ns) ∧ ns' = zs.map (·.2) ∧ zs.Pairwise fun a b => a.1 ≤ b.1
def tSortLen (K : PySem.W.Frag) (j : Nat) (T : Addr) (lpos : Pos) (q : Str) (te : TE) : TE := fun σ H Q => te σ H fun v H1 => ∃ (p r : Addr) (ns ks : List Int), v = .ref p ∧ SqL K H1 p (ns.map V.int) ∧ ns.length < 64 ∧ σ[j]? = some (some (.ref r)) ∧ ks.length = ns.length ∧
  (∀ (i : Nat) (n k : Int), ns[i]? = some n → ks[i]? = some k → rowLen K H1 r n k) ∧ TabAt H1 T lpos q ∧
  ∀ (ns' : List Int) (H2 : Hp) (D : Addr), SameT T H1 H2 → TabAt H2 T lpos q → ByKey ks ns ns' → H2 D = none → Q (.ref D) (upd H2 D (.lst (ns'.map V.int)))
def valInt : Value → Int
  | .int n _ => n
  | _ => 0
theorem zip_valInt : ∀ {ks ns : List Int} {us : List Value}, Vals (ns.map V.int) us → (ks.zip us).map (fun p => (p.1, valInt p.2)) = ks.zip ns
  | [], _, _, _ => by simp
  | k :: ks, [], us, r => by
    cases r; simp
  | k :: ks, n :: ns, us, r => by
    cases r with
    | cons r1 r2 =>
      obtain ⟨t, rfl⟩ := r1
      rw [List.zip_cons_cons, List.map_cons, List.zip_cons_cons, zip_valInt r2]
      rfl
theorem vals_of_ints : ∀ {us : List Value}, (∀ u ∈ us, ∃ n t, u = Value.int n t) → Vals ((us.map valInt).map V.int) us
  | [], _ => .nil
  | u :: us, h => by
    obtain ⟨n, t, rfl⟩ := h u List.mem_cons_self
    exact .cons ⟨t, rfl⟩ (vals_of_ints fun v hv => h v (List.mem_cons_of_mem _ hv))
theorem ints_mem : ∀ {ns : List Int} {us : List Value}, Vals (ns.map V.int) us → ∀ u ∈ us, ∃ n t, u = Value.int n t
  | [], _, .nil, u, hu => by cases hu
  | n :: ns, _, .cons r1 r2, u, hu => by
    rcases List.mem_cons.mp hu with e | e
    · obtain ⟨t, e2⟩ := r1
      exact ⟨n, t, e.trans e2⟩
    · exact ints_mem r2 u e
theorem out_key {ks ns : List Int} {us out : List Value} (r : Vals (ns.map V.int) us) (h : KskOut false ks us out) : ∃ ns' : List Int, ByKey ks ns ns' ∧ Vals (ns'.map V.int) out ∧ ns'.length ≤ ns.length := by
  obtain ⟨ps, hp, rfl, ho⟩ := h
  refine ⟨(ps.map Prod.snd).map valInt, ⟨ps.map fun p => (p.1, valInt p.2), ?_, ?_, ?_⟩, vals_of_ints fun u hu => ?_, ?_⟩
  · have := hp.map fun p => (p.1, valInt p.2)
    rw [zip_valInt r] at this
    exact this
  · rw [List.map_map, List.map_map]; rfl
  · rw [List.pairwise_map]
    exact ho.imp fun {a b} hab => by simpa using hab
  · obtain ⟨p, hp', rfl⟩ := List.mem_map.mp hu
    exact ints_mem r _ (List.of_mem_zip (hp.mem_iff.mp hp')).2
  · have e1 := hp.length_eq
    rw [List.length_zip] at e1
    have e2 := r.length
    rw [List.length_map] at e2
    rw [List.length_map, List.length_map]
    omega

theorem pe_sortlen {X : Cx} {e : Expr} {te : TE} {x y : Str} {j : Nat} {params : Arguments} {scope : Scope} {p p1 p2 p3 p4 p5 lpos kp pos : Pos} {c T : Addr}
    (hg : Gl X "sorted") (hm : X.mg "sorted" = none) (hml : X.mg "len" = none) (he : PE X e te) (S : LamSc scope x y) (hfr : ∀ z ∈ scope.names, z.2 = .free → X.env.kindOf z.1 = some .cell ∨ X.env.kindOf z.1 = some .free)
    (hN : X.N[j]? = some y) (hcode : X.env.code = .ref c) (hC : PySem.W.CodeHd X.base c T) (hB : X.base.BuiltinsAt X.mg T) (hroom : X.A.depth < recursionLimit) (hdef : defaultsOf params X.env = ([], []))
    (hbind : ∀ (qual : Str) (cl : List (Str × Addr)) (pm : Value) (c' : Addr) (ctv v : Value), bindArgs (PySem.W.kla_fn "<lambda>" qual params (lenBody x y p1 p2 p3 p4 p5) scope cl pm (.ref c') ctv) ⟨[v], []⟩ = pure [(x, v)])
    (hst : starEach [e] X.env = [(false, eval e X.env)] := by rfl) :
    PE X (.Call (.Name "sorted" p) [e] [⟨some "key", .Lambda params (lenBody x y p1 p2 p3 p4 p5) scope lpos, kp⟩] pos) (tSortLen X.K j T lpos (X.env.qual ++ "<lambda>") te) := by
  intro pins s σ H Q I h
  refine wpAny_Call_Name_kw (ld_blt I hg hm bt_sorted ?_)
  refine PyProof.Rows.callWith_kw ?_ (by rw [hst]; rfl) (by rw [hst]; rfl)
  rw [hst]
  show wpAny _ _ (spliced ((false, eval e X.env) :: [])) _ _ s
  refine Calls.spliced_cons (thn (he pins s σ H _ I h) fun u s1 ⟨v, H1, I1, r1, q1⟩ => Calls.spliced_nil ?_)
  obtain ⟨a, r, ns, ks, rfl, hp, hlen, hσ, hkl, hrow, hT, fin⟩ := q1
  cases r1
  refine PyProof.Rows.kws_cons (lam_make I1 hcode hC hB hfr hdef hT fun f c' ctv H2 s2 I2 ho hcd hf hT2 sT hsz => PyProof.Rows.kws_nil ?_)
  obtain ⟨ps, hP, _⟩ := id hT
  obtain ⟨its, rv, pl, hz⟩ := I2.list (hp.sameT hP sT)
  obtain ⟨m, hm2, hl2⟩ := id I2.loc
  have hky : X.env.kindOf y = some .cell ∨ X.env.kindOf y = some .free := hfr (y, .free) (PySem.mem_of_lookup S.yf) rfl
  obtain ⟨ur, rr, look⟩ := hl2 j y (.ref r) hN hσ (.inr hky)
  cases rr
  obtain ⟨cy, ecy, hcell⟩ : ∃ cy, (clOf scope X.env).lookup y = some cy ∧ s2.heap.IsCell cy (some (.ref r)) := by
    have hfree : ∀ p ∈ scope.names, p.2 = .free → ∃ c, X.env.cells.lookup p.1 = some c := fun p hp e => I2.ok.has p.1 (hfr p hp e)
    obtain ⟨cy, e1⟩ := cl_has (env := X.env) (y := y) scope.names [] (.inl (PySem.mem_of_lookup S.yf))
    have e2 := cl_fold scope.names [] hfree (fun z => by simp at z) e1
    rcases look with ⟨k, _⟩ | ⟨_, c2, ec, z⟩
    · rcases hky with q | q
      · rw [q] at k; cases k
      · rw [q] at k; cases k
    · rw [e2] at ec; cases ec
      exact ⟨cy, e1, z⟩
  have hlv := rv.length
  rw [List.length_map] at hlv
  have nofn : ∀ {o : Obj}, s2.heap.get? X.env.locals = some o → ∃ es ep, o.data = .dict es ep := fun {o} e => by
    obtain ⟨o', es, ep, e', d, _⟩ := hm2
    rw [e] at e'; cases e'
    exact ⟨es, ep, d⟩
  have hn63 := line63
  refine ksk_sorted (kz := ks) (f := .ref f) (b := false) (L := X.env.locals) (m := m) (news := Att.ledger s2.heap X.env.locals X.env.locals) (Att.fr_all hm2) ?_ pl.isList (by omega) (by omega) (ksk_s1 _ _) (fun x => ksk_l1 _ _) (fun x => ksk_t1 _ _) ?_ ?_
  · rintro ⟨b, o⟩ hp
    obtain ⟨n1, _, e⟩ := Att.mem_ledger.mp hp
    exact ⟨e, n1, Att.noObjs_get _ _⟩
  · intro i v k hvi hki h tk own F N
    have keep : ∀ b o, b ≠ X.env.locals → s2.heap.get? b = some o → h.get? b = some o := fun b o nb e => (N (b, o) (List.mem_append_left _ (Att.mem_ledger.mpr ⟨nb, nb, e⟩))).1
    have I3 : Inv X pins σ H2 { s2 with heap := h, toks := tk } := I2.butL hm2 F.ns keep
    obtain ⟨hil, _⟩ := List.getElem?_eq_some_iff.mp hvi
    have hni : ns[i]? = some (ns[i]'(by omega)) := List.getElem?_eq_getElem _
    obtain ⟨u, hu, ru⟩ := rv.get (i := i) (x := .int (ns[i]'(by omega))) (by rw [List.getElem?_map, hni]; rfl)
    rw [hvi] at hu; cases hu
    obtain ⟨t, rfl⟩ := ru
    obtain ⟨rs, q, xs, h1, h2, h3, h4, h5⟩ := hrow i _ k hni hki
    obtain ⟨rits, rvr, plr, zr⟩ := I3.list (h1.sameT hP sT)
    obtain ⟨jts, rvq, plq, zq⟩ := I3.list (h4.sameT hP sT)
    obtain ⟨u, hu, ru⟩ := rvr.get h3
    cases ru
    have hlr := rvr.length
    have hlq := rvq.length
    obtain ⟨hnl, _⟩ := List.getElem?_eq_some_iff.mp h3
    obtain ⟨mb, b1, b2⟩ := I3.mod.blt
    have ho' : h.get? f = some (PySem.W.kla_obj "<lambda>" (X.env.qual ++ "<lambda>") params (lenBody x y p1 p2 p3 p4 p5) scope (clOf scope X.env) ((X.mg "__name__").getD .none) c' ctv) := keep f _ (fun z => by
      obtain ⟨es, ep, d⟩ := nofn (z ▸ ho)
      cases d) ho
    have hcd' : h.CodeRec (.ref c') (X.env.qual ++ "<lambda>") := by
      obtain ⟨c2, o, vs, t2, e2, ho2, hd2, hv2⟩ := hcd
      refine ⟨c2, o, vs, t2, e2, keep c2 o (fun z => ?_) ho2, hd2, hv2⟩
      obtain ⟨es, ep, d⟩ := nofn (z ▸ ho2)
      rw [hd2] at d; cases d
    have hcell' : h.IsCell cy (some (.ref r)) := by
      obtain ⟨o, eo, d⟩ := hcell
      refine ⟨o, keep cy o (fun z => ?_) eo, d⟩
      obtain ⟨es, ep, d'⟩ := nofn (z ▸ eo)
      rw [d] at d'; cases d'
    refine thn (lam_len (s := { s2 with heap := h, toks := tk }) (q := q) S hroom I3.nolimit (I3.mod.glob.keeps I3.bk) hml (b1.keeps I3.bk) ((b2 "len" (by decide)).trans (by decide +kernel)) ho' hcd' (hbind _ _ _ _ _) ecy hcell' plr.isList h2 (by omega)
      (by simpa using hu) plq.isList (by rw [List.size_toArray]; omega)) fun u s' ⟨h'', tk', t', e1, e2, hk⟩ => ?_
    subst e1
    refine ⟨h'', tk', t', rfl, ?_, F.kept hk, N.grown hk⟩
    rw [e2, h5, List.size_toArray, hlq]
  · intro D h' tk out c3 F' N' hlt hout
    obtain ⟨ns', hby, rvo, hll⟩ := out_key rv hout
    have keep : ∀ b o, b ≠ X.env.locals → s2.heap.get? b = some o → h'.get? b = some o := fun b o nb e => (N' (b, o) (List.mem_cons_of_mem _ (Att.mem_ledger.mpr ⟨nb, nb, e⟩))).1
    have I3 : Inv X pins σ H2 { s2 with heap := h', toks := tk } := I2.butL hm2 F'.ns keep
    obtain ⟨eD, nD, _⟩ := N' (D, seqObj "list" out c3) List.mem_cons_self
    have hD : s2.heap.objs.size ≤ D := by
      have nf : f ≠ X.env.locals := fun z => by
        obtain ⟨es, ep, d⟩ := nofn (z ▸ ho)
        cases d
      have := hlt (f, _) (Att.mem_ledger.mpr ⟨nf, nf, ho⟩)
      rw [hsz]; exact this
    have hDn : H2 D = none := I2.hok.fresh hD
    refine ⟨.ref D, upd H2 D (.lst (ns'.map V.int)), I3.track hDn (Nat.le_trans I2.sz hD) nD (fun x c e z => ?_) (fun p hp z => ?_) ⟨by rw [List.length_map] at hz ⊢; omega, out.toList, c3, rvo, ?_⟩, rfl, fin ns' H2 D sT hT2 hby hDn⟩
    · obtain ⟨v, o, eo, _⟩ := I2.cell x c e
      exact absurd (Nat.lt_of_lt_of_le (Heap.lt_size eo) hD) (by rw [z]; exact Nat.lt_irrefl _)
    · obtain ⟨eo, _⟩ := I2.pin p hp
      exact absurd (Nat.lt_of_lt_of_le (Heap.lt_size eo) hD) (by rw [z]; exact Nat.lt_irrefl _)
    · rw [eD]
end L2
/-! My own rules over the hand layer: the head of a law in which one code object's table grows. -/
namespace L2
open PySem PySem.Spec PyProof.Rows

/-- the written part without the table -/
def cutK (K : PySem.W.Frag) (T : Addr) : PySem.W.Frag := K.filter fun p => p.1 != T
theorem cutK_ne {T b : Addr} (h : b ≠ T) : ∀ (K : PySem.W.Frag), (cutK K T).lookup b = K.lookup b
  | [] => rfl
  | (a, o) :: r => by
    have ih := cutK_ne h r
    unfold cutK at ih ⊢
    rw [List.filter_cons]
    by_cases e : a = T
    · have e1 : ((a, o).1 != T) = false := by simp [e]
      have e2 : (b == a) = false := by simp [e, h]
      rw [e1, List.lookup_cons, e2]
      simpa using ih
    · have e1 : ((a, o).1 != T) = true := by simp [e]
      rw [e1]
      simp only [if_true, List.lookup_cons]
      cases b == a with
      | true => rfl
      | false => exact ih
theorem cutK_at {T : Addr} : ∀ (K : PySem.W.Frag), (cutK K T).lookup T = none
  | [] => rfl
  | (a, o) :: r => by
    have ih := @cutK_at T r
    unfold cutK at ih ⊢
    rw [List.filter_cons]
    by_cases e : a = T
    · have e1 : ((a, o).1 != T) = false := by simp [e]
      rw [e1]
      simpa using ih
    · have e1 : ((a, o).1 != T) = true := by simp [e]
      have e2 : (T == a) = false := by simp [Ne.symm e]
      rw [e1]
      simp only [if_true, List.lookup_cons, e2]
      exact ih
theorem cutK_of {K : PySem.W.Frag} {hp : Heap} {T b : Addr} {o u : Obj} (KX : K.In hp) (hT : hp.get? T = some o) (h : K.lookup b = some u) (ne : u ≠ o) : (cutK K T).lookup b = some u := by
  rw [cutK_ne (fun e => ne (by rw [e] at h; have q := KX _ _ h; rw [hT] at q; exact (Option.some.inj q).symm))]
  exact h
/-- a def stays a def without the table -/
theorem Fun.cut {K : PySem.W.Frag} {T : Addr} {x qual : Str} {st : Stmt} {f : Addr} {fd : FuncData} {hp : Heap} (F : Fun K x qual st f fd) (KX : K.In hp) (hT : hp.get? T = some (PySem.W.tabObj #[])) : Fun (cutK K T) x qual st f fd := by
  obtain ⟨⟨oc, od, kV, doc, pm, an, cdv, ct, osl, e, lk, hcd⟩, kp⟩ := F
  have lk' : (cutK K T).lookup f = some ⟨oc, od, .func fd, osl⟩ := cutK_of KX hT lk (fun z => by cases z)
  refine ⟨⟨oc, od, kV, doc, pm, an, cdv, ct, osl, e, lk', ?_⟩, ?_⟩
  · unfold PySem.W.codeIn at hcd ⊢
    cases cdv with
    | ref c =>
      simp only at hcd ⊢
      cases hc : K.lookup c with
      | none => rw [hc] at hcd; cases hcd
      | some o =>
        rw [cutK_of (u := o) KX hT hc (fun z => by rw [hc, z] at hcd; simp at hcd)]
        rw [hc] at hcd
        exact hcd
    | _ => exact hcd
  · unfold PySem.W.keepIn
    simp only [lk']

/-- THE HEAD with a table at T -/
theorem law_callT {P : Program} {w : World} {K : PySem.W.Frag} {mg mb : Str → Option Value} {CX : CXT} {k : Nat} {fa a c T : Addr} {fd : FuncData} {x : Str} {sp : Sp} {s₁ : Shared} {vs : List Value} {ns : List Int}
    (KX : K.In s₁.heap) (hTh : s₁.heap.get? T = some (PySem.W.tabObj #[])) (hC : PySem.W.CodeHd s₁.heap c T) (hbm : ∃ bm ob, mg "__builtins__" = some (.ref bm) ∧ bm ≠ builtinsNs ∧ s₁.heap.get? bm = some ob ∧ ob.cls = .type "module" ∧ ob.dict = some builtinsNs ∧ ob.data = .plain)
    (hns : s₁.heap.Ns mainGlobals mg) (hb : s₁.heap.Ns builtinsNs mb) (hbb : ∀ x : Str, x ≠ "__name__" → mb x = bootBuiltins x) (hlim : s₁.heap.NoLimit) (hg : s₁.gens = #[])
    (ha : s₁.heap.get? a = some { cls := .type "list", data := .seq vs.toArray }) (hi : IntsAre vs ns) (hl : ns.length ≤ sizeLine) (hr : Room k callerA)
    (F : ∀ base : Heap, (cutK K T).In base → base.Ns mainGlobals mg → PySem.W.CodeHd base c T → base.BuiltinsAt mg T → FnOk P w (cutK K T) mg base CX k fa fd [x] sp) (hbind : ∀ (s : Shared) (u : Value), BindsTo s fd ⟨[u], []⟩ [(x, u)])
    (hsp : ∀ H : Hp, H T = some (.tbl #[]) → SqL (cutK K T) H a (ns.map V.int) → sp [.ref a] H (fun v _ => v = .bl true) fun _ _ _ => False)
    (hCX : ∀ H e s', CX [] H s₁ (fun _ _ _ => False) e s' → False) :
    codeAny (model P w) callerA (.call (.ref fa) ⟨[.ref a], []⟩) (fun r s' => r = .ok (.ret (.bool true)) ∧ OldK s₁.heap s'.heap ∧ s'.os = s₁.os ∧ AllBare s'.gens) s₁ := by
  have rv := vals_ints hi
  have lenV := hi.length
  have aT : a ≠ T := fun z => by rw [z, hTh] at ha; cases ha
  have core : ∀ H : Hp, H T = some (.tbl #[]) → SqL (cutK K T) H a (ns.map V.int) → HOk P w H s₁.heap → (∀ b, H b ≠ none → b = T ∨ (b = a ∧ ∃ o xs, H b = some (.frz o (.lst xs)))) → (H a ≠ none → K.lookup a = none) →
      codeAny (model P w) callerA (.call (.ref fa) ⟨[.ref a], []⟩) (fun r s' => r = .ok (.ret (.bool true)) ∧ OldK s₁.heap s'.heap ∧ s'.os = s₁.os ∧ AllBare s'.gens) s₁ := by
    intro H hHT hS hok hA hK
    have base_of : ∀ {b : Addr} {o : Obj}, s₁.heap.get? b = some o → H b = none → (hidT s₁.heap H).get? b = some o := fun e n => hidT_get e n
    have other : ∀ {b : Addr} {o : Obj}, s₁.heap.get? b = some o → o.cls ≠ .none → o.cls ≠ .type "list" ∨ (∀ xs n, o.data ≠ .seq xs n) → H b = none := fun {b o} e c1 c2 => by
      cases q : H b with
      | none => rfl
      | some u =>
        exfalso
        rcases hA b (by rw [q]; simp) with z | ⟨z, _⟩
        · rw [z, hTh] at e; cases e; exact c1 rfl
        · rw [z, ha] at e; cases e
          rcases c2 with c2 | c2
          · exact c2 rfl
          · exact c2 _ _ rfl
    have noD : ∀ {b : Addr} {o : Obj} {es : Array DictEntry} {ep : Nat}, s₁.heap.get? b = some o → o.data = .dict es ep → H b = none := fun {b o es ep} e d => by
      cases q : H b with
      | none => rfl
      | some u =>
        exfalso
        rcases hA b (by rw [q]; simp) with z | ⟨z, _⟩
        · rw [z, hTh] at e; cases e; cases d
        · rw [z, ha] at e; cases e; cases d
    have nsK : ∀ {b : Addr} {m : Str → Option Value}, s₁.heap.Ns b m → (hidT s₁.heap H).Ns b m := fun {b m} ⟨o, es, ep, e, d, r⟩ => ⟨o, es, ep, base_of e (noD e d), d, r⟩
    have hKb : (cutK K T).In (hidT s₁.heap H) := fun b o e => by
      have bT : b ≠ T := fun z => by rw [z, cutK_at] at e; cases e
      rw [cutK_ne bT] at e
      refine base_of (KX b o e) ?_
      cases q : H b with
      | none => rfl
      | some u =>
        exfalso
        rcases hA b (by rw [q]; simp) with z | ⟨z, _⟩
        · exact bT z
        · subst z
          rw [hK (by rw [q]; simp)] at e; cases e
    have hM : Mod (cutK K T) mg (hidT s₁.heap H) := ⟨hKb, nsK hns, ⟨mb, nsK hb, hbb⟩, let ⟨mc, h1, h2⟩ := hlim; ⟨mc, nsK h1, h2⟩⟩
    have e0 : Env0 P w (cutK K T) mg (hidT s₁.heap H) callerA [] s₁ H := ⟨rfl, hM, fun b o e => of_hidT e, Nat.le_of_eq (hidT_size _ _), trivial, fun b hb => absurd (show b ∈ ([] : List Addr) from hb) (by simp), hok, .of_eq hg⟩
    have hCb : PySem.W.CodeHd (hidT s₁.heap H) c T := by
      obtain ⟨o, us, file, tf, flags, tg, inF, text, tt, e1, e2, r⟩ := hC
      exact ⟨o, us, file, tf, flags, tg, inF, text, tt, base_of e1 (other e1 (by rw [e2]; simp) (.inl (by rw [e2]; simp))), e2, r⟩
    have hBb : (hidT s₁.heap H).BuiltinsAt mg T := by
      obtain ⟨bm, ob, b1, b2, b3, b4, b5, b6⟩ := hbm
      refine ⟨bm, ob, b1, b2, fun z => ?_, fun z => ?_, base_of b3 (other b3 (by rw [b4]; simp) (.inl (by rw [b4]; simp))), b4, b5, b6⟩
      · obtain ⟨o, es, ep, e, d, _⟩ := hns
        rw [z, e] at b3; cases b3; rw [d] at b6; cases b6
      · rw [z, hTh] at b3; cases b3; cases b4
    refine codeAny_mono ((F _ hKb (nsK hns) hCb hBb).run callerA [] s₁ H ⟨[.ref a], []⟩ [.ref a] [.ref a] _ _ hr e0 (hbind s₁ (.ref a)) (.cons rfl .nil) (hsp H hHT hS)) fun r s' h => ?_
    cases r with
    | error e => exact (hCX H e s' h).elim
    | ok fl =>
      cases fl with
      | next => exact False.elim h
      | brk => exact False.elim h
      | cont => exact False.elim h
      | ret u =>
        obtain ⟨v, H', os, bare, un, hok', r', q⟩ := h
        have q' : v = .bl true := q
        subst q'
        obtain rfl : u = Value.bool true := r'
        have tab : ∃ more : Array Value, s'.heap.get? T = some { cls := .none, data := .fields (#[] ++ more) } := by
          obtain ⟨more, e⟩ := un.tbls T _ hHT
          exact ⟨more, hok' T _ e⟩
        refine ⟨rfl, ⟨fun b o e => ?_, fun b o e => un.there b o e (by simp)⟩, os, bare⟩
        cases q : H b with
        | none => exact .inl (un.keep b o e q (by intro z; exact absurd (show b ∈ ([] : List Addr) from z) (by simp)) (by simp))
        | some u =>
          rcases hA b (by rw [q]; simp) with z | ⟨_, ob, xs, z⟩
          · subst z
            obtain ⟨more, e3⟩ := tab
            rw [hTh] at e; cases e
            exact .inr (.inl ⟨(hC.tab hTh).isCodeTable, rfl, #[], more, rfl, e3⟩)
          · have z2 := un.frzs b ob _ z
            obtain ⟨e1, _⟩ := hok b _ z
            obtain ⟨e2, _⟩ := hok' b _ z2
            rw [e] at e1; cases e1
            exact .inl e2
  cases hk : K.lookup a with
  | some o =>
    have e := KX a o hk
    rw [ha] at e
    cases e
    refine core (fun b => if b = T then some (.tbl #[]) else none) (if_pos rfl) (.inr ⟨_, vs.toArray, _, (cutK_ne aT K).trans hk, rfl, rfl, rfl, by rw [List.size_toArray, lenV]; exact hl, by simpa using rv⟩) (fun b u z => ?_) (fun b z => ?_) fun z => absurd (if_neg aT) z
    · by_cases hb : b = T
      · subst hb
        have z' := (if_pos rfl).symm.trans z
        cases z'
        exact hTh
      · exact absurd ((if_neg hb).symm.trans z) (by simp)
    · by_cases hb : b = T
      · exact .inl hb
      · exact absurd (if_neg hb) z
  | none =>
    refine core (fun b => if b = T then some (.tbl #[]) else if b = a then some (.frz { cls := .type "list", data := .seq vs.toArray } (.lst (ns.map V.int))) else none) (if_pos rfl)
      (.inl (.inr ⟨{ cls := .type "list", data := .seq vs.toArray }, (if_neg aT).trans (if_pos rfl)⟩)) (fun b u z => ?_) (fun b z => ?_) fun _ => hk
    · by_cases hb : b = T
      · subst hb
        have z' := (if_pos rfl).symm.trans z
        cases z'
        exact hTh
      · have z1 := (if_neg hb).symm.trans z
        by_cases hb2 : b = a
        · have z' := (if_pos hb2).symm.trans z1
          cases z'
          subst hb2
          exact ⟨ha, by rw [List.length_map]; exact hl, vs, _, rv, ha⟩
        · exact absurd ((if_neg hb2).symm.trans z1) (by simp)
    · by_cases hb : b = T
      · exact .inl hb
      · by_cases hb2 : b = a
        · exact .inr ⟨hb2, _, _, (if_neg hb).trans (if_pos hb2)⟩
        · exact absurd ((if_neg hb).trans (if_neg hb2)) z

/-- a def whose code object stands at c, its table at T -/
structure FunC (K : PySem.W.Frag) (x qual : Str) (st : Stmt) (f : Addr) (fd : FuncData) (c : Addr) : Prop where
  ex : ∃ (oc : Value) (od : Option Addr) (kV doc pm : Value) (an : Option Addr) (ct : Value) (osl : Array (Option Value)),
    fd = PySem.W.fnOf x qual (defArgs st) (defBody st) (defScope st) .none kV doc pm an (.ref c) ct ∧ K.lookup f = some ⟨oc, od, .func fd, osl⟩ ∧ PySem.W.codeIn K (.ref c) qual = true
theorem FunC.ok {P : Program} {w : World} {K : PySem.W.Frag} {mg : Str → Option Value} {base : Heap} {x qual : Str} {st : Stmt} {f c : Addr} {fd : FuncData} {N ps : List Str} {k : Nat} {sp : Sp} (F : FunC K x qual st f fd c) (S : FnScope N ps (defScope st)) (len : ∀ vs H Q E, sp vs H Q E → vs.length = ps.length)
    (hbody : ∀ (A : Around) (outer : List Env) (s : Shared) (H : Hp) (vs : List V) (Q : VK) (E : XK), Room k (A.deeper (envOfC qual (defScope st) s.heap.objs.size f (.ref c))) → sp vs H Q E →
      ∃ t, PSs (cxOf CX0 P w K mg base N qual (defScope st) f (.ref c) A outer s H E).nox (defBody st) t ∧ t { nx := fun _ H' => Q .non H', rt := Q } (start N vs) H) : FnOk P w K mg base CX0 (k + 1) f fd ps sp := by
  obtain ⟨oc, od, kV, doc, pm, an, ct, osl, rfl, lk, hcd⟩ := F.ex
  refine fn_of lk hcd S len fun A outer s H vs Q E hr hsp => ?_
  obtain ⟨t, h, q⟩ := hbody A outer s H vs Q E hr hsp
  exact ⟨t, h.nox, q⟩
theorem tab_code {K : PySem.W.Frag} {x : Str} {f c T : Addr} {oc : Value} {od : Option Addr} {fd : FuncData} {osl : Array (Option Value)} (a : PySem.W.nsIn K mainGlobals x = some (some (.ref f))) (l : K.lookup f = some ⟨oc, od, .func fd, osl⟩) (t : PySem.W.tabIn K x = some (c, T)) :
    fd.code = .ref c := by
  unfold PySem.W.tabIn at t
  rw [a] at t
  simp only [l] at t
  cases e : fd.code with
  | ref c' =>
    rw [e] at t
    simp only at t
    cases hk : K.lookup c' with
    | none => rw [hk] at t; cases t
    | some o =>
      rw [hk] at t
      obtain ⟨cls, dict, data, sl⟩ := o
      cases data with
      | fields vs =>
        simp only at t
        split at t
        · cases t; rfl
        · cases t
      | _ => cases t
  | _ => rw [e] at t; cases t
theorem funC_mk {K : PySem.W.Frag} {hp : Heap} {x qual : Str} {st : Stmt} {f c T : Addr} {fd : FuncData} (F : Fun K x qual st f fd) (KX : K.In hp) (hT : hp.get? T = some (PySem.W.tabObj #[])) (e : fd.code = .ref c) : FunC (cutK K T) x qual st f fd c := by
  obtain ⟨⟨oc, od, kV, doc, pm, an, cdv, ct, osl, rfl, lk, hcd⟩, _⟩ := F.cut KX hT
  have e' : cdv = .ref c := e
  subst e'
  exact ⟨⟨oc, od, kV, doc, pm, an, ct, osl, rfl, lk, hcd⟩⟩
/-- the goal that k_head leaves, where the table of the def g grows -/
theorem walk_ofT {l : PySem.W.OpenLaw} {n k : Nat} {q : Program} {loose : List Str} {XP : (Str → Option Value) → Heap → Prop} {YP : World → Heap → Prop} {d dg : DefRec} {K : Params → PySem.W.Frag} {sp : PySem.W.Frag → Addr → Sp} {x g : Str}
    (hn : l.most = some n) (hn2 : n ≤ sizeLine) (hdf : d.params.defaults = []) (hr : Room k callerA) (hrec : (recsOf q).find? (fun e => e.name == g) = some dg)
    (hY : ∀ (w : World) (h : Heap), YP w h → (K w.params).In h)
    (F : ∀ (w : World) (mg : Str → Option Value) (fa : Addr) (h : Heap), (K w.params).In h → h.Ns mainGlobals mg → mg d.name = some (.ref fa) →
      ∃ (fd : FuncData) (c T : Addr), PySem.W.tabIn (K w.params) g = some (c, T) ∧ (∀ (s : Shared) (u : Value), BindsTo s fd ⟨[u], []⟩ [(x, u)]) ∧
        (h.get? T = some (PySem.W.tabObj #[]) → ∀ base : Heap, (cutK (K w.params) T).In base → base.Ns mainGlobals mg → PySem.W.CodeHd base c T → base.BuiltinsAt mg T → FnOk l.prog w (cutK (K w.params) T) mg base CX0 k fa fd [x] (sp (cutK (K w.params) T) T)))
    (hsp : ∀ (K : PySem.W.Frag) (T : Addr) (H : Hp) (a : Addr) (ns : List Int), ns.length ≤ n → H T = some (.tbl #[]) → SqL K H a (ns.map V.int) → sp K T [.ref a] H (fun v _ => v = .bl true) fun _ _ _ => False) :
    PySem.W.WalkO q loose XP YP l.row.toRowW d [] (fun f vs => PySem.call f vs) := by
  refine Att.attach_call hn hdf fun w s₀ s₁ mg mb fa o pm cd doc a vs ns G Y ho hd hcd hmg hobj hints hlen hg => ?_
  have KX := hY w _ Y
  obtain ⟨fd, c, T, ht, hb, hF⟩ := F w mg fa _ KX G.T.g hmg
  obtain ⟨hC, hTh⟩ := PySem.W.tab_of G.T KX hrec ht
  exact law_callT KX hTh hC G.T.bmain G.T.g G.T.b G.T.builtins G.T.nolimit hg hobj hints (Nat.le_trans hlen hn2) hr (hF hTh) hb (fun H hO hS => hsp _ T H a ns hlen hO hS) fun H e s' z => z
/-- the names free in a lambda are free in the block around it -/
theorem lam_free {lam scope : Scope} {env : Env} {y : Str} (h : ∀ z ∈ lam.names, z.2 = .free → z.1 = y) (hy : scope.names.lookup y = some .free) : ∀ z ∈ lam.names, z.2 = .free → (relabel scope env).names.lookup z.1 = some .cell ∨ (relabel scope env).names.lookup z.1 = some .free := fun z hz e => by
  rw [h z hz e]
  exact lookup_relabel_free hy
end L2
/-! My own rules over the hand layer: sorted(.., key=lambda one: len(dicts[one[0]]), reverse=True). -/
namespace L2
open PySem PySem.Spec PyProof.Rows
def headBody (x y : Str) (p1 p2 p3 p4 p5 p6 p7 : Pos) (j : Nat) : Expr := .Call (.Name "len" p1) [.Subscript (.Name y p2) (.Subscript (.Name x p3) (.Constant (.int 0) j p4) p5) p6] [] p7
section
variable {prog : Program} {w : World} {A : Around} {s : Shared}
theorem lam_head {x y : Str} {p1 p2 p3 p4 p5 p6 p7 : Pos} {j0 : Nat} {qual : Str} {params : Arguments} {scope : Scope} {cl : List (Str × Addr)} {pm ctv : Value} {c' f r q cy a : Addr} {mg mb : Str → Option Value} {n : Int} {t : Tok} {its ats : Array Value} {kvs : List (Key × Value)}
    (S : LamSc scope x y) (hroom : A.depth < recursionLimit) (hlim : s.heap.NoLimit) (hg : s.heap.Ns mainGlobals mg) (hm : mg "len" = none) (hb : s.heap.Ns builtinsNs mb) (hmb : mb "len" = some (.builtin "len"))
    (ho : s.heap.get? f = some (PySem.W.kla_obj "<lambda>" qual params (headBody x y p1 p2 p3 p4 p5 p6 p7 j0) scope cl pm c' ctv)) (hcd : s.heap.CodeRec (.ref c') qual)
    (hbind : ∀ v, bindArgs (PySem.W.kla_fn "<lambda>" qual params (headBody x y p1 p2 p3 p4 p5 p6 p7 j0) scope cl pm (.ref c') ctv) ⟨[v], []⟩ = pure [(x, v)])
    (hcy : cl.lookup y = some cy) (hcell : s.heap.IsCell cy (some (.ref r))) (ha : s.heap.IsList a ats) (hat : ats[0]? = some (.int n t)) (hr : s.heap.IsList r its) (h0 : 0 ≤ n) (hfit : n < 2 ^ 63) (hit : its[n.toNat]? = some (.ref q))
    (hs : (q == sysModules) = false) (hq : s.heap.DictOf (mixKind prog w) q kvs) (hkv : (kvs.length : Int) < 2 ^ 63) :
    wpAny (model prog w) A (call (.ref f) [.ref a]) (fun u s' => ∃ h' tk t', s' = { s with heap := h', toks := tk } ∧ u = .int kvs.length t' ∧ ∀ b o, s.heap.get? b = some o → h'.get? b = some o) (fun _ _ => False) s := by
  refine wpAny_call (PySem.W.kla_callFunE (body := headBody x y p1 p2 p3 p4 p5 p6 p7 j0) hroom ho rfl S.co S.gen rfl hcd ?_)
  rw [hbind]
  refine wpAny_pure ?_
  refine wpAny_newFunctionEnv S.cell (by intro z hz; rw [List.mem_singleton.mp hz]; exact S.xl) (fun h1 hns hsb => ?_) S.kind
  have hk : ∀ b o, s.heap.get? b = some o → h1.get? b = some o := fun b o e => hsb.extBut b o (Nat.ne_of_lt (Heap.lt_size e)) (Heap.get?_push_of_some _ e)
  refine ⟨hlim.keeps hk, PySem.W.kla_codeExpr ?_⟩
  unfold headBody
  refine wpAny_Call_Name_kw (Calls.Name_function_global S.kind S.gl (Calls.loadGlobal_builtin (hg.keeps hk) hm (hb.keeps hk) hmb ?_) (by decide))
  refine PyProof.Rows.callWith_builtin1 ?_ rfl rfl
  refine Calls.spliced_cons (Subscript_ (wpAny_Name (wpAny_loadName_free (v := .ref r) S.kind S.yf hcy ?_ ?_ S.cy) S.dy))
  · obtain ⟨o, e, d⟩ := hcell
    exact ⟨o, hk _ _ e, d⟩
  have lk : ∀ {a : Addr} {zs : Array Value}, s.heap.IsList a zs → h1.IsList a zs := fun {a zs} ⟨o, e, r⟩ => ⟨o, hk _ _ e, r⟩
  refine Subscript_ (wpAny_Name (wpAny_loadName_local (v := .ref a) S.kind S.xl hns ?_ ?_) S.dx)
  · show List.lookup x [(x, Value.ref a)] = _
    simp
  refine wpAny_Constant_int ?_
  refine item_listR (lk ha) (by decide) (by decide) hat ?_ rfl
  refine item_listR (lk hr) h0 hfit hit ?_ rfl
  refine Calls.spliced_nil ?_
  have hq' : h1.DictOf (mixKind prog w) q kvs := by
    obtain ⟨o, es, ep, e, rest⟩ := hq
    exact ⟨o, es, ep, hk _ _ e, rest⟩
  refine call_len_dict hs hq' hkv ?_
  exact ⟨h1, _, _, rfl, rfl, hk⟩
end
/-- the place at the head of the list at a; what is reached from it, in the dicts at r, counts k -/
def headLen (K : PySem.W.Frag) (H : Hp) (r a : Addr) (k : Int) : Prop := ∃ (ns : List Int) (n : Int) (rs : List V) (q : Addr) (kvs : List (Key × V)), SqL K H a (ns.map V.int) ∧ ns[0]? = some n ∧ 0 ≤ n ∧ SqL K H r rs ∧ rs[n.toNat]? = some (.ref q) ∧ H q = some (.dK kvs) ∧ k = kvs.length
/-- as' are the as in the order of their keys ks, the greatest first -/
def ByKeyR (ks : List Int) (as as' : List Addr) : Prop := ∃ zs : List (Int × Addr), zs.Perm (ks.zip as) ∧ as' = zs.map (·.2) ∧ zs.Pairwise fun a b => b.1 ≤ a.1
def tSortHead (K : PySem.W.Frag) (j : Nat) (T : Addr) (lpos : Pos) (q : Str) (te : TE) : TE := fun σ H Q => te σ H fun v H1 => ∃ (p r : Addr) (as : List Addr) (ks : List Int), v = .ref p ∧ SqL K H1 p (as.map V.ref) ∧ as.length < 64 ∧ σ[j]? = some (some (.ref r)) ∧ ks.length = as.length ∧
  (∀ (i : Nat) (a : Addr) (k : Int), as[i]? = some a → ks[i]? = some k → headLen K H1 r a k) ∧ TabAt H1 T lpos q ∧
  ∀ (as' : List Addr) (H2 : Hp) (D : Addr), SameT T H1 H2 → TabAt H2 T lpos q → ByKeyR ks as as' → H2 D = none → Q (.ref D) (upd H2 D (.lst (as'.map V.ref)))
def valRef : Value → Addr
  | .ref a => a
  | _ => 0
theorem refs_eq : ∀ {as : List Addr} {us : List Value}, Vals (as.map V.ref) us → us = as.map Value.ref
  | [], _, .nil => rfl
  | a :: as, _, .cons r t => by
    cases r
    rw [List.map_cons, refs_eq t]
theorem vals_refs : ∀ (as : List Addr), Vals (as.map V.ref) (as.map Value.ref)
  | [] => .nil
  | a :: as => .cons rfl (vals_refs as)
theorem zip_refs : ∀ (ks : List Int) (as : List Addr), (ks.zip (as.map Value.ref)).map (fun p => (p.1, valRef p.2)) = ks.zip as
  | [], _ => by simp
  | k :: ks, [] => by simp
  | k :: ks, a :: as => by
    rw [List.map_cons, List.zip_cons_cons, List.map_cons, List.zip_cons_cons, zip_refs ks as]; rfl
theorem out_keyR {ks : List Int} {as : List Addr} {us out : List Value} (r : Vals (as.map V.ref) us) (h : KskOut true ks us out) : ∃ as' : List Addr, ByKeyR ks as as' ∧ Vals (as'.map V.ref) out ∧ as'.length ≤ as.length := by
  obtain ⟨ps, hp, rfl, ho⟩ := h
  have eu := refs_eq r
  subst eu
  have hz := hp.map fun p => (p.1, valRef p.2)
  rw [zip_refs] at hz
  have back : ∀ p ∈ ps, p.2 = Value.ref (valRef p.2) := fun p hp' => by
    have := (List.of_mem_zip (hp.mem_iff.mp hp')).2
    obtain ⟨a, _, e⟩ := List.mem_map.mp this
    rw [← e]; rfl
  refine ⟨(ps.map fun p => (p.1, valRef p.2)).map (·.2), ⟨ps.map fun p => (p.1, valRef p.2), hz, rfl, ?_⟩, ?_, ?_⟩
  · rw [List.pairwise_map]
    exact ho.imp fun {a b} hab => by simpa using hab
  · have e : ps.map Prod.snd = ((ps.map fun p => (p.1, valRef p.2)).map (·.2)).map Value.ref := by
      rw [List.map_map, List.map_map]
      exact List.map_congr_left fun p hp' => back p hp'
    rw [e]
    exact vals_refs _
  · have e1 := hz.length_eq
    rw [List.length_map, List.length_zip] at e1
    rw [List.length_map, List.length_map]
    omega
theorem pe_sorthead {X : Cx} {e : Expr} {te : TE} {x y : Str} {j : Nat} {params : Arguments} {scope : Scope} {p p1 p2 p3 p4 p5 p6 p7 p8 lpos kp kp2 pos : Pos} {j0 j1 : Nat} {c T : Addr}
    (hg : Gl X "sorted") (hm : X.mg "sorted" = none) (hml : X.mg "len" = none) (he : PE X e te) (S : LamSc scope x y) (hfr : ∀ z ∈ scope.names, z.2 = .free → X.env.kindOf z.1 = some .cell ∨ X.env.kindOf z.1 = some .free)
    (hN : X.N[j]? = some y) (hcode : X.env.code = .ref c) (hC : PySem.W.CodeHd X.base c T) (hB : X.base.BuiltinsAt X.mg T) (hroom : X.A.depth < recursionLimit) (hdef : defaultsOf params X.env = ([], []))
    (hbind : ∀ (qual : Str) (cl : List (Str × Addr)) (pm : Value) (c' : Addr) (ctv v : Value), bindArgs (PySem.W.kla_fn "<lambda>" qual params (headBody x y p1 p2 p3 p4 p5 p6 p7 j0) scope cl pm (.ref c') ctv) ⟨[v], []⟩ = pure [(x, v)])
    (hst : starEach [e] X.env = [(false, eval e X.env)] := by rfl) :
    PE X (.Call (.Name "sorted" p) [e] [⟨some "key", .Lambda params (headBody x y p1 p2 p3 p4 p5 p6 p7 j0) scope lpos, kp⟩, ⟨some "reverse", .Constant (.bool true) j1 p8, kp2⟩] pos) (tSortHead X.K j T lpos (X.env.qual ++ "<lambda>") te) := by
  intro pins s σ H Q I h
  refine wpAny_Call_Name_kw (ld_blt I hg hm bt_sorted ?_)
  refine PyProof.Rows.callWith_kw ?_ (by rw [hst]; rfl) (by rw [hst]; rfl)
  rw [hst]
  show wpAny _ _ (spliced ((false, eval e X.env) :: [])) _ _ s
  refine Calls.spliced_cons (thn (he pins s σ H _ I h) fun u s1 ⟨v, H1, I1, r1, q1⟩ => Calls.spliced_nil ?_)
  obtain ⟨a, r, as, ks, rfl, hp, hlen, hσ, hkl, hrow, hT, fin⟩ := q1
  cases r1
  refine PyProof.Rows.kws_cons (lam_make I1 hcode hC hB hfr hdef hT fun f c' ctv H2 s2 I2 ho hcd hf hT2 sT hsz => PyProof.Rows.kws_cons (Constant_bool (PyProof.Rows.kws_nil ?_)))
  obtain ⟨ps, hP, _⟩ := id hT
  obtain ⟨its, rv, pl, hz⟩ := I2.list (hp.sameT hP sT)
  obtain ⟨m, hm2, hl2⟩ := id I2.loc
  have hky : X.env.kindOf y = some .cell ∨ X.env.kindOf y = some .free := hfr (y, .free) (PySem.mem_of_lookup S.yf) rfl
  obtain ⟨ur, rr, look⟩ := hl2 j y (.ref r) hN hσ (.inr hky)
  cases rr
  obtain ⟨cy, ecy, hcell⟩ : ∃ cy, (clOf scope X.env).lookup y = some cy ∧ s2.heap.IsCell cy (some (.ref r)) := by
    have hfree : ∀ p ∈ scope.names, p.2 = .free → ∃ c, X.env.cells.lookup p.1 = some c := fun p hp e => I2.ok.has p.1 (hfr p hp e)
    obtain ⟨cy, e1⟩ := cl_has (env := X.env) (y := y) scope.names [] (.inl (PySem.mem_of_lookup S.yf))
    have e2 := cl_fold scope.names [] hfree (fun z => by simp at z) e1
    rcases look with ⟨k, _⟩ | ⟨_, c2, ec, z⟩
    · rcases hky with q | q
      · rw [q] at k; cases k
      · rw [q] at k; cases k
    · rw [e2] at ec; cases ec
      exact ⟨cy, e1, z⟩
  have hlv := rv.length
  rw [List.length_map] at hlv
  have nofn : ∀ {o : Obj}, s2.heap.get? X.env.locals = some o → ∃ es ep, o.data = .dict es ep := fun {o} e => by
    obtain ⟨o', es, ep, e', d, _⟩ := hm2
    rw [e] at e'; cases e'
    exact ⟨es, ep, d⟩
  have hn63 := line63
  refine ksk_sorted (kz := ks) (f := .ref f) (b := true) (L := X.env.locals) (m := m) (news := Att.ledger s2.heap X.env.locals X.env.locals) (Att.fr_all hm2) ?_ pl.isList (by omega) (by omega) (ksk_s2 _ _ _) (fun x => ksk_l2 _ _ _) (fun x => ksk_t2 _ _ _) ?_ ?_
  · rintro ⟨b, o⟩ hp
    obtain ⟨n1, _, e⟩ := Att.mem_ledger.mp hp
    exact ⟨e, n1, Att.noObjs_get _ _⟩
  · intro i v k hvi hki h tk own F N
    have keep : ∀ b o, b ≠ X.env.locals → s2.heap.get? b = some o → h.get? b = some o := fun b o nb e => (N (b, o) (List.mem_append_left _ (Att.mem_ledger.mpr ⟨nb, nb, e⟩))).1
    have I3 : Inv X pins σ H2 { s2 with heap := h, toks := tk } := I2.butL hm2 F.ns keep
    obtain ⟨hil, _⟩ := List.getElem?_eq_some_iff.mp hvi
    have hni : as[i]? = some (as[i]'(by omega)) := List.getElem?_eq_getElem _
    obtain ⟨u, hu, ru⟩ := rv.get (i := i) (x := .ref (as[i]'(by omega))) (by rw [List.getElem?_map, hni]; rfl)
    rw [hvi] at hu; cases hu
    cases ru
    obtain ⟨ns, n, rs, q, kvs, h1, h2, h3, h4, h5, h6, h7⟩ := hrow i _ k hni hki
    obtain ⟨ats, rva, pla, za⟩ := I3.list (h1.sameT hP sT)
    obtain ⟨rits, rvr, plr, zr⟩ := I3.list (h4.sameT hP sT)
    have h6' : H2 q = some (.dK kvs) := sT q _ (by rintro rfl; rw [hP] at h6; cases h6) h6
    obtain ⟨zz, hd, ws, rel, dd⟩ := dk_of I3.hok h6'
    obtain ⟨u, hu, ru⟩ := rvr.get h5
    cases ru
    obtain ⟨u0, hu0, ru0⟩ := rva.get (i := 0) (x := .int n) (by rw [List.getElem?_map, h2]; rfl)
    obtain ⟨t0, rfl⟩ := ru0
    have hlr := rvr.length
    obtain ⟨hnl, _⟩ := List.getElem?_eq_some_iff.mp h5
    obtain ⟨mb, b1, b2⟩ := I3.mod.blt
    have ho' : h.get? f = some (PySem.W.kla_obj "<lambda>" (X.env.qual ++ "<lambda>") params (headBody x y p1 p2 p3 p4 p5 p6 p7 j0) scope (clOf scope X.env) ((X.mg "__name__").getD .none) c' ctv) := keep f _ (fun z => by
      obtain ⟨es, ep, d⟩ := nofn (z ▸ ho)
      cases d) ho
    have hcd' : h.CodeRec (.ref c') (X.env.qual ++ "<lambda>") := by
      obtain ⟨c2, o, vs, t2, e2, ho2, hd2, hv2⟩ := hcd
      refine ⟨c2, o, vs, t2, e2, keep c2 o (fun z => ?_) ho2, hd2, hv2⟩
      obtain ⟨es, ep, d⟩ := nofn (z ▸ ho2)
      rw [hd2] at d; cases d
    have hcell' : h.IsCell cy (some (.ref r)) := by
      obtain ⟨o, eo, d⟩ := hcell
      refine ⟨o, keep cy o (fun z => ?_) eo, d⟩
      obtain ⟨es, ep, d'⟩ := nofn (z ▸ eo)
      rw [d] at d'; cases d'
    have hrl := rel.length
    refine thn (lam_head (s := { s2 with heap := h, toks := tk }) (q := q) S hroom I3.nolimit (I3.mod.glob.keeps I3.bk) hml (b1.keeps I3.bk) ((b2 "len" (by decide)).trans (by decide +kernel)) ho' hcd' (hbind _ _ _ _ _) ecy hcell' pla.isList (by simpa using hu0) plr.isList h3 (by omega)
      (by simpa using hu) hd dd (by rw [sizeLine_eq] at zz; omega)) fun u s' ⟨h'', tk', t', e1, e2, hk⟩ => ?_
    subst e1
    refine ⟨h'', tk', t', rfl, ?_, F.kept hk, N.grown hk⟩
    rw [e2, h7, hrl]
  · intro D h' tk out c3 F' N' hlt hout
    obtain ⟨as', hby, rvo, hll⟩ := out_keyR rv hout
    have keep : ∀ b o, b ≠ X.env.locals → s2.heap.get? b = some o → h'.get? b = some o := fun b o nb e => (N' (b, o) (List.mem_cons_of_mem _ (Att.mem_ledger.mpr ⟨nb, nb, e⟩))).1
    have I3 : Inv X pins σ H2 { s2 with heap := h', toks := tk } := I2.butL hm2 F'.ns keep
    obtain ⟨eD, nD, _⟩ := N' (D, seqObj "list" out c3) List.mem_cons_self
    have hD : s2.heap.objs.size ≤ D := by
      have nf : f ≠ X.env.locals := fun z => by
        obtain ⟨es, ep, d⟩ := nofn (z ▸ ho)
        cases d
      have := hlt (f, _) (Att.mem_ledger.mpr ⟨nf, nf, ho⟩)
      rw [hsz]; exact this
    have hDn : H2 D = none := I2.hok.fresh hD
    refine ⟨.ref D, upd H2 D (.lst (as'.map V.ref)), I3.track hDn (Nat.le_trans I2.sz hD) nD (fun x c e z => ?_) (fun p hp z => ?_) ⟨by rw [List.length_map] at hz ⊢; omega, out.toList, c3, rvo, ?_⟩, rfl, fin as' H2 D sT hT2 hby hDn⟩
    · obtain ⟨v, o, eo, _⟩ := I2.cell x c e
      exact absurd (Nat.lt_of_lt_of_le (Heap.lt_size eo) hD) (by rw [z]; exact Nat.lt_irrefl _)
    · obtain ⟨eo, _⟩ := I2.pin p hp
      exact absurd (Nat.lt_of_lt_of_le (Heap.lt_size eo) hD) (by rw [z]; exact Nat.lt_irrefl _)
    · rw [eD]
end L2
/-! My own rules over the hand layer: the sorts by a lambda with the written part and the lambda's name told outright. -/
namespace L2
open PySem PySem.Spec PyProof.Rows
theorem pe_sortlenK {X : Cx} {e : Expr} {te : TE} {x y : Str} {j : Nat} {params : Arguments} {scope : Scope} {p p1 p2 p3 p4 p5 lpos kp pos : Pos} {c T : Addr} {K : PySem.W.Frag} {Q0 : Str} (hK : X.K = K) (hQ : X.env.qual ++ "<lambda>" = Q0)
    (hg : Gl X "sorted") (hm : X.mg "sorted" = none) (hml : X.mg "len" = none) (he : PE X e te) (S : LamSc scope x y) (hfr : ∀ z ∈ scope.names, z.2 = .free → X.env.kindOf z.1 = some .cell ∨ X.env.kindOf z.1 = some .free)
    (hN : X.N[j]? = some y) (hcode : X.env.code = .ref c) (hC : PySem.W.CodeHd X.base c T) (hB : X.base.BuiltinsAt X.mg T) (hroom : X.A.depth < recursionLimit) (hdef : defaultsOf params X.env = ([], []))
    (hbind : ∀ (qual : Str) (cl : List (Str × Addr)) (pm : Value) (c' : Addr) (ctv v : Value), bindArgs (PySem.W.kla_fn "<lambda>" qual params (lenBody x y p1 p2 p3 p4 p5) scope cl pm (.ref c') ctv) ⟨[v], []⟩ = pure [(x, v)])
    (hst : starEach [e] X.env = [(false, eval e X.env)] := by rfl) :
    PE X (.Call (.Name "sorted" p) [e] [⟨some "key", .Lambda params (.Call (.Name "len" p1) [.Subscript (.Name y p2) (.Name x p3) p4] [] p5) scope lpos, kp⟩] pos) (tSortLen K j T lpos Q0 te) := by
  subst hK hQ
  exact pe_sortlen hg hm hml he S hfr hN hcode hC hB hroom hdef hbind hst
theorem pe_sortheadK {X : Cx} {e : Expr} {te : TE} {x y : Str} {j : Nat} {params : Arguments} {scope : Scope} {p p1 p2 p3 p4 p5 p6 p7 p8 lpos kp kp2 pos : Pos} {j0 j1 : Nat} {c T : Addr} {K : PySem.W.Frag} {Q0 : Str} (hK : X.K = K) (hQ : X.env.qual ++ "<lambda>" = Q0)
    (hg : Gl X "sorted") (hm : X.mg "sorted" = none) (hml : X.mg "len" = none) (he : PE X e te) (S : LamSc scope x y) (hfr : ∀ z ∈ scope.names, z.2 = .free → X.env.kindOf z.1 = some .cell ∨ X.env.kindOf z.1 = some .free)
    (hN : X.N[j]? = some y) (hcode : X.env.code = .ref c) (hC : PySem.W.CodeHd X.base c T) (hB : X.base.BuiltinsAt X.mg T) (hroom : X.A.depth < recursionLimit) (hdef : defaultsOf params X.env = ([], []))
    (hbind : ∀ (qual : Str) (cl : List (Str × Addr)) (pm : Value) (c' : Addr) (ctv v : Value), bindArgs (PySem.W.kla_fn "<lambda>" qual params (headBody x y p1 p2 p3 p4 p5 p6 p7 j0) scope cl pm (.ref c') ctv) ⟨[v], []⟩ = pure [(x, v)])
    (hst : starEach [e] X.env = [(false, eval e X.env)] := by rfl) :
    PE X (.Call (.Name "sorted" p) [e] [⟨some "key", .Lambda params (.Call (.Name "len" p1) [.Subscript (.Name y p2) (.Subscript (.Name x p3) (.Constant (.int 0) j0 p4) p5) p6] [] p7) scope lpos, kp⟩, ⟨some "reverse", .Constant (.bool true) j1 p8, kp2⟩] pos) (tSortHead K j T lpos Q0 te) := by
  subst hK hQ
  exact pe_sorthead hg hm hml he S hfr hN hcode hC hB hroom hdef hbind hst
/-- the names free in a lambda are cells of the def around it -/
theorem lam_freeD {lam : Scope} {env : Env} {y : Str} (h : ∀ z ∈ lam.names, z.2 = .free → z.1 = y) (hy : env.kindOf y = some .cell) : ∀ z ∈ lam.names, z.2 = .free → env.kindOf z.1 = some .cell ∨ env.kindOf z.1 = some .free := fun z hz e => by
  rw [h z hz e]
  exact .inl hy
end L2
namespace L2
open PySem PySem.Spec PyProof.Rows
/-- the table of the def x is known, and stands in no written part -/
def tabOk (K : PySem.W.Frag) (x : Str) : Bool := match PySem.W.tabIn K x with
  | some (_, T) => (K.lookup T).isNone
  | none => false
theorem tabOk_of {K : PySem.W.Frag} {x : Str} (h : tabOk K x = true) : ∃ c T, PySem.W.tabIn K x = some (c, T) ∧ K.lookup T = none := by
  unfold tabOk at h
  cases e : PySem.W.tabIn K x with
  | none => rw [e] at h; cases h
  | some p =>
    rw [e] at h
    exact ⟨p.1, p.2, rfl, Option.isNone_iff_eq_none.mp h⟩
theorem cutK_self {T : Addr} : ∀ {K : PySem.W.Frag}, K.lookup T = none → cutK K T = K
  | [], _ => rfl
  | (a, o) :: r, h => by
    have ne : ¬ (T == a) = true := fun z => by
      rw [List.lookup_cons, z] at h; cases h
    have ne' : (T == a) = false := Bool.eq_false_iff.mpr ne
    rw [List.lookup_cons, ne'] at h
    have ih := cutK_self (K := r) h
    unfold cutK at ih ⊢
    rw [List.filter_cons, if_pos (by
      have : a ≠ T := fun z => ne (by rw [z]; exact beq_self_eq_true T)
      simpa using this), ih]
end L2

namespace Toy
open PySem L2 Gra
def top (i : Nat) : Stmt := PySem.Challenge.pw_lanemap_k05_whole_parts.main.body.getD i (.Pass ⟨0, 0, 0, 0⟩)
abbrev sArePlaces : Stmt := top 4
theorem scArePlaces : FnScope ["count", "numbers"] ["count", "numbers"] (defScope sArePlaces) := ⟨rfl, rfl, rfl, by decide +kernel, rfl, by decide +kernel, by decide +kernel⟩
abbrev PArePlaces : List Str := ["count", "numbers"]
abbrev sCheckPlaces : Stmt := top 5
theorem scCheckPlaces : FnScope ["count", "numbers"] ["count", "numbers"] (defScope sCheckPlaces) := ⟨rfl, rfl, rfl, by decide +kernel, rfl, by decide +kernel, by decide +kernel⟩
abbrev PCheckPlaces : List Str := ["count", "numbers"]
abbrev sCheckLanes : Stmt := top 6
theorem scCheckLanes : FnScope ["count", "lanes", "lane"] ["count", "lanes"] (defScope sCheckLanes) := ⟨rfl, rfl, rfl, by decide +kernel, rfl, by decide +kernel, by decide +kernel⟩
abbrev PCheckLanes : List Str := ["count", "lanes"]
abbrev sEndsByPlace : Stmt := top 7
theorem scEndsByPlace : FnScope ["lanes", "ends", "lane"] ["lanes"] (defScope sEndsByPlace) := ⟨rfl, rfl, rfl, by decide +kernel, rfl, by decide +kernel, by decide +kernel⟩
abbrev PEndsByPlace : List Str := ["lanes"]
abbrev sReach : Stmt := top 8
theorem scReach : FnScope ["lanes", "start", "ends", "ahead", "found", "at", "place", "end"] ["lanes", "start"] (defScope sReach) := ⟨rfl, rfl, rfl, by decide +kernel, rfl, by decide +kernel, by decide +kernel⟩
abbrev PReach : List Str := ["lanes", "start"]
abbrev sPartWith : Stmt := top 10
theorem scPartWith : FnScope ["reached", "place"] ["reached", "place"] (defScope sPartWith) := ⟨rfl, rfl, rfl, by decide +kernel, rfl, by decide +kernel, by decide +kernel⟩
abbrev PPartWith : List Str := ["reached", "place"]
abbrev sParts : Stmt := top 11
theorem scParts : FnScope ["count", "lanes", "reached", "around_each", "each_once"] ["count", "lanes"] (defScope sParts) := ⟨rfl, rfl, rfl, by decide +kernel, rfl, by decide +kernel, by decide +kernel⟩
abbrev PParts : List Str := ["count", "lanes"]
abbrev sLUpto : Stmt := top 13
theorem scLUpto : FnScope ["_law_script", "_law_small", "_law_great"] ["_law_script", "_law_small", "_law_great"] (defScope sLUpto) := ⟨rfl, rfl, rfl, by decide +kernel, rfl, by decide +kernel, by decide +kernel⟩
abbrev PLUpto : List Str := ["_law_script", "_law_small", "_law_great"]
abbrev sLWhole : Stmt := top 14
theorem scLWhole : FnScope ["_law_found"] ["_law_found"] (defScope sLWhole) := ⟨rfl, rfl, rfl, by decide +kernel, rfl, by decide +kernel, by decide +kernel⟩
abbrev PLWhole : List Str := ["_law_found"]
abbrev sLAt : Stmt := top 15
theorem scLAt : FnScope ["_law_script", "_law_k"] ["_law_script", "_law_k"] (defScope sLAt) := ⟨rfl, rfl, rfl, by decide +kernel, rfl, by decide +kernel, by decide +kernel⟩
abbrev PLAt : List Str := ["_law_script", "_law_k"]
abbrev sLLanesBy : Stmt := top 16
theorem scLLanesBy : FnScope ["_law_cells", "_law_count", "_law_seed", "_law_lanes", "_law_hop", "_law_k", "_law_one", "_law_other"] ["_law_cells", "_law_count", "_law_seed"] (defScope sLLanesBy) := ⟨rfl, rfl, rfl, by decide +kernel, rfl, by decide +kernel, by decide +kernel⟩
abbrev PLLanesBy : List Str := ["_law_cells", "_law_count", "_law_seed"]
abbrev sLSameLanes : Stmt := top 17
theorem scLSameLanes : FnScope ["_law_found", "_law_lanes", "_law_k"] ["_law_found", "_law_lanes"] (defScope sLSameLanes) := ⟨rfl, rfl, rfl, by decide +kernel, rfl, by decide +kernel, by decide +kernel⟩
abbrev PLSameLanes : List Str := ["_law_found", "_law_lanes"]
abbrev sLWholeRow : Stmt := top 18
theorem scLWholeRow : FnScope ["_law_found", "_law_one"] ["_law_found"] (defScope sLWholeRow) := ⟨rfl, rfl, rfl, by decide +kernel, rfl, by decide +kernel, by decide +kernel⟩
abbrev PLWholeRow : List Str := ["_law_found"]
abbrev sLReach : Stmt := top 19
theorem scLReach : FnScope ["_law_lanes", "_law_start", "_law_found", "_law_more", "_law_lane"] ["_law_lanes", "_law_start"] (defScope sLReach) := ⟨rfl, rfl, rfl, by decide +kernel, rfl, by decide +kernel, by decide +kernel⟩
abbrev PLReach : List Str := ["_law_lanes", "_law_start"]
abbrev sLAllReach : Stmt := top 20
theorem scLAllReach : FnScope ["_law_part", "_law_lanes", "_law_back", "_law_there", "_law_here", "_law_place"] ["_law_part", "_law_lanes"] (defScope sLAllReach) := ⟨rfl, rfl, rfl, by decide +kernel, rfl, by decide +kernel, by decide +kernel⟩
abbrev PLAllReach : List Str := ["_law_part", "_law_lanes"]
abbrev sLPartsHold : Stmt := top 21
theorem scLPartsHold : FnScope ["_law_found", "_law_count", "_law_lanes", "_law_number_of", "_law_k", "_law_lane", "_law_place"] ["_law_found", "_law_count", "_law_lanes"] (defScope sLPartsHold) := ⟨rfl, rfl, rfl, by decide +kernel, rfl, by decide +kernel, by decide +kernel⟩
abbrev PLPartsHold : List Str := ["_law_found", "_law_count", "_law_lanes"]
abbrev sLaw : Stmt := top 22
theorem scLaw : FnScope ["_law_script", "_law_count", "_law_lanes", "_law_handed", "_law_found"] ["_law_script"] (defScope sLaw) := ⟨rfl, rfl, rfl, by decide +kernel, rfl, by decide +kernel, by decide +kernel⟩
abbrev PLaw : List Str := ["_law_script"]
theorem csArePlaces0 : CompSc (defScope sArePlaces) { kind := .function, names := [(".0", .local), ("number", .local), ("count", .free)], isGenerator := false, isCoroutine := false, more := [] } ["count", "numbers"] "number" ["count"] [0] := ⟨by decide +kernel, rfl, by decide +kernel, rfl, by decide +kernel, by decide +kernel, rfl, by decide +kernel⟩
theorem csPartWith0 : CompSc (defScope sPartWith) { kind := .function, names := [(".0", .local), ("other", .local), ("place", .free), ("reached", .free)], isGenerator := false, isCoroutine := false, more := [] } ["reached", "place"] "other" ["place", "reached"] [1, 0] := ⟨by decide +kernel, rfl, by decide +kernel, rfl, by decide +kernel, by decide +kernel, rfl, by decide +kernel⟩
theorem csParts0 : CompSc (defScope sParts) { kind := .function, names := [(".0", .local), ("place", .local), ("around_each", .free)], isGenerator := false, isCoroutine := false, more := [] } ["count", "lanes", "reached", "around_each", "each_once"] "place" ["around_each"] [3] := ⟨by decide +kernel, rfl, by decide +kernel, rfl, by decide +kernel, by decide +kernel, rfl, by decide +kernel⟩
theorem csParts1 : CompSc (defScope sParts) { kind := .function, names := [(".0", .local), ("place", .local), ("part_with", .globalImplicit), ("reached", .free)], isGenerator := false, isCoroutine := false, more := [] } ["count", "lanes", "reached", "around_each", "each_once"] "place" ["reached"] [2] := ⟨by decide +kernel, rfl, by decide +kernel, rfl, by decide +kernel, by decide +kernel, rfl, by decide +kernel⟩
theorem csParts2 : CompSc (defScope sParts) { kind := .function, names := [(".0", .local), ("place", .local), ("reach", .globalImplicit), ("lanes", .free)], isGenerator := false, isCoroutine := false, more := [] } ["count", "lanes", "reached", "around_each", "each_once"] "place" ["lanes"] [1] := ⟨by decide +kernel, rfl, by decide +kernel, rfl, by decide +kernel, by decide +kernel, rfl, by decide +kernel⟩
theorem csLAllReach0 : CompSc (defScope sLAllReach) { kind := .function, names := [(".0", .local), ("_law_lane", .local)], isGenerator := false, isCoroutine := false, more := [] } ["_law_part", "_law_lanes", "_law_back", "_law_there", "_law_here", "_law_place"] "_law_lane" [] [] := ⟨by decide +kernel, rfl, by decide +kernel, rfl, by decide +kernel, by decide +kernel, rfl, by decide +kernel⟩
theorem lsParts0 : LamSc { kind := .function, names := [("part", .local), ("reached", .free), ("len", .globalImplicit)], isGenerator := false, isCoroutine := false, more := [] } "part" "reached" := ⟨by decide +kernel, rfl, rfl, rfl, by decide +kernel, by decide +kernel, by decide +kernel, by decide, by decide, by decide⟩
/-- a def of the text, as it stands behind the top -/
structure DefAt (K : PySem.W.Frag) (mg : Str → Option Value) (x : Str) (st : Stmt) (ps : List Str) (f : Addr) (fd : FuncData) : Prop where
  F : Fun K x x st f fd
  b : Binds K fd ps []
  m : mg x = some (.ref f)
/-- the built-in names that the text uses are its own nowhere -/
structure Zs (mg : Str → Option Value) : Prop where
  all : mg "all" = none
  bool : mg "bool" = none
  int : mg "int" = none
  isinstance : mg "isinstance" = none
  len : mg "len" = none
  list : mg "list" = none
  max : mg "max" = none
  range : mg "range" = none
  sorted : mg "sorted" = none
  tuple : mg "tuple" = none

/-! ### what the defs promise -/
def spAre (K : PySem.W.Frag) : Sp := fun vs H Q _ => ∃ (n : Int) (a : Addr) (ns : List Int), vs = [.int n, .ref a] ∧ (SqL K H a (ns.map V.int) ∨ SqT K H a (ns.map V.int)) ∧ ns.length ≤ 1000 ∧
  ∀ H', Same H H' → Q (.bl (ns.all fun x => decide (0 ≤ x) && decide (x < n))) H'
def spCheck (K : PySem.W.Frag) : Sp := fun vs H Q _ => ∃ (n : Int) (a : Addr) (ns : List Int), vs = [.int n, .ref a] ∧ (SqL K H a (ns.map V.int) ∨ SqT K H a (ns.map V.int)) ∧ ns.length ≤ 1000 ∧ (∀ x ∈ ns, 0 ≤ x ∧ x < n) ∧ ∀ H', Same H H' → Q .non H'
def spCheckL : Sp := fun vs H Q _ => ∃ (n : Int) (l : Addr) (ps : Lanes), vs = [.int n, .ref l] ∧ LanesAt H l ps ∧ InR n ps ∧ ∀ H', Same H H' → Q .non H'
section
variable {P : Program} {w : World} {K : PySem.W.Frag} {mg : Str → Option Value} {base : Heap}
variable {fAre fCheck fCheckL fEnds fReach fRow fWW : Addr} {gAre gCheck gCheckL gEnds gReach gRow gWW : FuncData}

theorem all_true {ns : List Int} {n : Int} (h : ∀ x ∈ ns, 0 ≤ x ∧ x < n) : (ns.all fun x => decide (0 ≤ x) && decide (x < n)) = true := by
  rw [List.all_eq_true]
  intro x hx
  obtain ⟨h1, h2⟩ := h x hx
  rw [decide_eq_true h1, decide_eq_true h2]; rfl
theorem are_elem {n x : Int} {js : List Nat} {σ : St} {H : Hp} {N : List V → Hp → Prop} {zs : List V} (e1 : (innerO js σ (some (.int x)))[1]? = some (some (.int n))) (h : N (zs ++ [V.bl (decide (0 ≤ x) && decide (x < n))]) H) :
    tYes (innerO js σ (some (.int x))) H fun b H2 => if b = true then (tChain (rI0 fun i j => .bl (decide (i ≤ j))) (rI0 fun i j => .bl (decide (i < j))) (tC (.int 0)) (tVar 0) (tVar 1)) (innerO js σ (some (.int x))) H2 fun y H3 => N (zs ++ [y]) H3 else N zs H2 := by
  refine yes_of (iteT ?_)
  refine ⟨_, rfl, 0, x, rfl, rfl, _, rfl, ?_⟩
  by_cases c : 0 ≤ x
  · rw [decide_eq_true c] at h ⊢
    exact iteT ⟨_, e1, x, n, rfl, rfl, h⟩
  · rw [decide_eq_false c] at h ⊢
    exact iteF h
theorem ok_are (d : DefAt K mg "are_places" sArePlaces PArePlaces fAre gAre) (z : Zs mg) : FnOk P w K mg base CX0 1 fAre gAre PArePlaces (spAre K) := by
  refine d.F.ok scArePlaces (fun vs H Q E h => ?_) (fun cdv A outer s H vs Q E hr h => ?_)
  · obtain ⟨n, a, ns, rfl, _⟩ := h
    rfl
  obtain ⟨n, a, ns, rfl, hS, hl, q⟩ := h
  refine ⟨_, (pss_one (ps_ret (pe_callB (call_all rfl) rfl z.all bt_all (pa_cons (pe_lc csArePlaces0 rfl (pi_seq (pv 1)) (fun _ _ _ _ => pcs_nil) (fun _ _ _ _ => (pe_chain op_le op_lt pe_int (pv 0) (pv 1)))) pa_nil)))), ?_⟩
  have hlen : (ns.map V.int).length = ns.length := List.length_map _
  have fin : ∀ ys : List V, ys = (ns.take ns.length).map (fun x => V.bl (decide (0 ≤ x) && decide (x < n))) → ∀ p, H p = none →
      ∃ (p' : Addr) (bs : List Bool), ([V.ref p] : List V) = [.ref p'] ∧ SqL K (upd H p (.lst ys)) p' (bs.map V.bl) ∧ Q (.bl (bs.all id)) (upd H p (.lst ys)) := fun ys e p hp => by
    refine ⟨p, ns.map (fun x => decide (0 ≤ x) && decide (x < n)), rfl, SqL.of (by rw [upd_same, e, List.take_length, List.map_map]; rfl), ?_⟩
    have e2 : (ns.map fun x => decide (0 ≤ x) && decide (x < n)).all id = ns.all fun x => decide (0 ≤ x) && decide (x < n) := by rw [List.all_map]; rfl
    rw [e2]
    exact q _ (same_new hp _)
  have len : ∀ i, ((ns.take i).map (fun x => V.bl (decide (0 ≤ x) && decide (x < n)))).length ≤ i := fun i => by rw [List.length_map, List.length_take]; omega
  rcases hS with hS | hS
  · refine ⟨_, rfl, a, rfl, .inl ⟨⟨_, hS⟩, lc_list (K := K) (a := a) (xs := ns.map V.int) (fun i ys H' => H' = H ∧ ys = (ns.take i).map fun x => V.bl (decide (0 ≤ x) && decide (x < n))) ⟨rfl, rfl⟩ (fun i ys H' hi ⟨e, e2⟩ => ?_) (by rw [hlen]; exact small hl) (fun i x ys H' hx ⟨e, e2⟩ => ?_) (fun ys H' ⟨e, e2⟩ p hp => ?_)⟩⟩
    · subst e e2
      exact ⟨hS, len i⟩
    · subst e
      obtain ⟨v, rfl, hv⟩ := int_of hx
      refine are_elem (n := n) (N := fun ys H'' => H'' = H' ∧ ys = (ns.take (i + 1)).map fun x => V.bl (decide (0 ≤ x) && decide (x < n))) rfl ⟨rfl, ?_⟩
      rw [take_succ_get hv, List.map_append, e2]; rfl
    · subst e
      rw [hlen] at e2
      exact fin ys e2 p hp
  · refine ⟨_, rfl, a, rfl, .inr ⟨⟨_, hS⟩, lc_tup (K := K) (a := a) (xs := ns.map V.int) (fun i ys H' => H' = H ∧ ys = (ns.take i).map fun x => V.bl (decide (0 ≤ x) && decide (x < n))) ⟨rfl, rfl⟩ (fun i ys H' hi ⟨e, e2⟩ => ?_) (by rw [hlen]; exact small hl) (fun i x ys H' hx ⟨e, e2⟩ => ?_) (fun ys H' ⟨e, e2⟩ p hp => ?_)⟩⟩
    · subst e e2
      exact ⟨hS, len i⟩
    · subst e
      obtain ⟨v, rfl, hv⟩ := int_of hx
      refine are_elem (n := n) (N := fun ys H'' => H'' = H' ∧ ys = (ns.take (i + 1)).map fun x => V.bl (decide (0 ≤ x) && decide (x < n))) rfl ⟨rfl, ?_⟩
      rw [take_succ_get hv, List.map_append, e2]; rfl
    · subst e
      rw [hlen] at e2
      exact fin ys e2 p hp

theorem ok_check (d : DefAt K mg "check_places" sCheckPlaces PCheckPlaces fCheck gCheck) (dArePlaces : DefAt K mg "are_places" sArePlaces PArePlaces fAre gAre) (GArePlaces : FnOk P w K mg base CX0 1 fAre gAre PArePlaces (spAre K)) : FnOk P w K mg base CX0 2 fCheck gCheck PCheckPlaces (spCheck K) := by
  refine d.F.ok scCheckPlaces (fun vs H Q E h => ?_) (fun cdv A outer s H vs Q E hr h => ?_)
  · obtain ⟨n, a, ns, rfl, _⟩ := h
    rfl
  obtain ⟨n, a, ns, rfl, hS, hl, hin, q⟩ := h
  refine ⟨_, (pss_one (ps_if (pt_not (pt_val (pe_call GArePlaces (hr.mono (by decide)) rfl dArePlaces.m dArePlaces.F.kp dArePlaces.b .nil pass0 (pa_cons (pv 0) (pa_cons (pv 1) pa_nil))))) (pss_one ps_never) pss_nil)), ?_⟩
  refine ⟨_, rfl, _, rfl, n, a, ns, rfl, hS, hl, fun H' s' => ⟨_, rfl, ?_⟩⟩
  rw [all_true hin]
  exact iteF (q _ s')

theorem ok_checkL (d : DefAt K mg "check_lanes" sCheckLanes PCheckLanes fCheckL gCheckL) (dCheckPlaces : DefAt K mg "check_places" sCheckPlaces PCheckPlaces fCheck gCheck) (GCheckPlaces : FnOk P w K mg base CX0 2 fCheck gCheck PCheckPlaces (spCheck K)) :
    FnOk P w K mg base CX0 3 fCheckL gCheckL PCheckLanes spCheckL := by
  refine d.F.ok scCheckLanes (fun vs H Q E h => ?_) (fun cdv A outer s H vs Q E hr h => ?_)
  · obtain ⟨n, a, ns, rfl, _⟩ := h
    rfl
  obtain ⟨n, l, ps, rfl, ⟨as, hl, hp⟩, hin, q⟩ := h
  refine ⟨_, (pss_one (ps_for PassesOwn.never rfl (pi_list (pv 1)) (pg_name (i := 2) scCheckLanes.nd rfl (by first | exact Or.inl rfl | exact Or.inr rfl)) (pss_one (ps_expr (pe_call GCheckPlaces (hr.mono (by decide)) rfl dCheckPlaces.m dCheckPlaces.F.kp dCheckPlaces.b .nil pass0 (pa_cons (pv 0) (pa_cons (pv 2) pa_nil))))))), ?_⟩
  refine ⟨_, rfl, l, rfl, ⟨_, SqL.of hl⟩, for_list (K := K) (a := l) (xs := as.map V.ref) (fun i σ H2 => ∃ v, σ = [some (.int n), some (.ref l), v] ∧ Same H H2) ⟨none, rfl, Same.refl _⟩ (fun i σ H2 _ ⟨_, _, s2⟩ => SqL.of (s2 _ _ hl)) ?_ ?_⟩
  · rintro i y σ H2 hi ⟨v, rfl, s2⟩
    obtain ⟨a, p, rfl, hpi, ha⟩ := lane_at hp hi
    have hr' := hin p (List.mem_of_getElem? hpi)
    refine ⟨_, rfl, _, rfl, n, a, [p.1, p.2], rfl, .inr (SqT.of (s2 _ _ ha)), (by show 2 ≤ 1000; decide), fun x hx => ?_, fun H' s' => ⟨_, rfl, s2.trans s'⟩⟩
    rcases List.mem_cons.mp hx with e | hx
    · rw [e]; exact hr'.1
    · rw [List.mem_singleton.mp hx]; exact hr'.2
  · rintro σ H2 ⟨v, rfl, s2⟩
    exact q _ s2
end

def spEnds : Sp := fun vs H Q _ => ∃ (l : Addr) (ps : Lanes), vs = [.ref l] ∧ LanesAt H l ps ∧ ps.length ≤ 1000 ∧ ∀ d H', Same H H' → EndsAt H' d ps → Q (.ref d) H'
def spReach : Sp := fun vs H Q _ => ∃ (l : Addr) (ps : Lanes) (n start : Int), vs = [.ref l, .int start] ∧ LanesAt H l ps ∧ ps.length ≤ 1000 ∧ InR n ps ∧ (0 ≤ start ∧ start < n) ∧ n ≤ 500 ∧
  ∀ d t H', Same H H' → H d = none → H' d = some (.dK (treeKV t)) → Reach ps start t → Done ps t t.length → Q (.ref d) H'
def spRow : Sp := fun vs H Q _ => ∃ (d : Addr) (t : PTree) (ps : Lanes) (start place : Int), vs = [.ref d, .int place] ∧ H d = some (.dK (treeKV t)) ∧ t.length ≤ 500 ∧ Reach ps start t ∧ place ∈ keys t ∧
  ∀ r row H', Same H H' → H' r = some (.lst (row.map V.int)) → row.length ≤ 500 → WalkOk ps row start place → Q (.ref r) H'
/-- a pair of a word and a row: a walk or a wall -/
def Told (H : Hp) (p : Addr) (n : Int) (ps : Lanes) (one other : Int) : Prop := ∃ (w : Str) (r : Addr) (row : List Int), H p = some (.tup [.str w, .ref r]) ∧ H r = some (.lst (row.map V.int)) ∧ row.length ≤ 500 ∧
  ((w = "walk" ∧ WalkOk ps row one other) ∨ (w = "wall" ∧ WallOk n ps row one other))
def spTold : Sp := fun vs H Q _ => ∃ (l : Addr) (ps : Lanes) (n one other : Int), vs = [.ref l, .int one, .int other] ∧ LanesAt H l ps ∧ ps.length ≤ 1000 ∧ InR n ps ∧ (0 ≤ one ∧ one < n) ∧ n < 64 ∧ ∀ p H', Same H H' → Told H' p n ps one other → Q (.ref p) H'
section
variable {P : Program} {w : World} {K : PySem.W.Frag} {mg : Str → Option Value} {base : Heap}
variable {fAre fCheck fCheckL fEnds fReach fRow fWW : Addr} {gAre gCheck gCheckL gEnds gReach gRow gWW : FuncData}
theorem ok_ends (d : DefAt K mg "ends_by_place" sEndsByPlace PEndsByPlace fEnds gEnds) : FnOk P w K mg base CX0 1 fEnds gEnds PEndsByPlace spEnds := by
  refine d.F.ok scEndsByPlace (fun vs H Q E h => ?_) (fun cdv A outer s H vs Q E hr h => ?_)
  · obtain ⟨l, ps, rfl, _⟩ := h
    rfl
  obtain ⟨l, ps, rfl, ⟨as, hl, hp⟩, hlen, q⟩ := h
  refine ⟨_, (pss_cons (ps_set (i := 1) scEndsByPlace.nd rfl (by first | exact Or.inl rfl | exact Or.inr rfl) pe_dnewK)
      (pss_cons (ps_for PassesOwn.never rfl (pi_list (pv 0)) (pg_name (i := 2) scEndsByPlace.nd rfl (by first | exact Or.inl rfl | exact Or.inr rfl)) (pss_one (ps_expr (pe_bm PySem.F.plainAttrs_list PySem.F.slot_list_append PySem.F.type_list_append mt_append (pe_bm PySem.F.plainAttrs_dict PySem.F.slot_dict_setdefault PySem.F.type_dict_setdefault mt_setdefault (pv 1) (pa_cons (pe_ix ix_tup (pv 2) pe_int (fun _ _ => rfl)) (pa_cons (pe_lst pa_nil) pa_nil))) (pa_cons (pe_ix ix_tup (pv 2) pe_int (fun _ _ => rfl)) pa_nil)))))
      (pss_one (ps_ret (pv 1))))), ?_⟩
  intro dd hdd
  have hpl := Paired.len hp
  refine ⟨_, rfl, l, rfl, ⟨_, SqL.of (same_new hdd _ _ _ hl)⟩, for_list (K := K) (a := l) (xs := as.map V.ref) (fun i σ H2 => ∃ v tab, σ = [some (.ref l), some (.ref dd), v] ∧ Same H H2 ∧ EndsTab H2 dd (ps.take i) tab ∧ (∀ q ∈ tab, H q.2 = none) ∧ tab.length ≤ i)
    ⟨none, [], rfl, same_new hdd _, ⟨upd_same, List.nodup_nil, List.nodup_nil, fun q hq => (List.not_mem_nil hq).elim, fun p hp => by simp at hp⟩, fun q hq => (List.not_mem_nil hq).elim, Nat.le_refl _⟩ (fun i σ H2 _ ⟨_, _, _, s2, _⟩ => SqL.of (s2 _ _ hl)) ?_ ?_⟩
  · rintro i y σ H2 hi ⟨v, tab, rfl, s2, T, fr, ht⟩
    obtain ⟨a, p, rfl, hpi, ha⟩ := lane_at hp hi
    have hil : i < ps.length := (List.getElem?_eq_some_iff.mp hpi).1
    have ha2 := s2 _ _ ha
    have tk := take_succ_get hpi
    have tk2 : (ps.take i).length ≤ i := by rw [List.length_take]; omega
    refine ⟨_, rfl, .inr (.inr (.inl ⟨rfl, .inl ⟨_, T.dict⟩⟩)), _, rfl, a, _, 0, _, rfl, rfl, SqT.of ha2, rfl, (by show 0 ≤ sizeLine; decide), fun e he => ?_⟩
    have se : Same H2 (upd H2 e (.lst [])) := same_new he _
    have nde : dd ≠ e := ne_of_none T.dict he
    refine ⟨dd, tabKV tab, Sum.inl p.1, .ref e, rfl, rfl, se _ _ T.dict, small1000 (by rw [tabKV_len]; omega), fun v hv => ?_, fun hn => ?_⟩
    · obtain ⟨q, hq, hk, rfl⟩ := val_tab_some hv
      have hql := T.ls q hq
      have hel := endsOf_len (ps.take i) q.1
      refine ⟨.inl ⟨rfl, _, SqL.of (se _ _ hql)⟩, _, rfl, a, _, 1, _, rfl, rfl, SqT.of (se _ _ ha2), rfl, q.2, _, _, rfl, rfl, se _ _ hql, small1000 (by rw [List.length_map]; omega), ?_⟩
      have nq : q.2 ≠ e := ne_of_none hql he
      have ndq : dd ≠ q.2 := ne_of T.dict hql (by intro z; cases z)
      refine ⟨_, tab, rfl, same_put (s2.trans se) (fr q hq) _, ⟨?_, T.nd, T.na, fun q' hq' => ?_, fun p' hp' => ?_⟩, fr, by omega⟩
      · rw [upd_ne ndq, upd_ne nde]; exact T.dict
      · rw [tk, endsOf_snoc]
        by_cases c : q'.2 = q.2
        · have eq : q' = q := by
            obtain ⟨i1, h1⟩ := List.mem_iff_getElem?.mp hq'
            obtain ⟨i2, h2⟩ := List.mem_iff_getElem?.mp hq
            have e1 : (tab.map (·.2))[i1]? = some q.2 := by rw [List.getElem?_map, h1, ← c]; rfl
            have e2 : (tab.map (·.2))[i2]? = some q.2 := by rw [List.getElem?_map, h2]; rfl
            have : i1 = i2 := by
              obtain ⟨l1, f1⟩ := List.getElem?_eq_some_iff.mp e1
              obtain ⟨l2, f2⟩ := List.getElem?_eq_some_iff.mp e2
              exact (List.getElem_inj T.na).mp (f1.trans f2.symm)
            rw [this] at h1
            exact Option.some.inj (h1.symm.trans h2)
          rw [eq, upd_same, if_pos hk.symm, List.map_append]; rfl
        · have nk : ¬ p.1 = q'.1 := fun z => by
            have : q' = q := by
              obtain ⟨i1, h1⟩ := List.mem_iff_getElem?.mp hq'
              obtain ⟨i2, h2⟩ := List.mem_iff_getElem?.mp hq
              have e1 : (tab.map (·.1))[i1]? = some p.1 := by rw [List.getElem?_map, h1, z]; rfl
              have e2 : (tab.map (·.1))[i2]? = some p.1 := by rw [List.getElem?_map, h2, ← hk]; rfl
              have : i1 = i2 := by
                obtain ⟨l1, f1⟩ := List.getElem?_eq_some_iff.mp e1
                obtain ⟨l2, f2⟩ := List.getElem?_eq_some_iff.mp e2
                exact (List.getElem_inj T.nd).mp (f1.trans f2.symm)
              rw [this] at h1
              exact Option.some.inj (h1.symm.trans h2)
            exact c (by rw [this])
          rw [if_neg nk, upd_ne c]
          exact se _ _ (T.ls q' hq')
      · rw [tk] at hp'
        rcases List.mem_append.mp hp' with h | h
        · exact T.all p' h
        · rw [List.mem_singleton.mp h, ← hk]
          exact List.mem_map.mpr ⟨q, hq, rfl⟩
    · have nk := val_tab_none hn
      have ee : endsOf (ps.take i) p.1 = [] := by
        rw [List.eq_nil_iff_forall_not_mem]
        intro x hx
        exact nk (T.all (p.1, x) (mem_endsOf.mp hx))
      have hd2 : (upd (upd H2 e (.lst [])) dd (.dK (putK (tabKV tab) (Sum.inl p.1) (.ref e)))) e = some (.lst []) := by rw [upd_ne nde.symm, upd_same]
      have ha3 : (upd (upd H2 e (.lst [])) dd (.dK (putK (tabKV tab) (Sum.inl p.1) (.ref e)))) a = some (.tup (pr p)) := by
        rw [upd_ne (ne_of ha2 T.dict (by intro z; cases z)), upd_ne (ne_of_none ha2 he)]; exact ha2
      refine ⟨.inl ⟨rfl, _, SqL.of hd2⟩, _, rfl, a, _, 1, _, rfl, rfl, SqT.of ha3, rfl, e, _, _, rfl, rfl, hd2, (by decide), ?_⟩
      refine ⟨_, tab ++ [(p.1, e)], rfl, same_put (same_put (s2.trans se) hdd _) (s2.free he) _, ⟨?_, ?_, ?_, fun q' hq' => ?_, fun p' hp' => ?_⟩, fun q' hq' => ?_, by rw [List.length_append, List.length_singleton]; omega⟩
      · rw [upd_ne nde, upd_same, putK_new _ hn]
        unfold tabKV
        rw [List.map_append]; rfl
      · rw [List.map_append]
        exact nd_snoc T.nd nk
      · rw [List.map_append]
        refine nd_snoc T.na fun m => ?_
        obtain ⟨q', h1, h2⟩ := List.mem_map.mp m
        have := T.ls q' h1
        rw [h2, he] at this
        cases this
      · rcases List.mem_append.mp hq' with h | h
        · have nk' : ¬ p.1 = q'.1 := fun z => nk (List.mem_map.mpr ⟨q', h, z.symm⟩)
          have hq2 := T.ls q' h
          rw [tk, endsOf_snoc, if_neg nk', upd_ne (ne_of_none hq2 he), upd_ne (ne_of hq2 T.dict (by intro z; cases z)), upd_ne (ne_of_none hq2 he)]
          exact hq2
        · rw [List.mem_singleton.mp h, tk, endsOf_snoc, if_pos rfl, ee, upd_same]; rfl
      · rw [tk] at hp'
        rw [List.map_append]
        rcases List.mem_append.mp hp' with h | h
        · exact List.mem_append_left _ (T.all p' h)
        · rw [List.mem_singleton.mp h]
          exact List.mem_append_right _ (by simp)
      · rcases List.mem_append.mp hq' with h | h
        · exact fr q' h
        · rw [List.mem_singleton.mp h]
          exact s2.free he
  · rintro σ H2 ⟨v, tab, rfl, s2, T, fr, ht⟩
    have e : ps.take (as.map V.ref).length = ps := by rw [List.length_map, hpl, List.take_length]
    rw [e] at T
    exact ⟨_, rfl, q dd H2 s2 ⟨tab, T⟩⟩

theorem ok_reach (d : DefAt K mg "reach" sReach PReach fReach gReach) (z : Zs mg) (dEndsByPlace : DefAt K mg "ends_by_place" sEndsByPlace PEndsByPlace fEnds gEnds) (GEndsByPlace : FnOk P w K mg base CX0 1 fEnds gEnds PEndsByPlace spEnds) :
    FnOk P w K mg base CX0 2 fReach gReach PReach spReach := by
  refine d.F.ok scReach (fun vs H Q E h => ?_) (fun cdv A outer s H vs Q E hr h => ?_)
  · obtain ⟨l, ps, n, st, rfl, _⟩ := h
    rfl
  obtain ⟨l, ps, n, st, rfl, hL, hlen, hin, hst, hn, q⟩ := h
  have hu := hu_of hr
  refine ⟨_, (pss_cons (ps_set (i := 2) scReach.nd rfl (by first | exact Or.inl rfl | exact Or.inr rfl) (pe_call GEndsByPlace (hr.mono (by decide)) rfl dEndsByPlace.m dEndsByPlace.F.kp dEndsByPlace.b .nil pass0 (pa_cons (pv 0) pa_nil)))
      (pss_cons (ps_set (i := 3) scReach.nd rfl (by first | exact Or.inl rfl | exact Or.inr rfl) (pe_disp (pps_cons (pv 1) pe_non pps_nil) rfl rfl (by simp) (by decide)))
      (pss_cons (ps_set (i := 4) scReach.nd rfl (by first | exact Or.inl rfl | exact Or.inr rfl) (pe_lst (pa_cons (pv 1) pa_nil)))
      (pss_cons (ps_set (i := 5) scReach.nd rfl (by first | exact Or.inl rfl | exact Or.inr rfl) pe_int)
      (pss_cons (ps_while PassesOwn.never (pt_cmpR op_lt (pv 5) (pe_callB call_len_seq rfl z.len bt_len (pa_cons (pv 4) pa_nil)) (nomark _)) (pss_cons (ps_set (i := 6) scReach.nd rfl (by first | exact Or.inl rfl | exact Or.inr rfl) (pe_ix ix_list (pv 4) (pv 5) (fun _ _ => rfl)))
      (pss_cons (ps_for PassesOwn.never rfl (pi_list (pe_dget2 hu (pv 2) (pv 6) (pe_lst pa_nil) ⟨rfl, rfl, rfl, rfl⟩)) (pg_name (i := 7) scReach.nd rfl (by first | exact Or.inl rfl | exact Or.inr rfl)) (pss_one (ps_if (pt_cmp (pc_dnotin hu (pv 7) (pv 3))) (pss_cons (ps_dput hu (pv 3) (pv 7) (pv 6) rfl)
      (pss_one (ps_expr (pe_bm PySem.F.plainAttrs_list PySem.F.slot_list_append PySem.F.type_list_append mt_append (pv 4) (pa_cons (pv 7) pa_nil))))) pss_nil)))
      (pss_one (ps_aug (i := 5) scReach.nd rfl (Or.inl rfl) pe_int ip_add)))))
      (pss_one (ps_ret (pv 3)))))))), ?_⟩
  refine ⟨_, rfl, l, ps, rfl, hL, hlen, fun de H1 s1 hE => ?_⟩
  -- ahead = {start: None}
  intro a ha
  refine ⟨_, rfl, upd_same, [(Sum.inl st, .non)], rfl, (by show 1 ≤ 15; decide), ?_⟩
  rw [show upd (upd H1 a (.dK [])) a (.dK (mergeK [] [(Sum.inl st, .non)])) = upd H1 a (.dK (treeKV [(st, none)])) from upd_upd]
  have sa : Same H1 (upd H1 a (.dK (treeKV [(st, none)]))) := same_new ha _
  -- found = [start]
  refine ⟨_, rfl, (by show 1 ≤ sizeLine; decide), fun f hf => ?_⟩
  have hf1 : H1 f = none := sa.free hf
  have naf : a ≠ f := fun e => by rw [← e, upd_same] at hf; cases hf
  -- the loop
  refine ⟨fun m σ H2 => ∃ (t : PTree) (at' : Nat) (pl en : Option V), σ = [some (.ref l), some (.int st), some (.ref de), some (.ref a), some (.ref f), some (.int at'), pl, en] ∧ Same H1 H2 ∧ H2 a = some (.dK (treeKV t)) ∧ H2 f = some (.lst ((keys t).map V.int)) ∧
      Reach ps st t ∧ Done ps t at' ∧ at' ≤ t.length ∧ m = n.toNat - at',
    ⟨_, [(st, none)], 0, none, none, rfl, same_put sa hf1 _, by rw [upd_ne naf, upd_same], by rw [upd_same]; rfl, reach_start ps st, fun i k o e hi => absurd hi (Nat.not_lt_zero _), Nat.zero_le _, rfl⟩, ?_⟩
  rintro m σ H2 ⟨t, at', pl, en, rfl, s2, hA, hF, R, D, hat, rfl⟩
  have htl := R.len_le hst hin
  have hkl : (keys t).length = t.length := List.length_map _
  refine ⟨_, rfl, _, rfl, f, _, rfl, .inl (SqL.of hF), _, _, rfl, rfl, _, rfl, ?_⟩
  refine ite2 (fun c => ?_) (fun c => ?_)
  · have c' : (at' : Int) < (((keys t).map V.int).length : Nat) := of_decide_eq_true c
    rw [List.length_map, hkl] at c'
    have c2 : at' < t.length := by omega
    obtain ⟨k, hk⟩ : ∃ k, (keys t)[at']? = some k := ⟨_, List.getElem?_eq_getElem (by rw [hkl]; exact c2)⟩
    have hkm : k ∈ keys t := List.mem_of_getElem? hk
    refine ⟨fun σ' H' => ∃ (t' : PTree) (pl en : Option V), σ' = [some (.ref l), some (.int st), some (.ref de), some (.ref a), some (.ref f), some (.int ((at' : Int) + 1)), pl, en] ∧ Same H1 H' ∧ H' a = some (.dK (treeKV t')) ∧ H' f = some (.lst ((keys t').map V.int)) ∧
      Reach ps st t' ∧ Done ps t' (at' + 1) ∧ at' + 1 ≤ t'.length, fun σ' H' ⟨t', pl, en, e, s', hA', hF', R', D', hl'⟩ => ⟨n.toNat - (at' + 1), by omega, t', at' + 1, pl, en, e, s', hA', hF', R', D', hl', rfl⟩, ?_⟩
    -- place = found[at]
    refine ⟨_, rfl, _, rfl, f, _, _, _, rfl, rfl, SqL.of hF, at_int hk, ?_⟩
    -- ends.get(place, [])
    obtain ⟨tab, T⟩ := hE.mono s2
    refine ⟨_, rfl, de, rfl, .inl ⟨_, .inl T.dict⟩, _, rfl, (by show 0 ≤ sizeLine; decide), fun e he => ⟨_, DGet.k (k := Sum.inl k) (same_new he _ _ _ T.dict), ?_⟩⟩
    have se : Same H2 (upd H2 e (.lst [])) := same_new he _
    obtain ⟨b, eb, hb⟩ : ∃ b : Addr, (valV (tabKV tab) (Sum.inl k : Key)).getD (.ref e) = .ref b ∧ ((upd H2 e (.lst [])) b = some (.lst ((endsOf ps k).map V.int)) ∧ b ≠ a ∧ b ≠ f) := by
      cases hv : valV (tabKV tab) (Sum.inl k : Key) with
      | none =>
        have nk := val_tab_none hv
        have ee : endsOf ps k = [] := by
          rw [List.eq_nil_iff_forall_not_mem]
          intro x hx
          exact nk (T.all (k, x) (mem_endsOf.mp hx))
        exact ⟨e, rfl, by rw [upd_same, ee]; rfl, (ne_of_none hA he).symm, (ne_of_none hF he).symm⟩
      | some v =>
        obtain ⟨q', hq', hk', rfl⟩ := val_tab_some hv
        have h1 := T.ls q' hq'
        rw [hk'] at h1
        obtain ⟨tab1, T1⟩ := hE
        have eqt : tab1 = tab := by
          have h2 := s2 _ _ T1.dict
          rw [T.dict] at h2
          have h3 : tabKV tab = tabKV tab1 := HO.dK.inj (Option.some.inj h2)
          exact (tabKV_inj h3).symm
        rw [eqt] at T1
        have h4 := T1.ls q' hq'
        exact ⟨q'.2, rfl, se _ _ h1, ne_of_none h4 ha, ne_of_none h4 hf1⟩
    rw [eb]
    refine ⟨b, rfl, ⟨_, SqL.of hb.1⟩, for_list (K := K) (a := b) (xs := (endsOf ps k).map V.int) (fun i σ H3 => ∃ (t' : PTree) (en : Option V), σ = [some (.ref l), some (.int st), some (.ref de), some (.ref a), some (.ref f), some (.int at'), some (.int k), en] ∧
        Same H1 H3 ∧ H3 b = some (.lst ((endsOf ps k).map V.int)) ∧ H3 a = some (.dK (treeKV t')) ∧ H3 f = some (.lst ((keys t').map V.int)) ∧ Reach ps st t' ∧ Done ps t' at' ∧ at' < t'.length ∧ (keys t')[at']? = some k ∧ ∀ x ∈ (endsOf ps k).take i, x ∈ keys t')
      ⟨t, en, rfl, s2.trans se, hb.1, se _ _ hA, se _ _ hF, R, D, c2, hk, fun x hx => by simp at hx⟩ (fun i σ H3 _ ⟨_, _, _, _, h, _⟩ => SqL.of h) ?_ ?_⟩
    · rintro i y σ H3 hi ⟨t', en', rfl, s3, hB3, hA3, hF3, R3, D3, hl3, hk3, hall⟩
      obtain ⟨x, rfl, hx⟩ := int_of hi
      have hlx : (k, x) ∈ ps := mem_endsOf.mp (List.mem_of_getElem? hx)
      have htl3 := R3.len_le hst hin
      have hkl3 : (keys t').length = t'.length := List.length_map _
      refine ⟨_, rfl, _, rfl, a, _, rfl, DGet.k (k := Sum.inl x) hA3, _, rfl, ?_⟩
      rw [val_tree_some]
      by_cases c3 : x ∈ keys t'
      · rw [decide_eq_true c3]
        refine iteF ⟨t', _, rfl, s3, hB3, hA3, hF3, R3, D3, hl3, hk3, fun y' hy' => ?_⟩
        rw [take_succ_get hx] at hy'
        rcases List.mem_append.mp hy' with h | h
        · exact hall y' h
        · rw [List.mem_singleton.mp h]; exact c3
      · rw [decide_eq_false c3]
        refine iteT ⟨_, rfl, _, rfl, _, rfl, a, _, rfl, DPut.k (k := Sum.inl x) hA3 (small1000 (by rw [treeKV_len]; omega)), ?_⟩
        rw [put_tree c3]
        have hF4 : (upd H3 a (.dK (treeKV (t' ++ [(x, some k)])))) f = some (.lst ((keys t').map V.int)) := by rw [upd_ne naf.symm]; exact hF3
        refine ⟨_, rfl, .inl ⟨rfl, _, SqL.of hF4⟩, _, rfl, f, _, _, rfl, rfl, hF4, small1000 (by rw [List.length_map, hkl3]; omega), ?_⟩
        have ek : (keys t').map V.int ++ [.int x] = (keys (t' ++ [(x, some k)])).map V.int := by rw [keys_append, List.map_append]; rfl
        refine ⟨t' ++ [(x, some k)], _, rfl, same_put (same_put s3 ha _) hf1 _, ?_, ?_, ?_, R3.push c3 (List.mem_of_getElem? hk3) hlx, D3.mono (Nat.le_of_lt hl3), by rw [List.length_append, List.length_singleton]; omega, ?_, fun y' hy' => ?_⟩
        · rw [upd_ne hb.2.2, upd_ne hb.2.1]; exact hB3
        · rw [upd_ne naf, upd_same]
        · rw [upd_same, ek]
        · rw [keys_append, List.getElem?_append_left (by rw [hkl3]; exact hl3)]; exact hk3
        · rw [keys_append]
          rw [take_succ_get hx] at hy'
          rcases List.mem_append.mp hy' with h | h
          · exact List.mem_append_left _ (hall y' h)
          · rw [List.mem_singleton.mp h]
            exact List.mem_append_right _ (by simp [keys])
    · rintro σ H3 ⟨t', en', rfl, s3, hB3, hA3, hF3, R3, D3, hl3, hk3, hall⟩
      refine ⟨_, rfl, _, _, rfl, rfl, ?_⟩
      refine ⟨t', _, _, rfl, s3, hA3, hF3, R3, D3.succ hk3 fun e' he' => hall e' ?_, hl3⟩
      rw [List.length_map, List.take_length]
      exact mem_endsOf.mpr he'
  · have c' : ¬ (at' : Int) < (((keys t).map V.int).length : Nat) := of_decide_eq_false (Bool.eq_false_iff.mpr c)
    rw [List.length_map, hkl] at c'
    have e : at' = t.length := by omega
    subst e
    exact ⟨_, rfl, q a t H2 (s1.trans s2) (s1.free ha) hA R D⟩
end

/-! ### the law's own helpers -/
def spUpto (K : PySem.W.Frag) : Sp := fun vs H Q _ => ∃ (a : Addr) (ns : List Int) (x y : V), vs = [.ref a, x, y] ∧ SqL K H a (ns.map V.int) ∧ ns.length ≤ 63 ∧ Q x H
def spWhole : Sp := fun vs H Q _ => ∃ i : Int, vs = [.int i] ∧ Q (.bl true) H
def spAt (K : PySem.W.Frag) : Sp := fun vs H Q _ => ∃ (a : Addr) (ns : List Int) (k : Nat), vs = [.ref a, .int (k : Int)] ∧ SqL K H a (ns.map V.int) ∧ Q (.int (ns.getD k 0)) H
def spLanesBy (K : PySem.W.Frag) : Sp := fun vs H Q _ => ∃ (a : Addr) (ns : List Int) (n seed : Int), vs = [.ref a, .int n, .int seed] ∧ SqL K H a (ns.map V.int) ∧ ns.length ≤ 63 ∧ 0 ≤ n ∧ n ≤ 1000 ∧
  ∀ l ps H', Same H H' → LanesAt H' l ps → InR n ps → ps.length ≤ ns.length → Q (.ref l) H'
def spSame : Sp := fun vs H Q _ => ∃ (l l2 : Addr) (ps : Lanes), vs = [.ref l, .ref l2] ∧ LanesAt H l ps ∧ LanesAt H l2 ps ∧ ps.length ≤ 1000 ∧ Q (.bl true) H
def spWholeRow : Sp := fun vs H Q _ => ∃ (a : Addr) (ns : List Int), vs = [.ref a] ∧ H a = some (.lst (ns.map V.int)) ∧ ns.length ≤ 1000 ∧ Q (.bl true) H
section
variable {P : Program} {w : World} {K : PySem.W.Frag} {mg : Str → Option Value} {base : Heap}
variable {fUpto fWhole fAt fLanesBy fSame fWholeRow : Addr} {gUpto gWhole gAt gLanesBy gSame gWholeRow : FuncData}
theorem ok_upto (d : DefAt K mg "_law_upto" sLUpto PLUpto fUpto gUpto) (z : Zs mg) : FnOk P w K mg base CX0 1 fUpto gUpto PLUpto (spUpto K) := by
  refine d.F.ok scLUpto (fun vs H Q E h => ?_) (fun cdv A outer s H vs Q E hr h => ?_)
  · obtain ⟨a, ns, x, y, rfl, _⟩ := h
    rfl
  obtain ⟨a, ns, x, y, rfl, hS, hl, q⟩ := h
  refine ⟨_, (pss_cons (ps_if (pt_cmpR op_gt (pe_callB call_len_seq rfl z.len bt_len (pa_cons (pv 0) pa_nil)) pe_int (nomark _)) (pss_one (ps_ret (pv 2))) pss_nil)
      (pss_one (ps_ret (pv 1)))), ?_⟩
  refine ⟨_, rfl, a, _, rfl, .inl hS, _, _, rfl, rfl, _, rfl, ?_⟩
  have e : decide ((63 : Int) < (((ns.map V.int).length : Nat) : Int)) = false := decide_eq_false (by rw [List.length_map]; omega)
  rw [e]
  exact iteF ⟨_, rfl, q⟩
theorem kit_int_int : PySem.W.kitOne K (.type "int") (.type "int") = some true := by rfl
theorem kit_int_bool : PySem.W.kitOne K (.type "int") (.type "bool") = some false := by rfl
theorem kit_list_list : PySem.W.kitOne K (.type "list") (.type "list") = some true := by rfl
theorem kit_tup_tup : PySem.W.kitOne K (.type "tuple") (.type "tuple") = some true := by rfl
theorem kit_str_str : PySem.W.kitOne K (.type "str") (.type "str") = some true := by rfl
theorem kit_bool_bool : PySem.W.kitOne K (.type "bool") (.type "bool") = some true := by rfl
theorem ok_whole (d : DefAt K mg "_law_whole" sLWhole PLWhole fWhole gWhole) (z : Zs mg) : FnOk P w K mg base CX0 1 fWhole gWhole PLWhole spWhole := by
  refine d.F.ok scLWhole (fun vs H Q E h => ?_) (fun cdv A outer s H vs Q E hr h => ?_)
  · obtain ⟨i, rfl, _⟩ := h
    rfl
  obtain ⟨i, rfl, q⟩ := h
  refine ⟨_, (pss_one (ps_ret (pe_and (pe_callB call_isi rfl z.isinstance bt_isinstance (pa_cons (pv 0) (pa_cons (pe_bltn (v := .ty "int") rfl z.int bt_int rfl) pa_nil))) (pe_one (pe_not (pe_callB call_isi rfl z.isinstance bt_isinstance (pa_cons (pv 0) (pa_cons (pe_bltn (v := .ty "bool") rfl z.bool bt_bool rfl) pa_nil)))))))), ?_⟩
  refine ⟨_, rfl, _, _, _, _, rfl, .int i, kit_int_int, _, rfl, ?_⟩
  exact iteT ⟨_, rfl, _, _, _, _, rfl, .int i, kit_int_bool, _, rfl, q⟩
theorem ok_at (d : DefAt K mg "_law_at" sLAt PLAt fAt gAt) (z : Zs mg) : FnOk P w K mg base CX0 1 fAt gAt PLAt (spAt K) := by
  refine d.F.ok scLAt (fun vs H Q E h => ?_) (fun cdv A outer s H vs Q E hr h => ?_)
  · obtain ⟨a, ns, k, rfl, _⟩ := h
    rfl
  obtain ⟨a, ns, k, rfl, hS, q⟩ := h
  refine ⟨_, (pss_cons (ps_if (pt_cmpR op_lt (pv 1) (pe_callB call_len_seq rfl z.len bt_len (pa_cons (pv 0) pa_nil)) (nomark _)) (pss_one (ps_ret (pe_ix ix_list (pv 0) (pv 1) (fun _ _ => rfl)))) pss_nil)
      (pss_one (ps_ret pe_int))), ?_⟩
  refine ⟨_, rfl, _, rfl, a, _, rfl, .inl hS, _, _, rfl, rfl, _, rfl, ?_⟩
  refine ite2 (fun c => ?_) (fun c => ?_)
  · have c' : (k : Int) < (((ns.map V.int).length : Nat) : Int) := of_decide_eq_true c
    rw [List.length_map] at c'
    have e : ns[k]? = some (ns.getD k 0) := by
      have hk : k < ns.length := by omega
      rw [List.getD_eq_getElem?_getD, List.getElem?_eq_getElem hk]; rfl
    exact ⟨_, rfl, _, rfl, a, _, _, _, rfl, rfl, hS, at_int e, q⟩
  · have c' : ¬ (k : Int) < (((ns.map V.int).length : Nat) : Int) := of_decide_eq_false (Bool.eq_false_iff.mpr c)
    rw [List.length_map] at c'
    have e : ns.getD k 0 = 0 := by rw [List.getD_eq_getElem?_getD, List.getElem?_eq_none (by omega)]; rfl
    rw [e] at q
    exact q

theorem at_two {α : Type} {x y : α} {i : Int} (h : i = 0 ∨ i = 1) : atI [x, y] i = some (if i = 0 then x else y) := by
  rcases h with e | e
  · subst e; rfl
  · subst e; rfl
theorem at_three {α : Type} {x y z : α} {i : Int} (h : i = 0 ∨ i = 1 ∨ i = 2) : atI [x, y, z] i = some (if i = 0 then x else if i = 1 then y else z) := by
  rcases h with e | e | e
  · subst e; rfl
  · subst e; rfl
  · subst e; rfl
theorem lane_made {H H2 : Hp} {l : Addr} {as : List Addr} {ps : Lanes} {x y : Int} {p : Addr} (s2 : Same H H2) (hl : H2 l = some (.lst (as.map V.ref))) (hp : Paired (fun a p => H2 a = some (.tup (pr p))) as ps) (hfl : H l = none) (hn : H2 p = none) :
    Same H (upd (upd H2 p (.tup [.int x, .int y])) l (.lst (as.map V.ref ++ [.ref p]))) ∧
    (upd (upd H2 p (.tup [.int x, .int y])) l (.lst (as.map V.ref ++ [.ref p]))) l = some (.lst ((as ++ [p]).map V.ref)) ∧
    Paired (fun a q => (upd (upd H2 p (.tup [.int x, .int y])) l (.lst (as.map V.ref ++ [.ref p]))) a = some (.tup (pr q))) (as ++ [p]) (ps ++ [(x, y)]) := by
  have nlp : l ≠ p := ne_of_none hl hn
  refine ⟨same_put (s2.trans (same_new hn _)) hfl _, by rw [upd_same, List.map_append]; rfl, Paired.snoc (Paired.mapP hp fun a q e => ?_) ?_⟩
  · rw [upd_ne (ne_of e hl (by intro z; cases z)), upd_ne (ne_of_none e hn)]; exact e
  · rw [upd_ne nlp.symm, upd_same]; rfl
theorem ok_lanesBy (d : DefAt K mg "_law_lanes_by" sLLanesBy PLLanesBy fLanesBy gLanesBy) (z : Zs mg) : FnOk P w K mg base CX0 1 fLanesBy gLanesBy PLLanesBy (spLanesBy K) := by
  refine d.F.ok scLLanesBy (fun vs H Q E h => ?_) (fun cdv A outer s H vs Q E hr h => ?_)
  · obtain ⟨a, ns, n, seed, rfl, _⟩ := h
    rfl
  obtain ⟨a, ns, n, seed, rfl, hS, hl, h0, h1000, q⟩ := h
  refine ⟨_, (pss_cons (ps_set (i := 3) scLLanesBy.nd rfl (by first | exact Or.inl rfl | exact Or.inr rfl) (pe_lst pa_nil))
      (pss_cons (ps_set (i := 4) scLLanesBy.nd rfl (by first | exact Or.inl rfl | exact Or.inr rfl) (pe_ix ix_list (pe_lst (pa_cons (pe_op op_add pe_int (pe_op op_mod (pv 2) pe_int)) (pa_cons (pe_callB (call_max2 rfl) rfl z.max bt_max (pa_cons pe_int (pa_cons (pe_op op_sub (pv 1) pe_int) pa_nil))) pa_nil))) (pe_op op_mod (pe_op op_fdiv (pv 2) pe_int) pe_int) (fun _ _ => rfl)))
      (pss_cons (ps_if (pt_cmpR op_eq (pv 1) pe_int (nomark _)) (pss_one (ps_ret (pv 3))) pss_nil)
      (pss_cons (ps_for PassesOwn.never rfl (pi_range1 rfl z.range (pa_cons (pe_callB call_len_seq rfl z.len bt_len (pa_cons (pv 0) pa_nil)) pa_nil)) (pg_name (i := 5) scLLanesBy.nd rfl (by first | exact Or.inl rfl | exact Or.inr rfl)) (pss_cons (ps_set (i := 6) scLLanesBy.nd rfl (by first | exact Or.inl rfl | exact Or.inr rfl) (pe_op op_mod (pe_op op_add (pe_ix ix_list (pv 0) (pv 5) (fun _ _ => rfl)) (pv 5)) (pv 1)))
      (pss_cons (ps_set (i := 7) scLLanesBy.nd rfl (by first | exact Or.inl rfl | exact Or.inr rfl) (pe_op op_add (pe_op op_add (pv 6) pe_int) (pe_op op_mod (pe_op op_fdiv (pe_ix ix_list (pv 0) (pv 5) (fun _ _ => rfl)) pe_int) (pv 4))))
      (pss_cons (ps_if (pt_cmpR op_ge (pv 7) (pv 1) (nomark _)) (pss_one (ps_set (i := 7) scLLanesBy.nd rfl (by first | exact Or.inl rfl | exact Or.inr rfl) (pe_ix ix_list (pe_lst (pa_cons (pe_op op_mod (pv 7) (pv 1)) (pa_cons (pv 6) (pa_cons (pv 6) pa_nil)))) (pe_op op_mul (pe_op op_mod (pe_op op_fdiv (pv 2) pe_int) pe_int) (pe_callTy call_int1 rfl z.int bt_int (pa_cons (pe_cmpR op_lt (pv 4) pe_int (nomark _)) pa_nil))) (fun _ _ => rfl)))) pss_nil)
      (pss_cons (ps_if (pt_cmpR op_eq (pe_op op_mod (pe_ix ix_list (pv 0) (pv 5) (fun _ _ => rfl)) pe_int) pe_int (nomark _)) (pss_one (ps_set (i := 7) scLLanesBy.nd rfl (by first | exact Or.inl rfl | exact Or.inr rfl) (pv 6))) pss_nil)
      (pss_one (ps_if (pt_cmpR op_eq (pe_op op_mod (pe_op op_fdiv (pe_ix ix_list (pv 0) (pv 5) (fun _ _ => rfl)) pe_int) pe_int) pe_int (nomark _)) (pss_one (ps_expr (pe_bm PySem.F.plainAttrs_list PySem.F.slot_list_append PySem.F.type_list_append mt_append (pv 3) (pa_cons (pe_tup (pa_cons (pv 7) (pa_cons (pv 6) pa_nil))) pa_nil)))) (pss_one (ps_expr (pe_bm PySem.F.plainAttrs_list PySem.F.slot_list_append PySem.F.type_list_append mt_append (pv 3) (pa_cons (pe_tup (pa_cons (pv 6) (pa_cons (pv 7) pa_nil))) pa_nil)))))))))))
      (pss_one (ps_ret (pv 3))))))), ?_⟩
  -- lanes = []
  refine ⟨(by show 0 ≤ sizeLine; decide), fun l hfl => ?_⟩
  have sl : Same H (upd H l (.lst [])) := same_new hfl _
  -- hop
  refine ⟨_, rfl, _, _, rfl, rfl, (by show (0 : Int) < 4; decide), _, _, rfl, rfl, _, rfl, _, _, rfl, rfl, _, _, rfl, (by show 2 ≤ sizeLine; decide), fun p hp => ?_⟩
  refine ⟨_, rfl, _, _, rfl, rfl, ⟨by decide, by decide⟩, _, _, rfl, rfl, (by show (0 : Int) < 2; decide), p, _, _, _, rfl, rfl, SqL.of upd_same, at_two (by omega), ?_⟩
  have spp : Same H (upd (upd H l (.lst [])) p (.lst [.int (1 + seed % 4), .int (if n - 1 > 5 then n - 1 else 5)])) := sl.trans (same_new hp _)
  have hlp : (upd (upd H l (.lst [])) p (.lst [.int (1 + seed % 4), .int (if n - 1 > 5 then n - 1 else 5)])) l = some (.lst (([] : List Addr).map V.ref)) := by
    rw [upd_ne (ne_of_none upd_same hp), upd_same]; rfl
  obtain ⟨hop, ehop, hop1⟩ : ∃ hop : Int, (if seed / 12 % 2 = 0 then V.int (1 + seed % 4) else V.int (if n - 1 > 5 then n - 1 else 5)) = .int hop ∧ 1 ≤ hop := by
    by_cases c : seed / 12 % 2 = 0
    · rw [if_pos c]; exact ⟨_, rfl, by omega⟩
    · rw [if_neg c]; exact ⟨_, rfl, by split <;> omega⟩
  rw [ehop]
  generalize (upd (upd H l (.lst [])) p (.lst [.int (1 + seed % 4), .int (if n - 1 > 5 then n - 1 else 5)])) = Hp0 at spp hlp ⊢
  -- if count == 0
  refine ⟨_, rfl, (by rfl), _, rfl, ?_⟩
  refine ite2 (fun c => ?_) (fun c => ?_)
  · exact ⟨_, rfl, q l [] _ spp ⟨[], hlp, .nil⟩ (fun p hp => by simp at hp) (by simp)⟩
  have hn : 0 < n := by
    have c' : ¬ V.int n = V.int 0 := of_decide_eq_false (Bool.eq_false_iff.mpr c)
    have : n ≠ 0 := fun e => c' (by rw [e])
    omega
  have hS2 : ∀ {H2 : Hp}, Same H H2 → SqL K H2 a (ns.map V.int) := fun s => s.seq hS
  have hlen : (ns.map V.int).length = ns.length := List.length_map _
  -- for k in range(len(cells))
  refine ⟨_, rfl, a, _, rfl, .inl (hS2 spp), _, rfl, (by omega), (by rw [hlen]; omega), for_range (n := ((((ns.map V.int).length : Nat) : Int)).toNat) (fun i σ H2 => ∃ (v1 v2 v3 : Option V) (as : List Addr) (ps : Lanes),
      σ = [some (.ref a), some (.int n), some (.int seed), some (.ref l), some (.int hop), v1, v2, v3] ∧ Same H H2 ∧ H2 l = some (.lst (as.map V.ref)) ∧ Paired (fun a p => H2 a = some (.tup (pr p))) as ps ∧ InR n ps ∧ ps.length = i)
    ⟨none, none, none, [], [], rfl, spp, hlp, .nil, fun p hp => by simp at hp, rfl⟩ ?_ ?_⟩
  · rintro i σ H2 hi ⟨v1, v2, v3, as, ps, rfl, s2, hl2, hp2, hin, hil⟩
    have hi' : i < ns.length := by
      rw [hlen] at hi
      omega
    obtain ⟨x, hx⟩ : ∃ x, ns[i]? = some x := ⟨_, List.getElem?_eq_getElem hi'⟩
    have e0 : (0 : Int) + (i : Int) = (i : Int) := Int.zero_add _
    rw [e0]
    have hX : atI (ns.map V.int) (i : Int) = some (.int x) := at_int hx
    have hal := Paired.len hp2
    -- one
    refine ⟨_, rfl, _, rfl, a, _, _, _, rfl, rfl, hS2 s2, hX, _, rfl, _, _, rfl, rfl, _, rfl, _, _, rfl, rfl, hn, ?_⟩
    have o1 : 0 ≤ (x + (i : Int)) % n := Int.emod_nonneg _ (by omega)
    have o2 : (x + (i : Int)) % n < n := Int.emod_lt_of_pos _ hn
    -- other
    refine ⟨_, rfl, _, _, rfl, rfl, _, rfl, _, rfl, a, _, _, _, rfl, rfl, hS2 s2, hX, _, _, rfl, rfl, ⟨by decide, by decide⟩, _, rfl, _, _, rfl, rfl, (by show 0 < hop; omega), _, _, rfl, rfl, ?_⟩
    have t1 : 0 ≤ x / 7 % hop := Int.emod_nonneg _ (by omega)
    have t2 : 0 ≤ (x + (i : Int)) % n + 1 + x / 7 % hop := by omega
    -- if other >= count
    refine ⟨_, rfl, _, rfl, _, _, rfl, rfl, _, rfl, ?_⟩
    refine if_key (fun v H3 => ∃ o : Int, v = .int o ∧ 0 ≤ o ∧ o < n ∧ Same H H3 ∧ H3 l = some (.lst (as.map V.ref)) ∧ Paired (fun a p => H3 a = some (.tup (pr p))) as ps) (fun key c => ?_) (fun c => ⟨_, rfl, _, rfl, t2, ?_, s2, hl2, hp2⟩) (fun v H3 ⟨o, ev, g1, g2, s3, hl3, hp3⟩ => ?_)
    · have m1 : 0 ≤ ((x + (i : Int)) % n + 1 + x / 7 % hop) % n := Int.emod_nonneg _ (by omega)
      have m2 : ((x + (i : Int)) % n + 1 + x / 7 % hop) % n < n := Int.emod_lt_of_pos _ hn
      have r1 : 0 ≤ seed / 4 % 3 := Int.emod_nonneg _ (by decide)
      have r2 : seed / 4 % 3 < 3 := Int.emod_lt_of_pos _ (by decide)
      refine ⟨_, rfl, _, rfl, _, _, rfl, rfl, hn, _, rfl, _, rfl, (by show 3 ≤ sizeLine; decide), fun e he => ?_⟩
      refine ⟨_, rfl, _, _, rfl, rfl, ⟨by decide, by decide⟩, _, _, rfl, rfl, (by show (0 : Int) < 3; decide), _, rfl, _, _, rfl, rfl, .inr ⟨_, rfl, ?_⟩⟩
      refine ⟨_, _, rfl, rfl, .inl ⟨by omega, by omega⟩, e, _, _, _, rfl, rfl, SqL.of upd_same, at_three (by split <;> omega), ?_⟩
      refine key _ _ ?_
      have se := s2.trans (same_new he (.lst [.int (((x + (i : Int)) % n + 1 + x / 7 % hop) % n), .int ((x + (i : Int)) % n), .int ((x + (i : Int)) % n)]))
      have hle := same_new he (.lst [.int (((x + (i : Int)) % n + 1 + x / 7 % hop) % n), .int ((x + (i : Int)) % n), .int ((x + (i : Int)) % n)]) _ _ hl2
      have hpe := Paired.mapP hp2 fun a q e => same_new he (.lst [.int (((x + (i : Int)) % n + 1 + x / 7 % hop) % n), .int ((x + (i : Int)) % n), .int ((x + (i : Int)) % n)]) _ _ e
      generalize (seed / 4 % 3 * if decide (hop < 5) = true then (1 : Int) else 0) = ix
      by_cases c0 : ix = 0
      · rw [if_pos c0]; exact ⟨_, rfl, m1, m2, se, hle, hpe⟩
      · rw [if_neg c0]
        have z3 : (if ix = 1 then V.int ((x + (i : Int)) % n) else V.int ((x + (i : Int)) % n)) = V.int ((x + (i : Int)) % n) := by split <;> rfl
        exact ⟨_, z3, o1, o2, se, hle, hpe⟩
    · have c' : ¬ n ≤ (x + (i : Int)) % n + 1 + x / 7 % hop := of_decide_eq_false (Bool.eq_false_iff.mpr c)
      omega
    subst ev
    -- if cells[k] % 17 == 5
    refine ⟨_, rfl, _, rfl, a, _, _, _, rfl, rfl, hS2 s3, hX, _, _, rfl, rfl, (by show (0 : Int) < 17; decide), rfl, _, rfl, ?_⟩
    refine if_key (fun v H3 => ∃ o : Int, v = .int o ∧ 0 ≤ o ∧ o < n ∧ Same H H3 ∧ H3 l = some (.lst (as.map V.ref)) ∧ Paired (fun a p => H3 a = some (.tup (pr p))) as ps) (fun key c => ?_) (fun c => ⟨_, rfl, _, rfl, g1, g2, s3, hl3, hp3⟩) (fun v H4 ⟨o', ev, g1', g2', s4, hl4, hp4⟩ => ?_)
    · exact ⟨_, rfl, key _ _ ⟨_, rfl, o1, o2, s3, hl3, hp3⟩⟩
    subst ev
    -- if cells[k] // 3 % 6 == 1
    refine ⟨_, rfl, _, rfl, a, _, _, _, rfl, rfl, hS2 s4, hX, _, _, rfl, rfl, ⟨by decide, by decide⟩, _, _, rfl, rfl, (by show (0 : Int) < 6; decide), rfl, _, rfl, ?_⟩
    have hz4 : (as.map V.ref).length < sizeLine := small1000 (by rw [List.length_map]; omega)
    refine ite2 (fun c => ?_) (fun c => ?_)
    · refine ⟨_, rfl, .inl ⟨rfl, _, SqL.of hl4⟩, _, rfl, _, rfl, (by show 2 ≤ sizeLine; decide), fun p hp => ?_⟩
      refine ⟨l, _, _, rfl, rfl, same_new hp _ _ _ hl4, hz4, ?_⟩
      obtain ⟨k1, k2, k3⟩ := lane_made (x := o') (y := (x + (i : Int)) % n) s4 hl4 hp4 hfl hp
      refine ⟨_, _, _, as ++ [p], ps ++ [(o', (x + (i : Int)) % n)], rfl, k1, k2, k3, fun q hq => ?_, by rw [List.length_append, List.length_singleton, hil]⟩
      rcases List.mem_append.mp hq with h | h
      · exact hin q h
      · rw [List.mem_singleton.mp h]; exact ⟨⟨g1', g2'⟩, o1, o2⟩
    · refine ⟨_, rfl, .inl ⟨rfl, _, SqL.of hl4⟩, _, rfl, _, rfl, (by show 2 ≤ sizeLine; decide), fun p hp => ?_⟩
      refine ⟨l, _, _, rfl, rfl, same_new hp _ _ _ hl4, hz4, ?_⟩
      obtain ⟨k1, k2, k3⟩ := lane_made (x := (x + (i : Int)) % n) (y := o') s4 hl4 hp4 hfl hp
      refine ⟨_, _, _, as ++ [p], ps ++ [((x + (i : Int)) % n, o')], rfl, k1, k2, k3, fun q hq => ?_, by rw [List.length_append, List.length_singleton, hil]⟩
      rcases List.mem_append.mp hq with h | h
      · exact hin q h
      · rw [List.mem_singleton.mp h]; exact ⟨⟨o1, o2⟩, g1', g2'⟩
  · rintro σ H2 ⟨v1, v2, v3, as, ps, rfl, s2, hl2, hp2, hin, hil⟩
    exact ⟨_, rfl, q l ps H2 s2 ⟨as, hl2, hp2⟩ hin (by rw [hlen] at hil; omega)⟩

theorem ok_same (d : DefAt K mg "_law_same_lanes" sLSameLanes PLSameLanes fSame gSame) (z : Zs mg) (dLWhole : DefAt K mg "_law_whole" sLWhole PLWhole fWhole gWhole) (GLWhole : FnOk P w K mg base CX0 1 fWhole gWhole PLWhole spWhole) :
    FnOk P w K mg base CX0 2 fSame gSame PLSameLanes spSame := by
  refine d.F.ok scLSameLanes (fun vs H Q E h => ?_) (fun cdv A outer s H vs Q E hr h => ?_)
  · obtain ⟨l, l2, ps, rfl, _⟩ := h
    rfl
  obtain ⟨l, l2, ps, rfl, ⟨as, h1, p1⟩, ⟨as2, h2, p2⟩, hlen, q⟩ := h
  have hu := hu_of hr
  have hu0 := Nat.lt_of_succ_lt hu
  refine ⟨_, (pss_cons (ps_if (PW.pt (pw_or (pt_not (pt_val (pe_callB call_isi rfl z.isinstance bt_isinstance (pa_cons (pv 0) (pa_cons (pe_bltn (v := .ty "list") rfl z.list bt_list rfl) pa_nil))))) (pw_or1 (pt_cmpR op_ne (pe_callB call_len_seq rfl z.len bt_len (pa_cons (pv 0) pa_nil)) (pe_callB call_len_seq rfl z.len bt_len (pa_cons (pv 1) pa_nil)) (nomark _))))) (pss_one (ps_ret pe_bl)) pss_nil)
      (pss_cons (ps_for PassesOwn.never rfl (pi_range1 rfl z.range (pa_cons (pe_callB call_len_seq rfl z.len bt_len (pa_cons (pv 1) pa_nil)) pa_nil)) (pg_name (i := 2) scLSameLanes.nd rfl (by first | exact Or.inl rfl | exact Or.inr rfl)) (pss_cons (ps_if (PW.pt (pw_or (pt_not (pt_val (pe_callB call_isi rfl z.isinstance bt_isinstance (pa_cons (pe_ix ix_list (pv 0) (pv 2) (fun _ _ => rfl)) (pa_cons (pe_bltn (v := .ty "tuple") rfl z.tuple bt_tuple rfl) pa_nil))))) (pw_or1 (pt_cmpR op_ne (pe_callB call_len_seq rfl z.len bt_len (pa_cons (pe_ix ix_list (pv 0) (pv 2) (fun _ _ => rfl)) pa_nil)) pe_int (nomark _))))) (pss_one (ps_ret pe_bl)) pss_nil)
      (pss_cons (ps_if (PW.pt (pw_or (pt_not (pt_val (pe_call GLWhole (hr.mono (by decide)) rfl dLWhole.m dLWhole.F.kp dLWhole.b .nil pass0 (pa_cons (pe_ix ix_tup (pe_ix ix_list (pv 0) (pv 2) (fun _ _ => rfl)) pe_int (fun _ _ => rfl)) pa_nil)))) (pw_or1 (pt_not (pt_val (pe_call GLWhole (hr.mono (by decide)) rfl dLWhole.m dLWhole.F.kp dLWhole.b .nil pass0 (pa_cons (pe_ix ix_tup (pe_ix ix_list (pv 0) (pv 2) (fun _ _ => rfl)) pe_int (fun _ _ => rfl)) pa_nil))))))) (pss_one (ps_ret pe_bl)) pss_nil)
      (pss_one (ps_if (pt_cmpR (op_neT hu0) (pe_ix ix_list (pv 0) (pv 2) (fun _ _ => rfl)) (pe_ix ix_list (pv 1) (pv 2) (fun _ _ => rfl)) (nomark _)) (pss_one (ps_ret pe_bl)) pss_nil)))))
      (pss_one (ps_ret pe_bl)))), ?_⟩
  have e1 := Paired.len p1
  have e2 := Paired.len p2
  have m1 : (as.map V.ref).length = ps.length := by rw [List.length_map]; exact e1
  have m2 : (as2.map V.ref).length = ps.length := by rw [List.length_map]; exact e2
  -- isinstance(found, list), the lengths
  refine ⟨_, rfl, _, _, _, _, rfl, .lst h1, kit_list_list, _, rfl, ?_⟩
  refine iteF ⟨_, rfl, l, _, rfl, .inl (SqL.of h1), _, rfl, l2, _, rfl, .inl (SqL.of h2), rfl, _, rfl, ?_⟩
  rw [m1, m2]
  refine iteNS rfl ?_
  refine ⟨_, rfl, l2, _, rfl, .inl (SqL.of h2), _, rfl, (by omega), (by rw [m2]; omega), for_range (n := ((((as2.map V.ref).length : Nat) : Int)).toNat) (fun i σ H2 => ∃ v, σ = [some (.ref l), some (.ref l2), v] ∧ H2 = H) ⟨none, rfl, rfl⟩ ?_ ?_⟩
  · rintro i σ H2 hi ⟨v, rfl, rfl⟩
    have hi' : i < ps.length := by rw [m2] at hi; omega
    obtain ⟨p, hp⟩ : ∃ p, ps[i]? = some p := ⟨_, List.getElem?_eq_getElem hi'⟩
    obtain ⟨a, ha, hA⟩ := paired_at' p1 hp
    obtain ⟨b, hb, hB⟩ := paired_at' p2 hp
    have e0 : (0 : Int) + (i : Int) = (i : Int) := Int.zero_add _
    rw [e0]
    have xa : atI (as.map V.ref) (i : Int) = some (.ref a) := atI_nat (by rw [List.getElem?_map, ha]; rfl)
    have xb : atI (as2.map V.ref) (i : Int) = some (.ref b) := atI_nat (by rw [List.getElem?_map, hb]; rfl)
    -- isinstance(found[k], tuple), len
    refine ⟨_, rfl, _, rfl, l, _, _, _, rfl, rfl, SqL.of h1, xa, _, _, _, _, rfl, .tup hA, kit_tup_tup, _, rfl, ?_⟩
    refine iteF ⟨_, rfl, _, rfl, l, _, _, _, rfl, rfl, SqL.of h1, xa, a, _, rfl, .inr (SqT.of hA), rfl, _, rfl, ?_⟩
    refine iteNS rfl ?_
    -- whole numbers
    refine ⟨_, rfl, _, rfl, l, _, _, _, rfl, rfl, SqL.of h1, xa, a, _, _, _, rfl, rfl, SqT.of hA, rfl, p.1, rfl, _, rfl, ?_⟩
    refine iteF ⟨_, rfl, _, rfl, l, _, _, _, rfl, rfl, SqL.of h1, xa, a, _, _, _, rfl, rfl, SqT.of hA, rfl, p.2, rfl, _, rfl, ?_⟩
    refine iteF ?_
    -- the same pair
    refine ⟨_, rfl, _, rfl, l, _, _, _, rfl, rfl, SqL.of h1, xa, _, rfl, _, rfl, l2, _, _, _, rfl, rfl, SqL.of h2, xb, a, b, [p.1, p.2], [p.1, p.2], rfl, rfl, SqT.of hA, SqT.of hB, rfl, _, rfl, ?_⟩
    refine iteNS rfl ?_
    exact ⟨_, rfl, rfl⟩
  · rintro σ H2 ⟨v, rfl, rfl⟩
    exact q
theorem ok_wholeRow (d : DefAt K mg "_law_whole_row" sLWholeRow PLWholeRow fWholeRow gWholeRow) (z : Zs mg) (dLWhole : DefAt K mg "_law_whole" sLWhole PLWhole fWhole gWhole) (GLWhole : FnOk P w K mg base CX0 1 fWhole gWhole PLWhole spWhole) :
    FnOk P w K mg base CX0 2 fWholeRow gWholeRow PLWholeRow spWholeRow := by
  refine d.F.ok scLWholeRow (fun vs H Q E h => ?_) (fun cdv A outer s H vs Q E hr h => ?_)
  · obtain ⟨a, ns, rfl, _⟩ := h
    rfl
  obtain ⟨a, ns, rfl, ha, hlen, q⟩ := h
  refine ⟨_, (pss_cons (ps_if (pt_not (pt_val (pe_callB call_isi rfl z.isinstance bt_isinstance (pa_cons (pv 0) (pa_cons (pe_bltn (v := .ty "list") rfl z.list bt_list rfl) pa_nil))))) (pss_one (ps_ret pe_bl)) pss_nil)
      (pss_cons (ps_for PassesOwn.never rfl (pi_list (pv 0)) (pg_name (i := 1) scLWholeRow.nd rfl (by first | exact Or.inl rfl | exact Or.inr rfl)) (pss_one (ps_if (pt_not (pt_val (pe_call GLWhole (hr.mono (by decide)) rfl dLWhole.m dLWhole.F.kp dLWhole.b .nil pass0 (pa_cons (pv 1) pa_nil)))) (pss_one (ps_ret pe_bl)) pss_nil)))
      (pss_one (ps_ret pe_bl)))), ?_⟩
  refine ⟨_, rfl, _, _, _, _, rfl, .lst ha, kit_list_list, _, rfl, ?_⟩
  refine iteF ⟨_, rfl, a, rfl, ⟨_, SqL.of ha⟩, for_list (K := K) (a := a) (xs := ns.map V.int) (fun i σ H2 => ∃ v, σ = [some (.ref a), v] ∧ H2 = H) ⟨none, rfl, rfl⟩ (fun i σ H2 _ ⟨_, _, e⟩ => by rw [e]; exact SqL.of ha) ?_ ?_⟩
  · rintro i y σ H2 hi ⟨v, rfl, rfl⟩
    obtain ⟨x, rfl, hx⟩ := int_of hi
    refine ⟨_, rfl, x, rfl, _, rfl, ?_⟩
    exact iteF ⟨_, rfl, rfl⟩
  · rintro σ H2 ⟨v, rfl, rfl⟩
    exact q
end

/-! ### rows of ints -/
theorem in_ints {ns : List Int} {x : Int} : inV (.int x) (ns.map V.int) = decide (x ∈ ns) := by
  unfold inV
  rw [Bool.eq_iff_iff, decide_eq_true_iff, List.any_eq_true]
  constructor
  · rintro ⟨v, hv, e⟩
    obtain ⟨y, hy, rfl⟩ := List.mem_map.mp hv
    have : y = x := by simpa [eqV] using e
    rw [← this]; exact hy
  · intro h
    exact ⟨.int x, List.mem_map.mpr ⟨x, h, rfl⟩, by simp [eqV]⟩
theorem flat_ints (ns : List Int) : (ns.map V.int).all flatV = true := by
  rw [List.all_eq_true]
  intro v hv
  obtain ⟨y, _, rfl⟩ := List.mem_map.mp hv
  rfl
theorem cut_take (ns : List Int) {k : Nat} (h : k ≤ ns.length) : cutV (ns.map V.int) none (some (k : Int)) = (ns.take k).map V.int := by
  unfold cutV
  have e1 : HT.sIx (ns.map V.int).length 0 none = 0 := rfl
  have e2 : HT.sIx (ns.map V.int).length (ns.map V.int).length (some (k : Int)) = k := (HT.sIx_nat _ _ k).trans (Nat.min_eq_left (by rw [List.length_map]; exact h))
  rw [e1, e2, List.drop_zero, Nat.sub_zero, List.map_take]
theorem last_at {row : List Int} {c : Int} (h : row.getLast? = some c) : atI (row.map V.int) (-1) = some (.int c) := by
  obtain ⟨ys, rfl⟩ := List.getLast?_eq_some_iff.mp h
  rw [List.map_append]
  exact atI_last _ _

/-! ### copies and cuts -/
theorem list_copy {H : Hp} {l l2 : Addr} {as : List Addr} {ps : Lanes} (hl : H l = some (.lst (as.map V.ref))) (hp : Paired (fun a p => H a = some (.tup (pr p))) as ps) (h2 : H l2 = none) : LanesAt (upd H l2 (.lst (as.map V.ref))) l2 ps :=
  ⟨as, upd_same, Paired.mapP hp fun _ _ e => same_new h2 _ _ _ e⟩
theorem cut_small {ns : List Int} (h : ns.length ≤ 63) : cutV (ns.map V.int) none (some 1000) = ns.map V.int := by
  unfold cutV
  have e1 : HT.sIx (ns.map V.int).length 0 none = 0 := rfl
  have e2 : HT.sIx (ns.map V.int).length (ns.map V.int).length (some 1000) = ns.length := (HT.sIx_nat _ _ 1000).trans (by rw [List.length_map]; omega)
  rw [e1, e2, List.drop_zero, Nat.sub_zero]
  exact List.take_of_length_le (by rw [List.length_map]; exact Nat.le_refl _)
theorem cut_from (ns : List Int) (k : Int) (hk : 0 ≤ k) : ∃ ms : List Int, cutV (ns.map V.int) (some k) none = ms.map V.int ∧ ms.length ≤ ns.length := by
  unfold cutV
  refine ⟨(ns.drop (HT.sIx (ns.map V.int).length 0 (some k))).take (HT.sIx (ns.map V.int).length (ns.map V.int).length none - HT.sIx (ns.map V.int).length 0 (some k)), by rw [List.map_take, List.map_drop], ?_⟩
  rw [List.length_take, List.length_drop]
  omega
theorem cut_any (ns : List Int) (lo hi : Option Int) : ∃ ms : List Int, cutV (ns.map V.int) lo hi = ms.map V.int ∧ ms.length ≤ ns.length := by
  unfold cutV
  refine ⟨(ns.drop (HT.sIx (ns.map V.int).length 0 lo)).take (HT.sIx (ns.map V.int).length (ns.map V.int).length hi - HT.sIx (ns.map V.int).length 0 lo), by rw [List.map_take, List.map_drop], ?_⟩
  rw [List.length_take, List.length_drop]
  omega
theorem cutV_take (xs : List V) {k : Nat} (h : k ≤ xs.length) : cutV xs none (some (k : Int)) = xs.take k := by
  unfold cutV
  have e1 : HT.sIx xs.length 0 none = 0 := rfl
  have e2 : HT.sIx xs.length xs.length (some (k : Int)) = k := (HT.sIx_nat _ _ k).trans (Nat.min_eq_left h)
  rw [e1, e2, List.drop_zero, Nat.sub_zero]
theorem cutV_drop (xs : List V) (k : Nat) : cutV xs (some (k : Int)) none = xs.drop k := by
  unfold cutV
  have e1 : HT.sIx xs.length 0 (some (k : Int)) = min k xs.length := HT.sIx_nat _ _ k
  have e2 : HT.sIx xs.length xs.length none = xs.length := rfl
  rw [e1, e2]
  rcases Nat.le_total k xs.length with c | c
  · rw [Nat.min_eq_left c]
    exact List.take_of_length_le (by rw [List.length_drop]; exact Nat.le_refl _)
  · rw [Nat.min_eq_right c, List.drop_of_length_le c, List.drop_of_length_le (Nat.le_refl _), List.take_nil]

/-! ### what is reached, by the law -/
def trueKV (ks : List Int) : List (Key × V) := ks.map fun k => (Sum.inl k, V.bl true)
theorem val_true (ks : List Int) (k : Int) : (valV (trueKV ks) (Sum.inl k : Key)).isSome = decide (k ∈ ks) := by
  induction ks with
  | nil => rfl
  | cons x r ih =>
    unfold valV trueKV at ih ⊢
    rw [List.map_cons, List.find?_cons]
    by_cases e : x = k
    · have e' : (Sum.inl x : Key) = Sum.inl k := by rw [e]
      rw [decide_eq_true e', decide_eq_true (by rw [e]; exact List.mem_cons_self)]; rfl
    · have e' : ¬ (Sum.inl x : Key) = Sum.inl k := fun z => e (Sum.inl.inj z)
      rw [decide_eq_false e']
      refine ih.trans ?_
      by_cases c : k ∈ r
      · rw [decide_eq_true c, decide_eq_true (List.mem_cons_of_mem _ c)]
      · rw [decide_eq_false c, decide_eq_false fun m => (List.mem_cons.mp m).elim (fun q => e q.symm) c]
theorem put_true {ks : List Int} {k : Int} (h : k ∉ ks) : putK (trueKV ks) (Sum.inl k : Key) (.bl true) = trueKV (ks ++ [k]) := by
  rw [putK_new _ (by
    cases e : valV (trueKV ks) (Sum.inl k : Key) with
    | none => rfl
    | some v =>
      have q := val_true ks k
      rw [e, decide_eq_false h] at q
      cases q)]
  unfold trueKV
  rw [List.map_append]; rfl
theorem trueKV_len (ks : List Int) : (trueKV ks).length = ks.length := List.length_map _
theorem trueKV_keys (ks : List Int) : (trueKV ks).map (·.1) = ks.map Sum.inl := by
  unfold trueKV
  rw [List.map_map]; rfl
def spLReach : Sp := fun vs H Q _ => ∃ (l : Addr) (ps : Lanes) (n st : Int), vs = [.ref l, .int st] ∧ LanesAt H l ps ∧ ps.length ≤ 1000 ∧ InR n ps ∧ (0 ≤ st ∧ st < n) ∧ n ≤ 500 ∧
  ∀ d ks H', Same H H' → H' d = some (.dK (trueKV ks)) → RSet ps st ks → ((ks.length : Nat) : Int) ≤ n → (∀ k ∈ ks, 0 ≤ k ∧ k < n) → Q (.ref d) H'
section
variable {P : Program} {w : World} {K : PySem.W.Frag} {mg : Str → Option Value} {base : Heap}
theorem ok_lreach {f : Addr} {g : FuncData} (d : DefAt K mg "_law_reach" sLReach PLReach f g) : FnOk P w K mg base CX0 1 f g PLReach spLReach := by
  refine d.F.ok scLReach (fun vs H Q E h => ?_) (fun cdv A outer s H vs Q E hr h => ?_)
  · obtain ⟨l, ps, n, st, rfl, _⟩ := h
    rfl
  obtain ⟨l, ps, n, st, rfl, ⟨as, hl, hp⟩, hlen, hin, hst, hn, q⟩ := h
  have hu := hu_of hr
  have hpl := Paired.len hp
  refine ⟨_, (pss_cons (ps_set (i := 2) scLReach.nd rfl (by first | exact Or.inl rfl | exact Or.inr rfl) (pe_disp (pps_cons (pv 1) pe_bl pps_nil) rfl rfl (by simp) (by decide)))
      (pss_cons (ps_set (i := 3) scLReach.nd rfl (by first | exact Or.inl rfl | exact Or.inr rfl) pe_bl)
      (pss_cons (ps_while PassesOwn.never (pt_val (pv 3)) (pss_cons (ps_set (i := 3) scLReach.nd rfl (by first | exact Or.inl rfl | exact Or.inr rfl) pe_bl)
      (pss_one (ps_for PassesOwn.never rfl (pi_list (pv 0)) (pg_name (i := 4) scLReach.nd rfl (by first | exact Or.inl rfl | exact Or.inr rfl)) (pss_one (ps_if (PW.pt (pw_and (pt_cmp (pc_din hu (pe_ix ix_tup (pv 4) pe_int (fun _ _ => rfl)) (pv 2))) (pw_and1 (pt_cmp (pc_dnotin hu (pe_ix ix_tup (pv 4) pe_int (fun _ _ => rfl)) (pv 2)))))) (pss_cons (ps_dput hu (pv 2) (pe_ix ix_tup (pv 4) pe_int (fun _ _ => rfl)) pe_bl rfl)
      (pss_one (ps_set (i := 3) scLReach.nd rfl (by first | exact Or.inl rfl | exact Or.inr rfl) pe_bl))) pss_nil))))))
      (pss_one (ps_ret (pv 2)))))), ?_⟩
  intro a ha
  refine ⟨_, rfl, upd_same, [(Sum.inl st, .bl true)], rfl, (by show 1 ≤ 15; decide), ?_⟩
  rw [show upd (upd H a (.dK [])) a (.dK (mergeK [] [(Sum.inl st, .bl true)])) = upd H a (.dK (trueKV [st])) from upd_upd]
  have sa : Same H (upd H a (.dK (trueKV [st]))) := same_new ha _
  have bnd : ∀ ks : List Int, ks.Nodup → (∀ k ∈ ks, 0 ≤ k ∧ k < n) → ((ks.length : Nat) : Int) ≤ n := fun ks nd rg => by
    rcases nodup_places nd rg with c | c
    · exact c
    · rw [c]; show (0 : Int) ≤ n; omega
  refine ⟨fun m σ H2 => ∃ (ks : List Int) (mo : Bool) (ln : Option V), σ = [some (.ref l), some (.int st), some (.ref a), some (.bl mo), ln] ∧ Same H H2 ∧ H2 a = some (.dK (trueKV ks)) ∧ ks.Nodup ∧ st ∈ ks ∧ (∀ k ∈ ks, Rch ps st k) ∧ (∀ k ∈ ks, 0 ≤ k ∧ k < n) ∧
      (mo = false → ∀ x y, (x, y) ∈ ps → x ∈ ks → y ∈ ks) ∧ m = 2 * (n.toNat - ks.length) + (if mo then 1 else 0),
    ⟨_, [st], true, none, rfl, sa, upd_same, by simp, List.mem_cons_self, fun k hk => by rw [List.mem_singleton.mp hk]; exact .here, fun k hk => by rw [List.mem_singleton.mp hk]; exact hst, fun z => (by cases z), rfl⟩, ?_⟩
  rintro m σ H2 ⟨ks, mo, ln, rfl, s2, hA, nd, hs, ok, rg, cl, rfl⟩
  have hkl := bnd ks nd rg
  refine ⟨_, rfl, _, rfl, ?_⟩
  refine ite2 (fun c => ?_) (fun c => ?_)
  · subst c
    refine ⟨fun σ' H' => ∃ (ks' : List Int) (mo' : Bool) (ln : Option V), σ' = [some (.ref l), some (.int st), some (.ref a), some (.bl mo'), ln] ∧ Same H H' ∧ H' a = some (.dK (trueKV ks')) ∧ ks'.Nodup ∧ st ∈ ks' ∧ (∀ k ∈ ks', Rch ps st k) ∧ (∀ k ∈ ks', 0 ≤ k ∧ k < n) ∧
        (mo' = false → ks'.length = ks.length ∧ ∀ x y, (x, y) ∈ ps → x ∈ ks' → y ∈ ks') ∧ (mo' = true → ks.length < ks'.length),
      fun σ' H' ⟨ks', mo', ln, e, s', hA', nd', hs', ok', rg', h1, h2⟩ => ?_, ?_⟩
    · have hkl' := bnd ks' nd' rg'
      refine ⟨2 * (n.toNat - ks'.length) + (if mo' then 1 else 0), ?_, ks', mo', ln, e, s', hA', nd', hs', ok', rg', fun z => (h1 z).2, rfl⟩
      cases mo' with
      | false =>
        have := (h1 rfl).1
        show 2 * (n.toNat - ks'.length) + 0 < 2 * (n.toNat - ks.length) + 1
        omega
      | true =>
        have := h2 rfl
        show 2 * (n.toNat - ks'.length) + 1 < 2 * (n.toNat - ks.length) + 1
        omega
    · refine ⟨_, rfl, l, rfl, ⟨_, SqL.of (s2 _ _ hl)⟩, for_list (K := K) (a := l) (xs := as.map V.ref) (fun i σ H3 => ∃ (ks' : List Int) (mo' : Bool) (ln : Option V), σ = [some (.ref l), some (.int st), some (.ref a), some (.bl mo'), ln] ∧ Same H H3 ∧ H3 a = some (.dK (trueKV ks')) ∧ ks'.Nodup ∧ st ∈ ks' ∧
          (∀ k ∈ ks', Rch ps st k) ∧ (∀ k ∈ ks', 0 ≤ k ∧ k < n) ∧ (mo' = false → ks'.length = ks.length ∧ ∀ p ∈ ps.take i, p.1 ∈ ks' → p.2 ∈ ks') ∧ (mo' = true → ks.length < ks'.length) ∧ ks.length ≤ ks'.length)
        ⟨ks, false, ln, rfl, s2, hA, nd, hs, ok, rg, fun _ => ⟨rfl, fun p hp => by simp at hp⟩, fun z => (by cases z), Nat.le_refl _⟩ (fun i σ H3 _ ⟨_, _, _, _, s3, _⟩ => SqL.of (s3 _ _ hl)) ?_ ?_⟩
      · rintro i y σ H3 hi ⟨ks', mo', ln', rfl, s3, hA3, nd3, hs3, ok3, rg3, h1, h2, h4⟩
        obtain ⟨b, p, rfl, hpi, hb⟩ := lane_at hp hi
        have hb3 := s3 _ _ hb
        have hpm : p ∈ ps := List.mem_of_getElem? hpi
        have hkl3 := bnd ks' nd3 rg3
        refine ⟨_, rfl, b, _, _, _, rfl, rfl, SqT.of hb3, rfl, _, rfl, a, _, rfl, DGet.k (k := Sum.inl p.1) hA3, _, rfl, ?_⟩
        rw [val_true]
        by_cases c1 : p.1 ∈ ks'
        · rw [decide_eq_true c1]
          refine iteT ⟨_, rfl, b, _, _, _, rfl, rfl, SqT.of hb3, rfl, _, rfl, a, _, rfl, DGet.k (k := Sum.inl p.2) hA3, _, rfl, ?_⟩
          rw [val_true]
          by_cases c2 : p.2 ∈ ks'
          · rw [decide_eq_true c2]
            refine iteF ⟨ks', mo', _, rfl, s3, hA3, nd3, hs3, ok3, rg3, fun z => ⟨(h1 z).1, fun r hr hx => ?_⟩, h2, h4⟩
            rw [take_succ_get hpi] at hr
            rcases List.mem_append.mp hr with hr | hr
            · exact (h1 z).2 r hr hx
            · rw [List.mem_singleton.mp hr]; exact c2
          · rw [decide_eq_false c2]
            refine iteT ⟨_, rfl, _, rfl, b, _, _, _, rfl, rfl, SqT.of hb3, rfl, a, _, rfl, DPut.k (k := Sum.inl p.2) hA3 (small1000 (by rw [trueKV_len]; omega)), ?_⟩
            rw [put_true c2]
            refine ⟨ks' ++ [p.2], true, _, rfl, same_put s3 ha _, upd_same, nd_snoc nd3 c2, List.mem_append_left _ hs3, fun k hk => ?_, fun k hk => ?_, fun z => (by cases z), fun _ => by rw [List.length_append, List.length_singleton]; omega, by rw [List.length_append, List.length_singleton]; omega⟩
            · rcases List.mem_append.mp hk with hk | hk
              · exact ok3 k hk
              · rw [List.mem_singleton.mp hk]
                exact .step (ok3 p.1 c1) hpm
            · rcases List.mem_append.mp hk with hk | hk
              · exact rg3 k hk
              · rw [List.mem_singleton.mp hk]
                exact (hin p hpm).2
        · rw [decide_eq_false c1]
          refine iteF (iteF ⟨ks', mo', _, rfl, s3, hA3, nd3, hs3, ok3, rg3, fun z => ⟨(h1 z).1, fun r hr hx => ?_⟩, h2, h4⟩)
          rw [take_succ_get hpi] at hr
          rcases List.mem_append.mp hr with hr | hr
          · exact (h1 z).2 r hr hx
          · rw [List.mem_singleton.mp hr] at hx; exact absurd hx c1
      · rintro σ H3 ⟨ks', mo', ln', rfl, s3, hA3, nd3, hs3, ok3, rg3, h1, h2, h4⟩
        refine ⟨ks', mo', _, rfl, s3, hA3, nd3, hs3, ok3, rg3, fun z => ⟨(h1 z).1, fun x y hxy hx => ?_⟩, h2⟩
        have e : ps.take (as.map V.ref).length = ps := by rw [List.length_map, hpl, List.take_length]
        have h3 := (h1 z).2
        rw [e] at h3
        exact h3 (x, y) hxy hx
  · have c' : mo = false := Bool.eq_false_iff.mpr c
    exact ⟨_, rfl, q a ks H2 s2 hA ⟨nd, hs, ok, cl c'⟩ hkl rg⟩
end

/-! ### the parts -/
def lamP : Pos := ⟨41, 33, 41, 67⟩
def lamQ : Str := ("parts" : Str) ++ ".<locals>." ++ "<lambda>"
theorem tab_start {H : Hp} {T : Addr} (h : H T = some (.tbl #[])) : TabAt H T lamP lamQ := ⟨#[], h, trivial, .inl rfl⟩
theorem paired_choose {α β γ : Type} {F : α → γ → Prop} {G : β → γ → Prop} : ∀ {as : List α} {bs : List β}, Paired (fun a b => ∃ c, F a c ∧ G b c) as bs → ∃ cs, Paired F as cs ∧ Paired G bs cs
  | _, _, .nil => ⟨[], .nil, .nil⟩
  | _, _, .cons ⟨c, h1, h2⟩ t => by
    obtain ⟨cs, t1, t2⟩ := paired_choose t
    exact ⟨c :: cs, .cons h1 t1, .cons h2 t2⟩
def keysOf (ts : List PTree) : Int → List Int := fun x => keys (ts.getD x.toNat [])
theorem keysOf_at {ts : List PTree} {x : Nat} {t : PTree} (h : ts[x]? = some t) : keysOf ts (x : Int) = keys t := by
  unfold keysOf
  rw [Int.toNat_natCast, List.getD_eq_getElem?_getD, h]; rfl
theorem part_range (N : Nat) (R : Int → List Int) (x : Int) : ((List.range N).filter fun i : Nat => scB R x (i : Int)).map (fun i : Nat => V.int (0 + (i : Int))) = (partOf N R x).map V.int := by
  unfold partOf places
  rw [List.filter_map, List.map_map]
  refine List.map_congr_left fun i _ => ?_
  show V.int (0 + (i : Int)) = V.int (i : Int)
  rw [Int.zero_add]
theorem paired_map2 {γ : Type} {H : Hp} {f : γ → Addr} {g : γ → List Int} : ∀ {L : List γ}, (∀ i ∈ L, H (f i) = some (.lst ((g i).map V.int))) → Paired (fun q p => H q = some (.lst (p.map V.int))) (L.map f) (L.map g)
  | [], _ => .nil
  | i :: L, h => .cons (h i List.mem_cons_self) (paired_map2 fun j hj => h j (List.mem_cons_of_mem _ hj))
theorem once_range (n : Nat) (R : Int → List Int) : once n R = ((List.range n).filter fun i : Nat => least n R (i : Int)).map fun i : Nat => partOf n R (i : Int) := by
  unfold once
  rw [show (places n).filter (least n R) = ((List.range n).map fun k : Nat => (k : Int)).filter (least n R) from rfl, List.filter_map, List.map_map]
  rfl
def spPartW : Sp := fun vs H Q _ => ∃ (rA : Addr) (ds : List Addr) (ts : List PTree) (x : Nat), vs = [.ref rA, .int (x : Int)] ∧ H rA = some (.lst (ds.map V.ref)) ∧ Paired (fun d t => H d = some (.dK (treeKV t))) ds ts ∧ ds.length < 64 ∧ x < ds.length ∧
  ∀ r H', Same H H' → H' r = some (.lst ((partOf ds.length (keysOf ts) (x : Int)).map V.int)) → Q (.ref r) H'
def spParts (T : Addr) : Sp := fun vs H Q _ => ∃ (n : Nat) (l : Addr) (ps : Lanes), vs = [.int (n : Int), .ref l] ∧ LanesAt H l ps ∧ ps.length ≤ 1000 ∧ InR n ps ∧ n < 64 ∧ TabAt H T lamP lamQ ∧
  ∀ r (qs : List Addr) (F : List (List Int)) H', SameT T H H' → TabAt H' T lamP lamQ → H' r = some (.lst (qs.map V.ref)) → Paired (fun q p => H' q = some (.lst (p.map V.int))) qs F → PartsOk n ps F → Q (.ref r) H'
section
variable {P : Program} {w : World} {K : PySem.W.Frag} {mg : Str → Option Value} {base : Heap} {c T : Addr}
variable {fCheckL fReach fPartW fParts : Addr} {gCheckL gReach gPartW gParts : FuncData}
theorem ok_partw (d : DefAt K mg "part_with" sPartWith PPartWith fPartW gPartW) (z : Zs mg) : FnOk P w K mg base CX0 1 fPartW gPartW PPartWith spPartW := by
  refine d.F.ok scPartWith (fun vs H Q E h => ?_) (fun cdv A outer s H vs Q E hr h => ?_)
  · obtain ⟨rA, ds, ts, x, rfl, _⟩ := h
    rfl
  obtain ⟨rA, ds, ts, x, rfl, hR, hP, hn, hx, q⟩ := h
  have hu := hu_of hr
  have hml : (ds.map V.ref).length = ds.length := List.length_map _
  have hat : ∀ {i : Nat} {H2 : Hp}, Same H H2 → i < ds.length → ∃ (d : Addr) (t : PTree), atI (ds.map V.ref) (i : Int) = some (.ref d) ∧ H2 d = some (.dK (treeKV t)) ∧ keysOf ts (i : Int) = keys t := fun {i H2} s2 hi => by
    obtain ⟨t, ht, hd⟩ := paired_at hP (List.getElem?_eq_getElem hi)
    exact ⟨_, t, atI_nat (by rw [List.getElem?_map, List.getElem?_eq_getElem hi]; rfl), s2 _ _ hd, keysOf_at ht⟩
  refine ⟨_, (pss_one (ps_ret (pe_lc csPartWith0 rfl (pi_range1 rfl z.range (pa_cons (pe_callB call_len_seq rfl z.len bt_len (pa_cons (pv 0) pa_nil)) pa_nil)) (fun _ _ _ _ => pcs_one (PW.pt (pw_and (pt_cmp (pc_din hu (pv 0) (pe_ix (ix_listK (K := K) rfl) (pv 2) (pv 1) (fun _ _ => rfl)))) (pw_and1 (pt_cmp (pc_din hu (pv 1) (pe_ix (ix_listK (K := K) rfl) (pv 2) (pv 0) (fun _ _ => rfl)))))))) (fun _ _ _ _ => (pv 0))))), ?_⟩
  refine ⟨_, rfl, rA, _, rfl, .inl (SqL.of hR), _, rfl, (by omega), (by rw [hml]; omega), lc_rsame (n := ((((ds.map V.ref).length : Nat) : Int)).toNat) (fun i : Nat => scB (keysOf ts) (x : Int) (i : Int)) (fun i : Nat => V.int (0 + (i : Int))) (by omega) (fun i hi H2 s2 R hRr => ?_) (fun i hi _ H2 s2 R hRr => ⟨_, rfl, hRr H2 (Same.refl _)⟩) (fun H2 p s2 hp => ?_)⟩
  · have hi' : i < ds.length := by rw [hml] at hi; omega
    obtain ⟨d1, t1, a1, h1, k1⟩ := hat s2 hx
    obtain ⟨d2, t2, a2, h2, k2⟩ := hat s2 hi'
    rw [Int.zero_add]
    have h3 := hRr H2 (Same.refl _)
    unfold scB at h3
    rw [k1, k2] at h3
    refine ⟨_, rfl, _, rfl, _, rfl, rA, _, _, V.ref d1, rfl, rfl, SqL.of (s2 _ _ hR), a1, d1, _, rfl, DGet.k (k := Sum.inl (i : Int)) h1, _, rfl, ?_⟩
    rw [val_tree_some]
    by_cases c1 : (i : Int) ∈ keys t1
    · rw [decide_eq_true c1] at h3 ⊢
      refine iteT ⟨_, rfl, _, rfl, _, rfl, rA, _, _, V.ref d2, rfl, rfl, SqL.of (s2 _ _ hR), a2, d2, _, rfl, DGet.k (k := Sum.inl (x : Int)) h2, _, rfl, ?_⟩
      rw [val_tree_some]
      exact h3
    · rw [decide_eq_false c1] at h3 ⊢
      exact iteF h3
  · have eN : ((((ds.map V.ref).length : Nat) : Int)).toNat = ds.length := by rw [hml]; omega
    rw [eN, part_range]
    exact q p _ (s2.trans (same_new hp _)) upd_same
set_option maxHeartbeats 0 in
theorem ok_parts (Fc : FunC K "parts" "parts" sParts fParts gParts c) (hC : PySem.W.CodeHd base c T) (hB : base.BuiltinsAt mg T) (z : Zs mg) (dCheckLanes : DefAt K mg "check_lanes" sCheckLanes PCheckLanes fCheckL gCheckL) (GCheckLanes : FnOk P w K mg base CX0 3 fCheckL gCheckL PCheckLanes spCheckL)
    (dReach : DefAt K mg "reach" sReach PReach fReach gReach) (GReach : FnOk P w K mg base CX0 2 fReach gReach PReach spReach) (dPartWith : DefAt K mg "part_with" sPartWith PPartWith fPartW gPartW) (GPartWith : FnOk P w K mg base CX0 1 fPartW gPartW PPartWith spPartW) :
    FnOk P w K mg base CX0 4 fParts gParts PParts (spParts T) := by
  refine Fc.ok (k := 3) scParts (fun vs H Q E h => ?_) (fun A outer s H vs Q E hr h => ?_)
  · obtain ⟨n, l, ps, rfl, _⟩ := h
    rfl
  obtain ⟨n, l, ps, rfl, hL, hlen, hin, hn, hT, q⟩ := h
  refine ⟨_, (pss_cons (ps_expr (pe_call GCheckLanes (hr.mono (by decide)) rfl dCheckLanes.m dCheckLanes.F.kp dCheckLanes.b .nil pass0 (pa_cons (pv 0) (pa_cons (pv 1) pa_nil))))
      (pss_cons (ps_set (i := 2) scParts.nd rfl (by first | exact Or.inl rfl | exact Or.inr rfl) (pe_lc csParts2 rfl (pi_range1 rfl z.range (pa_cons (pv 0) pa_nil)) (fun _ _ _ _ => pcs_nil) (fun _ _ _ _ => (pe_call GReach (hr.mono (by decide)) rfl dReach.m dReach.F.kp dReach.b .nil pass0 (pa_cons (pv 1) (pa_cons (pv 0) pa_nil))))))
      (pss_cons (ps_set (i := 3) scParts.nd rfl (by first | exact Or.inl rfl | exact Or.inr rfl) (pe_lc csParts1 rfl (pi_range1 rfl z.range (pa_cons (pv 0) pa_nil)) (fun _ _ _ _ => pcs_nil) (fun _ _ _ _ => (pe_call GPartWith (hr.mono (by decide)) rfl dPartWith.m dPartWith.F.kp dPartWith.b .nil pass0 (pa_cons (pv 1) (pa_cons (pv 0) pa_nil))))))
      (pss_cons (ps_setlc (i := 4) scParts.nd rfl (Or.inl rfl) csParts0 rfl (pi_range1 rfl z.range (pa_cons (pv 0) pa_nil)) (fun _ _ _ _ => pcs_one (pt_cmpR op_eq (pe_ix (ix_listK (K := K) rfl) (pe_ix (ix_listK (K := K) rfl) (pv 1) (pv 0) (fun _ _ => rfl)) pe_int (fun _ _ => rfl)) (pv 0) (nomark _))) (fun _ _ _ _ => (pe_ix (ix_listK (K := K) rfl) (pv 1) (pv 0) (fun _ _ => rfl))))
      (pss_one (ps_ret (pe_sortheadK (K := K) (Q0 := lamQ) (j := 2) rfl rfl rfl z.sorted z.len (pv 4) lsParts0 (lam_freeD (y := "reached") (by decide +kernel) rfl) rfl rfl hC hB hr.depth rfl (fun _ _ _ _ _ _ => rfl)))))))), ?_⟩
  refine ⟨_, rfl, _, rfl, (n : Int), l, ps, rfl, hL, hin, fun H1 s1 => ?_⟩
  have eN : (n : Int).toNat = n := by omega
  -- reached
  refine ⟨_, rfl, (n : Int), rfl, by omega, by omega, lc_robjs (n := (n : Int).toNat) (fun H b (i : Nat) => ∃ t, H b = some (.dK (treeKV t)) ∧ (Reach ps (i : Int) t ∧ Done ps t t.length)) (fun H1 H2 b x s ⟨t, h1, h2⟩ => ⟨t, s _ _ h1, h2⟩) (by omega) (fun i hi H2 s2 R hRr => ?_) (fun H2 rA bs s2 hrA hbs => ?_)⟩
  · refine ⟨_, rfl, _, rfl, l, ps, (n : Int), (0 + (i : Int)), rfl, (hL.mono s1).mono s2, hlen, hin, by omega, by omega, fun dd t H3 s3 _ hd R' D => hRr dd H3 s3 ⟨t, hd, ?_, D⟩⟩
    rw [Int.zero_add] at R'
    exact R'
  obtain ⟨ts, hP, hG⟩ := paired_choose hbs
  rw [eN] at hG
  have sr := same_new hrA (.lst (bs.map V.ref))
  have s02 := s1.trans (s2.trans sr)
  have hbl : bs.length = n := by rw [Paired.len hbs, List.length_range]; omega
  have hP2 := Paired.mapP hP fun _ _ e => sr _ _ e
  have hr2 : (upd H2 rA (.lst (bs.map V.ref))) rA = some (.lst (bs.map V.ref)) := upd_same
  generalize upd H2 rA (.lst (bs.map V.ref)) = H3 at s02 hP2 hr2 ⊢
  have hts : ∀ (x : Nat), x < n → ∃ t, ts[x]? = some t ∧ Reach ps (x : Int) t ∧ Done ps t t.length := fun x hx => by
    obtain ⟨t, h1, h2⟩ := paired_at hG (i := x) (a := x) (List.getElem?_range hx)
    exact ⟨t, h1, h2⟩
  have hRK : RK n ps (keysOf ts) := fun x h0 h1 => by
    obtain ⟨xn, hxn⟩ : ∃ xn : Nat, x = (xn : Int) := ⟨x.toNat, by omega⟩
    obtain ⟨t, ht, hR, hD⟩ := hts xn (by omega)
    subst hxn
    rw [keysOf_at ht]
    exact ⟨hR.nd, fun y => (tree_all hR hD)⟩
  -- around_each
  refine ⟨_, rfl, (n : Int), rfl, by omega, by omega, lc_robjs (n := (n : Int).toNat) (fun H b (i : Nat) => H b = some (.lst ((partOf n (keysOf ts) (i : Int)).map V.int))) (fun H1 H2 b x s h => s _ _ h) (by omega) (fun i hi H4 s4 R hRr => ?_) (fun H4 aA as s4 haA has => ?_)⟩
  · refine ⟨_, rfl, _, rfl, rA, bs, ts, i, by rw [Int.zero_add]; rfl, s4 _ _ hr2, Paired.mapP hP2 fun _ _ e => s4 _ _ e, by omega, by omega, fun r H5 s5 h5 => hRr r H5 s5 ?_⟩
    rw [hbl] at h5
    exact h5
  rw [eN] at has
  have sa := same_new haA (.lst (as.map V.ref))
  have s35 := s4.trans sa
  have s05 := s02.trans s35
  have has5 := Paired.mapP has fun _ _ e => sa _ _ e
  have haA5 : (upd H4 aA (.lst (as.map V.ref))) aA = some (.lst (as.map V.ref)) := upd_same
  have hr5 := s35 _ _ hr2
  have hP5 := Paired.mapP hP2 fun _ _ e => s35 _ _ e
  have hal : as.length = n := by rw [Paired.len has, List.length_range]
  generalize upd H4 aA (.lst (as.map V.ref)) = H5 at s05 has5 haA5 hr5 hP5 ⊢
  have hpart : ∀ {i : Nat} {H6 : Hp}, Same H5 H6 → i < n → atI (as.map V.ref) (i : Int) = some (.ref (as.getD i 0)) ∧ H6 (as.getD i 0) = some (.lst ((partOf n (keysOf ts) (i : Int)).map V.int)) := fun {i H6} s6 hi => by
    have hi' : i < as.length := by omega
    obtain ⟨j, hj, hb⟩ := paired_at has5 (List.getElem?_eq_getElem hi')
    rw [List.getElem?_range hi] at hj
    cases hj
    have e : as.getD i 0 = as[i] := by rw [List.getD_eq_getElem?_getD, List.getElem?_eq_getElem hi']; rfl
    rw [e]
    exact ⟨atI_nat (by rw [List.getElem?_map, List.getElem?_eq_getElem hi']; rfl), s6 _ _ hb⟩
  -- each_once
  refine ⟨_, rfl, (n : Int), rfl, by omega, by omega, lc_rsame (n := (n : Int).toNat) (fun i : Nat => least n (keysOf ts) (i : Int)) (fun i : Nat => V.ref (as.getD i 0)) (by omega) (fun i hi H6 s6 R hRr => ?_) (fun i hi _ H6 s6 R hRr => ?_) (fun H6 eA s6 heA => ?_)⟩
  · have hi' : i < n := by omega
    obtain ⟨a1, h1⟩ := hpart s6 hi'
    rw [Int.zero_add]
    obtain ⟨y, hy, _⟩ := part_head hRK (x := (i : Int)) (by omega)
    have h3 := hRr H6 (Same.refl _)
    refine ⟨_, rfl, _, rfl, aA, _, _, V.ref (as.getD i 0), rfl, rfl, SqL.of (s6 _ _ haA5), a1, _, _, _, V.int y, rfl, rfl, SqL.of h1, atI_nat (j := 0) (by rw [List.getElem?_map, ← List.head?_eq_getElem?, hy]; rfl), _, rfl, rfl, _, rfl, ?_⟩
    unfold least at h3
    rw [hy] at h3
    by_cases cy : y = (i : Int)
    · rw [decide_eq_true (congrArg V.int cy)]
      rw [decide_eq_true (congrArg some cy)] at h3
      exact h3
    · rw [decide_eq_false fun e => cy (V.int.inj e)]
      rw [decide_eq_false fun e => cy (Option.some.inj e)] at h3
      exact h3
  · have hi' : i < n := by omega
    obtain ⟨a1, h1⟩ := hpart s6 hi'
    rw [Int.zero_add]
    exact ⟨_, rfl, _, rfl, aA, _, _, V.ref (as.getD i 0), rfl, rfl, SqL.of (s6 _ _ haA5), a1, hRr H6 (Same.refl _)⟩
  rw [eN]
  have hLmem : ∀ x ∈ (List.range n).filter (fun i : Nat => least n (keysOf ts) (i : Int)), x < n ∧ (partOf n (keysOf ts) (x : Int)).head? = some (x : Int) := fun x hx => by
    obtain ⟨h1, h2⟩ := List.mem_filter.mp hx
    unfold least at h2
    exact ⟨List.mem_range.mp h1, of_decide_eq_true h2⟩
  have hLlen : ((List.range n).filter (fun i : Nat => least n (keysOf ts) (i : Int))).length ≤ n := by
    have := List.length_filter_le (fun i : Nat => least n (keysOf ts) (i : Int)) (List.range n)
    rwa [List.length_range] at this
  have honce := once_range n (keysOf ts)
  generalize (List.range n).filter (fun i : Nat => least n (keysOf ts) (i : Int)) = L at hLmem hLlen honce heA ⊢
  have se := same_new heA (.lst (L.map fun i : Nat => V.ref (as.getD i 0)))
  have s57 := s6.trans se
  have hT7 : TabAt (upd H6 eA (.lst (L.map fun i : Nat => V.ref (as.getD i 0)))) T lamP lamQ := hT.same (s05.trans s57)
  have heE : (upd H6 eA (.lst (L.map fun i : Nat => V.ref (as.getD i 0)))) eA = some (.lst ((L.map fun i : Nat => as.getD i 0).map V.ref)) := by rw [upd_same, List.map_map]; rfl
  generalize upd H6 eA (.lst (L.map fun i : Nat => V.ref (as.getD i 0))) = H7 at s57 hT7 heE ⊢
  have sH := s05.trans s57
  refine ⟨_, rfl, eA, rA, L.map (fun i : Nat => as.getD i 0), L.map (fun i : Nat => (((keysOf ts (i : Int)).length : Nat) : Int)), rfl, SqL.of heE, by rw [List.length_map]; omega, rfl, by rw [List.length_map, List.length_map], fun i a k ha hk => ?_, hT7, fun as' H8 D sT hT8 hby hD => ?_⟩
  · rw [List.getElem?_map] at ha hk
    cases e : L[i]? with
    | none => rw [e] at ha; cases ha
    | some x =>
      rw [e] at ha hk
      have ea : as.getD x 0 = a := Option.some.inj ha
      have ek : (((keysOf ts (x : Int)).length : Nat) : Int) = k := Option.some.inj hk
      obtain ⟨hx, hh⟩ := hLmem x (List.mem_of_getElem? e)
      obtain ⟨_, hpx⟩ := hpart s57 hx
      obtain ⟨t, ht, hbt⟩ := paired_at hP5 (List.getElem?_eq_getElem (show x < bs.length by omega))
      rw [keysOf_at ht] at ek
      refine ⟨partOf n (keysOf ts) (x : Int), (x : Int), bs.map V.ref, bs[x]'(by omega), treeKV t, by rw [← ea]; exact SqL.of hpx, by rw [← List.head?_eq_getElem?]; exact hh, by omega, SqL.of (s57 _ _ hr5), by rw [Int.toNat_natCast, List.getElem?_map, List.getElem?_eq_getElem (show x < bs.length by omega)]; rfl, s57 _ _ hbt, ?_⟩
      rw [← ek, treeKV_len]
      exact congrArg _ (List.length_map _)
  · obtain ⟨zs, hz1, hz2, hz3⟩ := hby
    rw [List.zip_map'] at hz1
    obtain ⟨L', hL', ez⟩ := perm_map hz1 L rfl
    subst ez
    have eas : as' = L'.map fun i : Nat => as.getD i 0 := by rw [hz2, List.map_map]; rfl
    have hDn : ∀ {q : Addr} {xs : List V}, H7 q = some (.lst xs) → (upd H8 D (.lst (as'.map V.ref))) q = some (.lst xs) := fun {q xs} h => by
      have h8 : H8 q = some (.lst xs) := sT q _ (fun y => by
        obtain ⟨tp, h1, _⟩ := hT7
        rw [y, h1] at h; cases h) h
      rw [upd_ne (ne_of_none h8 hD)]; exact h8
    have hup : ∀ q u, H8 q = some u → (upd H8 D (.lst (as'.map V.ref))) q = some u := fun q u h => by rw [upd_ne (ne_of_none h hD)]; exact h
    refine q D as' (L'.map fun i : Nat => partOf n (keysOf ts) (i : Int)) _ (fun b u nb h => hup _ _ (sT b u nb (sH _ _ h))) (hT8.same hup) upd_same ?_ ?_
    · rw [eas]
      refine paired_map2 fun i hi => ?_
      have hi' := hLmem i (hL'.mem_iff.mp hi)
      rw [← eas]
      exact hDn (hpart s57 hi'.1).2
    · refine parts_ok hRK hin ?_ ?_
      · rw [honce]
        exact hL'.map _
      · rw [List.pairwise_map]
        have hz4 := List.pairwise_map.mp hz3
        refine (List.Pairwise.and_mem.mp hz4).imp fun {a b} ⟨ha, hb, hab⟩ x y hx hy => ?_
        have ha' := (hLmem a (hL'.mem_iff.mp ha)).2
        have hb' := (hLmem b (hL'.mem_iff.mp hb)).2
        rw [ha'] at hx
        rw [hb'] at hy
        have ex := Option.some.inj hx
        have ey := Option.some.inj hy
        rw [← ex, ← ey]
        have : (((keysOf ts (b : Int)).length : Nat) : Int) ≤ (((keysOf ts (a : Int)).length : Nat) : Int) := hab
        omega
end

/-! ### what the parts must be, by the law -/
def spAllR : Sp := fun vs H Q _ => ∃ (p l : Addr) (part : List Int) (n : Int) (ps : Lanes), vs = [.ref p, .ref l] ∧ H p = some (.lst (part.map V.int)) ∧ part ≠ [] ∧ part.length ≤ 64 ∧ LanesAt H l ps ∧ ps.length ≤ 1000 ∧ InR n ps ∧ n ≤ 64 ∧ (∀ x ∈ part, 0 ≤ x ∧ x < n) ∧ (∀ x ∈ part, ∀ y ∈ part, Rch ps x y) ∧ ∀ H', Same H H' → Q (.bl true) H'
def numKV (L : List (Int × Int)) : List (Key × V) := L.map fun q => (Sum.inl q.1, V.int q.2)
theorem numKV_len (L : List (Int × Int)) : (numKV L).length = L.length := List.length_map _
theorem val_num_none {L : List (Int × Int)} {x : Int} (h : x ∉ L.map (·.1)) : valV (numKV L) (Sum.inl x : Key) = none := by
  induction L with
  | nil => rfl
  | cons q r ih =>
    unfold valV numKV at ih ⊢
    rw [List.map_cons, List.find?_cons]
    have e : ¬ (Sum.inl q.1 : Key) = Sum.inl x := fun y => h (by rw [← Sum.inl.inj y]; exact List.mem_cons_self)
    rw [decide_eq_false e]
    exact ih fun m => h (List.mem_cons_of_mem _ m)
theorem val_num {L : List (Int × Int)} {x k : Int} (nd : (L.map (·.1)).Nodup) (h : (x, k) ∈ L) : valV (numKV L) (Sum.inl x : Key) = some (.int k) := by
  induction L with
  | nil => cases h
  | cons q r ih =>
    rw [List.map_cons] at nd
    obtain ⟨n1, n2⟩ := List.nodup_cons.mp nd
    unfold valV numKV at ih ⊢
    rw [List.map_cons, List.find?_cons]
    rcases List.mem_cons.mp h with e | m
    · subst e
      rw [decide_eq_true rfl]; rfl
    · have e : ¬ (Sum.inl q.1 : Key) = Sum.inl x := fun y => n1 (by rw [Sum.inl.inj y]; exact List.mem_map.mpr ⟨(x, k), m, rfl⟩)
      rw [decide_eq_false e]
      exact ih n2 m
theorem put_num {L : List (Int × Int)} {x k : Int} (h : x ∉ L.map (·.1)) : putK (numKV L) (Sum.inl x : Key) (.int k) = numKV (L ++ [(x, k)]) := by
  rw [putK_new _ (val_num_none h)]
  unfold numKV
  rw [List.map_append]; rfl
def spHold : Sp := fun vs H Q _ => ∃ (f l : Addr) (qs : List Addr) (F : List (List Int)) (n : Nat) (ps : Lanes), vs = [.ref f, .int (n : Int), .ref l] ∧ H f = some (.lst (qs.map V.ref)) ∧ Paired (fun q p => H q = some (.lst (p.map V.int))) qs F ∧ PartsOk n ps F ∧ LanesAt H l ps ∧ ps.length ≤ 1000 ∧ InR n ps ∧ n < 64 ∧ ∀ H', Same H H' → Q (.bl true) H'
section
variable {P : Program} {w : World} {K : PySem.W.Frag} {mg : Str → Option Value} {base : Heap}
variable {fLReach fAllR fWholeRow fHold : Addr} {gLReach gAllR gWholeRow gHold : FuncData}
theorem ok_allr (d : DefAt K mg "_law_all_reach" sLAllReach PLAllReach fAllR gAllR) (z : Zs mg) (dLReach : DefAt K mg "_law_reach" sLReach PLReach fLReach gLReach) (GLReach : FnOk P w K mg base CX0 1 fLReach gLReach PLReach spLReach) : FnOk P w K mg base CX0 2 fAllR gAllR PLAllReach spAllR := by
  refine d.F.ok scLAllReach (fun vs H Q E h => ?_) (fun cdv A outer s H vs Q E hr h => ?_)
  · obtain ⟨p, l, part, n, ps, rfl, _⟩ := h
    rfl
  obtain ⟨p, l, part, n, ps, rfl, hp, hne, hpl, ⟨as, hl, hps⟩, hlen, hin, hn, hrg, hsc, q⟩ := h
  have hu := hu_of hr
  have hml : (as.map V.ref).length = ps.length := by rw [List.length_map]; exact Paired.len hps
  refine ⟨_, (pss_cons (ps_setlc (i := 2) scLAllReach.nd rfl (Or.inl rfl) csLAllReach0 rfl (pi_list (pv 1)) (fun _ _ _ _ => pcs_nil) (fun _ _ _ _ => (pe_tup (pa_cons (pe_ix (ix_tupK (K := K) rfl) (pv 0) pe_int (fun _ _ => rfl)) (pa_cons (pe_ix (ix_tupK (K := K) rfl) (pv 0) pe_int (fun _ _ => rfl)) pa_nil)))))
      (pss_cons (ps_set (i := 3) scLAllReach.nd rfl (by first | exact Or.inl rfl | exact Or.inr rfl) (pe_call GLReach (hr.mono (by decide)) rfl dLReach.m dLReach.F.kp dLReach.b .nil pass0 (pa_cons (pv 1) (pa_cons (pe_ix ix_list (pv 0) pe_int (fun _ _ => rfl)) pa_nil))))
      (pss_cons (ps_set (i := 4) scLAllReach.nd rfl (by first | exact Or.inl rfl | exact Or.inr rfl) (pe_call GLReach (hr.mono (by decide)) rfl dLReach.m dLReach.F.kp dLReach.b .nil pass0 (pa_cons (pv 2) (pa_cons (pe_ix ix_list (pv 0) pe_int (fun _ _ => rfl)) pa_nil))))
      (pss_cons (ps_for PassesOwn.never rfl (pi_list (pv 0)) (pg_name (i := 5) scLAllReach.nd rfl (by first | exact Or.inl rfl | exact Or.inr rfl)) (pss_one (ps_if (PW.pt (pw_or (pt_cmp (pc_dnotin hu (pv 5) (pv 3))) (pw_or1 (pt_cmp (pc_dnotin hu (pv 5) (pv 4)))))) (pss_one (ps_ret pe_bl)) pss_nil)))
      (pss_one (ps_ret pe_bl)))))), ?_⟩
  obtain ⟨x0, rest, rfl⟩ : ∃ x0 rest, part = x0 :: rest := by
    cases part with
    | nil => exact absurd rfl hne
    | cons a r => exact ⟨a, r, rfl⟩
  have hx0 := hrg x0 List.mem_cons_self
  refine ⟨_, rfl, l, rfl, ⟨_, SqL.of hl⟩, lc_list (K := K) (a := l) (xs := as.map V.ref) (fun i ys H2 => ∃ bs : List Addr, ys = bs.map V.ref ∧ Same H H2 ∧ Paired (fun a p => H2 a = some (.tup (pr p))) bs ((ps.take i).map swap)) ⟨[], rfl, Same.refl _, .nil⟩ (fun i ys H2 hi ⟨bs, e, s2, hb⟩ => ?_) (by rw [hml]; exact small hlen) (fun i x ys H2 hx ⟨bs, e, s2, hb⟩ => ?_) (fun ys H2 ⟨bs, e, s2, hb⟩ bk hbk => ?_)⟩
  · subst e
    refine ⟨SqL.of (s2 _ _ hl), ?_⟩
    have := Paired.len hb
    rw [List.length_map, List.length_take] at this
    rw [List.length_map]; omega
  · subst e
    obtain ⟨a, pq, rfl, hpi, ha⟩ := lane_at hps hx
    refine yes_of (iteT ⟨_, rfl, a, _, _, _, rfl, rfl, SqT.of (s2 _ _ ha), rfl, _, rfl, a, _, _, _, rfl, rfl, SqT.of (s2 _ _ ha), rfl, (by show 2 ≤ sizeLine; decide), fun b hbn => ⟨bs ++ [b], by rw [List.map_append]; rfl, s2.trans (same_new hbn _), ?_⟩⟩)
    rw [take_succ_get hpi, List.map_append]
    exact Paired.snoc (Paired.mapP hb fun c r e => same_new hbn _ _ _ e) upd_same
  subst e
  rw [hml, List.take_length] at hb
  have s3 := s2.trans (same_new hbk (.lst (bs.map V.ref)))
  have hBk : LanesAt (upd H2 bk (.lst (bs.map V.ref))) bk (ps.map swap) := ⟨bs, upd_same, Paired.mapP hb fun _ _ e => same_new hbk _ _ _ e⟩
  generalize upd H2 bk (.lst (bs.map V.ref)) = H3 at s3 hBk ⊢
  have hL3 : LanesAt H3 l ps := ⟨as, s3 _ _ hl, Paired.mapP hps fun _ _ e => s3 _ _ e⟩
  have hin2 : InR n (ps.map swap) := fun y hy => by
    obtain ⟨y0, hy0, rfl⟩ := List.mem_map.mp hy
    exact ⟨(hin y0 hy0).2, (hin y0 hy0).1⟩
  refine ⟨_, rfl, _, rfl, p, _, _, V.int x0, rfl, rfl, SqL.of (s3 _ _ hp), atI_nat (j := 0) rfl, l, ps, n, x0, rfl, hL3, hlen, hin, hx0, by omega, fun d1 k1 H4 s4 hd1 RS1 _ _ => ?_⟩
  refine ⟨_, rfl, _, rfl, p, _, _, V.int x0, rfl, rfl, SqL.of (s4 _ _ (s3 _ _ hp)), atI_nat (j := 0) rfl, bk, ps.map swap, n, x0, rfl, hBk.mono s4, by rw [List.length_map]; exact hlen, hin2, hx0, by omega, fun d2 k2 H5 s5 hd2 RS2 _ _ => ?_⟩
  have s35 := s3.trans (s4.trans s5)
  have hp5 := s35 _ _ hp
  have hd15 := s5 _ _ hd1
  refine ⟨_, rfl, p, rfl, ⟨_, SqL.of hp5⟩, for_list (K := K) (a := p) (xs := (x0 :: rest).map V.int) (fun i σ H6 => ∃ v, σ = [some (.ref p), some (.ref l), some (.ref bk), some (.ref d1), some (.ref d2), v] ∧ H6 = H5) ⟨none, rfl, rfl⟩ (fun i σ H6 _ ⟨_, _, e⟩ => by rw [e]; exact SqL.of hp5) ?_ ?_⟩
  · rintro i y σ H6 hi ⟨v, rfl, rfl⟩
    obtain ⟨x, rfl, hx⟩ := int_of hi
    have hxm := List.mem_of_getElem? hx
    refine ⟨_, rfl, _, rfl, d1, _, rfl, DGet.k (k := Sum.inl x) hd15, _, rfl, ?_⟩
    rw [val_true, decide_eq_true (RS1.all (hsc x0 List.mem_cons_self x hxm))]
    refine iteF ⟨_, rfl, _, rfl, d2, _, rfl, DGet.k (k := Sum.inl x) hd2, _, rfl, ?_⟩
    rw [val_true, decide_eq_true (RS2.all (rch_swap' (hsc x hxm x0 List.mem_cons_self)))]
    exact iteF ⟨_, rfl, rfl⟩
  · rintro σ H6 ⟨v, rfl, rfl⟩
    exact q _ s35
set_option maxHeartbeats 0 in
theorem ok_hold (d : DefAt K mg "_law_parts_hold" sLPartsHold PLPartsHold fHold gHold) (z : Zs mg) (dLWholeRow : DefAt K mg "_law_whole_row" sLWholeRow PLWholeRow fWholeRow gWholeRow) (GLWholeRow : FnOk P w K mg base CX0 2 fWholeRow gWholeRow PLWholeRow spWholeRow)
    (dLAllReach : DefAt K mg "_law_all_reach" sLAllReach PLAllReach fAllR gAllR) (GLAllReach : FnOk P w K mg base CX0 2 fAllR gAllR PLAllReach spAllR) : FnOk P w K mg base CX0 3 fHold gHold PLPartsHold spHold := by
  refine d.F.ok scLPartsHold (fun vs H Q E h => ?_) (fun cdv A outer s H vs Q E hr h => ?_)
  · obtain ⟨f, l, qs, F, n, ps, rfl, _⟩ := h
    rfl
  obtain ⟨f, l, qs, F, n, ps, rfl, hF, hP, O, hL, hlen, hin, hn, q⟩ := h
  have hu := hu_of hr
  have hu0 := Nat.lt_of_succ_lt hu
  have hfl := flat_len O
  have hml : (qs.map V.ref).length = F.length := by rw [List.length_map]; exact Paired.len hP
  have hplen : ∀ p ∈ F, p.length ≤ n := fun p hp => by
    rcases nodup_places (n := (n : Int)) (l := p) ((O.up p hp).imp fun {a b} h => by
      have : a < b := h
      intro e; omega) (fun x hx => O.rg p hp x hx) with y | y
    · omega
    · rw [y]; exact Nat.zero_le _
  have hFl : F.length ≤ n := by
    have : ∀ G : List (List Int), (∀ p ∈ G, p ≠ []) → G.length ≤ G.flatten.length := fun G => by
      induction G with
      | nil => exact fun _ => Nat.le_refl _
      | cons p G ih =>
        intro h
        have h1 := ih fun q hq => h q (List.mem_cons_of_mem _ hq)
        have h2 : 0 < p.length := List.length_pos_iff.mpr (h p List.mem_cons_self)
        rw [List.flatten_cons, List.length_append, List.length_cons]; omega
    have := this F O.ne
    omega
  refine ⟨_, (pss_cons (ps_if (pt_not (pt_val (pe_callB call_isi rfl z.isinstance bt_isinstance (pa_cons (pv 0) (pa_cons (pe_bltn (v := .ty "list") rfl z.list bt_list rfl) pa_nil))))) (pss_one (ps_ret pe_bl)) pss_nil)
      (pss_cons (ps_set (i := 3) scLPartsHold.nd rfl (by first | exact Or.inl rfl | exact Or.inr rfl) pe_dnewK)
      (pss_cons (ps_for PassesOwn.never rfl (pi_range1 rfl z.range (pa_cons (pe_callB call_len_seq rfl z.len bt_len (pa_cons (pv 0) pa_nil)) pa_nil)) (pg_name (i := 4) scLPartsHold.nd rfl (by first | exact Or.inl rfl | exact Or.inr rfl)) (pss_cons (ps_if (PW.pt (pw_or (pt_not (pt_val (pe_call GLWholeRow (hr.mono (by decide)) rfl dLWholeRow.m dLWholeRow.F.kp dLWholeRow.b .nil pass0 (pa_cons (pe_ix ix_list (pv 0) (pv 4) (fun _ _ => rfl)) pa_nil)))) (pw_or1 (pt_cmpR (op_eqL hu0) (pe_ix ix_list (pv 0) (pv 4) (fun _ _ => rfl)) (pe_lst pa_nil) (nomark _))))) (pss_one (ps_ret pe_bl)) pss_nil)
      (pss_cons (ps_if (pt_cmpR (op_neL hu0) (pe_ix ix_list (pv 0) (pv 4) (fun _ _ => rfl)) (pe_callB call_sorted_list rfl z.sorted bt_sorted (pa_cons (pe_ix ix_list (pv 0) (pv 4) (fun _ _ => rfl)) pa_nil)) (nomark _)) (pss_one (ps_ret pe_bl)) pss_nil)
      (pss_cons (ps_for PassesOwn.never rfl (pi_list (pe_ix ix_list (pv 0) (pv 4) (fun _ _ => rfl))) (pg_name (i := 6) scLPartsHold.nd rfl (by first | exact Or.inl rfl | exact Or.inr rfl)) (pss_cons (ps_if (PW.pt (pw_or (pt_cmpR op_lt (pv 6) pe_int (nomark _)) (pw_or (pt_cmpR op_ge (pv 6) (pv 1) (nomark _)) (pw_or1 (pt_cmp (pc_din hu (pv 6) (pv 3))))))) (pss_one (ps_ret pe_bl)) pss_nil)
      (pss_one (ps_dput hu (pv 3) (pv 6) (pv 4) rfl))))
      (pss_one (ps_if (PW.pt (pw_and (pt_cmpR op_gt (pe_callB call_len_seq rfl z.len bt_len (pa_cons (pe_ix ix_list (pv 0) (pv 4) (fun _ _ => rfl)) pa_nil)) pe_int (nomark _)) (pw_and1 (pt_not (pt_val (pe_call GLAllReach (hr.mono (by decide)) rfl dLAllReach.m dLAllReach.F.kp dLAllReach.b .nil pass0 (pa_cons (pe_ix ix_list (pv 0) (pv 4) (fun _ _ => rfl)) (pa_cons (pv 2) pa_nil)))))))) (pss_one (ps_ret pe_bl)) pss_nil))))))
      (pss_cons (ps_for PassesOwn.never rfl (pi_list (pv 2)) (pg_name (i := 5) scLPartsHold.nd rfl (by first | exact Or.inl rfl | exact Or.inr rfl)) (pss_cons (ps_if (PW.pt (pw_or (pt_cmp (pc_dnotin hu (pe_ix ix_tup (pv 5) pe_int (fun _ _ => rfl)) (pv 3))) (pw_or1 (pt_cmp (pc_dnotin hu (pe_ix ix_tup (pv 5) pe_int (fun _ _ => rfl)) (pv 3)))))) (pss_one (ps_ret pe_bl)) pss_nil)
      (pss_one (ps_if (pt_cmpR op_gt (pe_dget hu (pv 3) (pe_ix ix_tup (pv 5) pe_int (fun _ _ => rfl)) (fun _ _ => rfl)) (pe_dget hu (pv 3) (pe_ix ix_tup (pv 5) pe_int (fun _ _ => rfl)) (fun _ _ => rfl)) (nomark _)) (pss_one (ps_ret pe_bl)) pss_nil))))
      (pss_one (ps_ret (pe_cmpR op_eq (pe_callB call_lenD rfl z.len bt_len (pa_cons (pv 3) pa_nil)) (pv 1) (nomark _)))))))), ?_⟩
  refine ⟨_, rfl, _, _, _, _, rfl, .lst hF, kit_list_list, _, rfl, iteF ?_⟩
  intro dA hdA
  have sd := same_new hdA (.dK [])
  refine ⟨_, rfl, f, _, rfl, .inl (SqL.of (sd _ _ hF)), _, rfl, (by omega), (by rw [hml]; omega), for_range (n := ((((qs.map V.ref).length : Nat) : Int)).toNat) (fun i σ H2 => ∃ (v1 v2 v3 : Option V), σ = [some (.ref f), some (.int (n : Int)), some (.ref l), some (.ref dA), v1, v2, v3] ∧ Same H H2 ∧ H2 dA = some (.dK (numKV (numsFrom 0 (F.take i)))))
    ⟨none, none, none, rfl, sd, upd_same⟩ ?_ ?_⟩
  · rintro i σ H2 hi ⟨v1, v2, v3, rfl, s2, hD⟩
    rw [Int.zero_add]
    have hi' : i < F.length := by rw [hml] at hi; omega
    have hiq : i < qs.length := by have := Paired.len hP; omega
    obtain ⟨p, hp, hqp⟩ := paired_at hP (List.getElem?_eq_getElem hiq)
    have hpm := List.mem_of_getElem? hp
    have hpl := hplen p hpm
    have atq : atI (qs.map V.ref) (i : Int) = some (.ref qs[i]) := atI_nat (by rw [List.getElem?_map, List.getElem?_eq_getElem hiq]; rfl)
    have hF2 := s2 _ _ hF
    have hq2 := s2 _ _ hqp
    have hne := O.ne p hpm
    refine ⟨_, rfl, _, rfl, f, _, _, V.ref qs[i], rfl, rfl, SqL.of hF2, atq, qs[i], p, rfl, hq2, by omega, _, rfl, iteF ?_⟩
    refine ⟨_, rfl, _, rfl, f, _, _, V.ref qs[i], rfl, rfl, SqL.of hF2, atq, (by show 0 ≤ sizeLine; decide), fun e he => ?_⟩
    have se := same_new he (.lst [])
    refine ⟨qs[i], e, p, [], rfl, rfl, SqL.of (se _ _ hq2), SqL.of upd_same, _, rfl, ?_⟩
    rw [decide_eq_false hne]
    refine iteF ?_
    have s3 := s2.trans se
    have hF3 := s3 _ _ hF
    have hq3 := s3 _ _ hqp
    have hD3 := se _ _ hD
    generalize upd H2 e (.lst []) = H3 at s3 hF3 hq3 hD3 ⊢
    refine ⟨_, rfl, _, rfl, f, _, _, V.ref qs[i], rfl, rfl, SqL.of hF3, atq, _, rfl, _, rfl, f, _, _, V.ref qs[i], rfl, rfl, SqL.of hF3, atq, qs[i], p, rfl, SqL.of hq3, by omega, fun ns' hperm hsort l2 hl2 => ?_⟩
    have ens := asc_unique (O.up p hpm) hperm hsort
    subst ens
    have sl := same_new hl2 (.lst (ns'.map V.int))
    refine ⟨qs[i], l2, ns', ns', rfl, rfl, SqL.of (sl _ _ hq3), SqL.of upd_same, _, rfl, ?_⟩
    rw [decide_eq_true rfl]
    refine iteF ?_
    have s4 := s3.trans sl
    have hF4 := s4 _ _ hF
    have hq4 := s4 _ _ hqp
    have hD4 := sl _ _ hD3
    generalize upd H3 l2 (.lst (ns'.map V.int)) = H4 at s4 hF4 hq4 hD4 ⊢
    have htk : F.take (i + 1) = F.take i ++ [ns'] := take_succ_get hp
    have hti : (F.take i).length = i := by rw [List.length_take]; omega
    have hnums : numsFrom 0 (F.take (i + 1)) = numsFrom 0 (F.take i) ++ ns'.map (fun x => (x, (i : Int))) := by rw [htk, nums_snoc, hti, Nat.zero_add]
    have hndk : ((numsFrom 0 (F.take (i + 1))).map (·.1)).Nodup := by
      rw [nums_keys]
      have := O.nd
      rw [← List.take_append_drop (i + 1) F, List.flatten_append] at this
      exact (List.nodup_append.mp this).1
    refine ⟨_, rfl, _, rfl, f, _, _, V.ref qs[i], rfl, rfl, SqL.of hF4, atq, qs[i], rfl, ⟨_, SqL.of hq4⟩, for_list (K := K) (a := qs[i]) (xs := ns'.map V.int) (fun j σ H5 => ∃ (v3 : Option V), σ = [some (.ref f), some (.int (n : Int)), some (.ref l), some (.ref dA), some (.int (i : Int)), v2, v3] ∧ Same H H5 ∧ H5 dA = some (.dK (numKV (numsFrom 0 (F.take i) ++ (ns'.take j).map (fun x => (x, (i : Int)))))))
      ⟨v3, rfl, s4, by rw [hD4]; simp⟩ (fun j σ H5 _ ⟨_, _, s5, _⟩ => SqL.of (s5 _ _ hqp)) ?_ ?_⟩
    · rintro j y σ H5 hj ⟨v3', rfl, s5, hD5⟩
      obtain ⟨x, rfl, hx⟩ := int_of hj
      have hxr := O.rg ns' hpm x (List.mem_of_getElem? hx)
      have hxn : x ∉ (numsFrom 0 (F.take i) ++ (ns'.take j).map (fun x => (x, (i : Int)))).map (·.1) := fun m => by
        have e : numsFrom 0 (F.take (i + 1)) = (numsFrom 0 (F.take i) ++ (ns'.take j).map (fun x => (x, (i : Int)))) ++ ((x, (i : Int)) :: (ns'.drop (j + 1)).map (fun x => (x, (i : Int)))) := by
          rw [hnums, List.append_assoc]
          congr 1
          have : ns' = ns'.take j ++ x :: ns'.drop (j + 1) := by
            obtain ⟨h1, h2⟩ := List.getElem?_eq_some_iff.mp hx
            rw [← h2, List.getElem_cons_drop, List.take_append_drop]
          conv => lhs; rw [this]
          rw [List.map_append, List.map_cons]
        rw [e, List.map_append] at hndk
        exact (List.nodup_append.mp hndk).2.2 x m x List.mem_cons_self rfl
      have hlD : (numKV (numsFrom 0 (F.take i) ++ (ns'.take j).map (fun x => (x, (i : Int))))).length ≤ 1000 := by
        rw [numKV_len, List.length_append, List.length_map, List.length_take]
        have h1 : (numsFrom 0 (F.take i)).length ≤ n := by
          have h2 : ((numsFrom 0 (F.take i)).map (·.1)).length = (F.take i).flatten.length := congrArg _ (nums_keys _ _)
          rw [List.length_map] at h2
          rw [h2, ← hfl]
          conv => rhs; rw [← List.take_append_drop i F, List.flatten_append, List.length_append]
          omega
        omega
      refine ⟨_, rfl, _, _, rfl, rfl, _, rfl, ?_⟩
      rw [decide_eq_false (by omega : ¬ x < 0)]
      refine iteF ⟨_, rfl, _, rfl, _, _, rfl, rfl, _, rfl, ?_⟩
      rw [decide_eq_false (by omega : ¬ (n : Int) ≤ x)]
      refine iteF ⟨_, rfl, _, rfl, dA, _, rfl, DGet.k (k := Sum.inl x) hD5, _, rfl, ?_⟩
      rw [val_num_none hxn]
      refine iteF ⟨_, rfl, _, rfl, _, rfl, dA, _, rfl, DPut.k (k := Sum.inl x) hD5 (small1000 hlD), ?_⟩
      rw [put_num hxn]
      refine ⟨_, rfl, same_put s5 hdA _, ?_⟩
      rw [upd_same, take_succ_get hx, List.map_append, ← List.append_assoc]; rfl
    · rintro σ H5 ⟨v3', rfl, s5, hD5⟩
      rw [List.length_map, List.take_length, ← hnums] at hD5
      have hF5 := s5 _ _ hF
      have hq5 := s5 _ _ hqp
      refine ⟨_, rfl, _, rfl, f, _, _, V.ref qs[i], rfl, rfl, SqL.of hF5, atq, qs[i], _, rfl, .inl (SqL.of hq5), _, _, rfl, rfl, _, rfl, ?_⟩
      refine ite2 (fun cc => ?_) (fun cc => ?_)
      · refine ⟨_, rfl, _, rfl, f, _, _, V.ref qs[i], rfl, rfl, SqL.of hF5, atq, _, rfl, qs[i], l, ns', (n : Int), ps, rfl, hq5, hne, by omega, hL.mono s5, hlen, hin, by omega, O.rg ns' hpm, O.sc ns' hpm, fun H6 s6 => ⟨_, rfl, iteF ?_⟩⟩
        exact ⟨_, _, _, rfl, s5.trans s6, s6 _ _ hD5⟩
      · refine iteF ?_
        exact ⟨_, _, _, rfl, s5, hD5⟩
  · rintro σ H2 ⟨v1, v2, v3, rfl, s2, hD⟩
    have eN : ((((qs.map V.ref).length : Nat) : Int)).toNat = F.length := by rw [hml]; omega
    rw [eN, List.take_length] at hD
    have ndN : ((numsFrom 0 F).map (·.1)).Nodup := by rw [nums_keys]; exact O.nd
    have num : ∀ x : Int, 0 ≤ x → x < (n : Int) → ∃ (j : Nat) (p : List Int), F[j]? = some p ∧ x ∈ p ∧ valV (numKV (numsFrom 0 F)) (Sum.inl x : Key) = some (.int (j : Int)) := fun x h0 h1 => by
      have := O.all x h0 h1
      rw [← nums_keys F 0] at this
      obtain ⟨⟨x', k⟩, hm, e⟩ := List.mem_map.mp this
      have e' : x' = x := e
      subst e'
      obtain ⟨j, p, g1, g2, g3⟩ := mem_nums hm
      rw [Nat.zero_add] at g3
      subst g3
      exact ⟨j, p, g1, g2, val_num ndN hm⟩
    obtain ⟨as, hl2, hp2⟩ := hL.mono s2
    refine ⟨_, rfl, l, rfl, ⟨_, SqL.of hl2⟩, for_list (K := K) (a := l) (xs := as.map V.ref) (fun i σ H3 => ∃ (v2 : Option V), σ = [some (.ref f), some (.int (n : Int)), some (.ref l), some (.ref dA), v1, v2, v3] ∧ H3 = H2) ⟨v2, rfl, rfl⟩ (fun i σ H3 _ ⟨_, _, e⟩ => by rw [e]; exact SqL.of hl2) ?_ ?_⟩
    · rintro i y σ H3 hi ⟨v2', rfl, rfl⟩
      obtain ⟨b, pq, rfl, hpi, hb⟩ := lane_at hp2 hi
      have hpm := List.mem_of_getElem? hpi
      have hr1 := hin pq hpm
      obtain ⟨j1, p1, a1, a2, a3⟩ := num pq.1 hr1.1.1 hr1.1.2
      obtain ⟨j2, p2, b1, b2, b3⟩ := num pq.2 hr1.2.1 hr1.2.2
      have hord := O.ord pq.1 pq.2 hpm j1 j2 p1 p2 a1 b1 a2 b2
      have g1 : DGet H3 dA (.int pq.1) (some (.int (j1 : Int))) := by
        have := DGet.k (k := Sum.inl pq.1) hD
        rw [a3] at this
        exact this
      have g2 : DGet H3 dA (.int pq.2) (some (.int (j2 : Int))) := by
        have := DGet.k (k := Sum.inl pq.2) hD
        rw [b3] at this
        exact this
      refine ⟨_, rfl, b, _, _, _, rfl, rfl, SqT.of hb, rfl, _, rfl, dA, _, rfl, g1, _, rfl, ?_⟩
      refine iteF ⟨_, rfl, b, _, _, _, rfl, rfl, SqT.of hb, rfl, _, rfl, dA, _, rfl, g2, _, rfl, ?_⟩
      refine iteF ⟨_, rfl, _, rfl, b, _, _, _, rfl, rfl, SqT.of hb, rfl, dA, _, rfl, g1, _, rfl, _, rfl, b, _, _, _, rfl, rfl, SqT.of hb, rfl, dA, _, rfl, g2, _, _, rfl, rfl, _, rfl, ?_⟩
      rw [decide_eq_false (by omega : ¬ (j2 : Int) < (j1 : Int))]
      exact iteF ⟨_, rfl, rfl⟩
    · rintro σ H3 ⟨v2', rfl, rfl⟩
      refine ⟨_, rfl, dA, _, rfl, hD, _, rfl, rfl, ?_⟩
      have e : (((numKV (numsFrom 0 F)).length : Nat) : Int) = (n : Int) := by
        rw [numKV_len]
        have h2 : ((numsFrom 0 F).map (·.1)).length = F.flatten.length := congrArg _ (nums_keys _ _)
        rw [List.length_map] at h2
        rw [h2, hfl]
      rw [e, decide_eq_true rfl]
      exact q _ s2
end

-- LEVEL 7
/-! ### the law -/
def spLaw (T : Addr) (K : PySem.W.Frag) : Sp := fun vs H Q _ => ∃ (a : Addr) (ns : List Int), vs = [.ref a] ∧ SqL K H a (ns.map V.int) ∧ ns.length ≤ 63 ∧ TabAt H T lamP lamQ ∧ ∀ H', Q (.bl true) H'
section
variable {P : Program} {w : World} {K : PySem.W.Frag} {mg : Str → Option Value} {base : Heap} {T : Addr}
variable {fUpto fAt fLanesBy fSame fParts fHold fLaw : Addr} {gUpto gAt gLanesBy gSame gParts gHold gLaw : FuncData}
set_option maxHeartbeats 0 in
theorem ok_law (d : DefAt K mg "law" sLaw PLaw fLaw gLaw) (z : Zs mg) (dLUpto : DefAt K mg "_law_upto" sLUpto PLUpto fUpto gUpto) (GLUpto : FnOk P w K mg base CX0 1 fUpto gUpto PLUpto (spUpto K)) (dLAt : DefAt K mg "_law_at" sLAt PLAt fAt gAt) (GLAt : FnOk P w K mg base CX0 1 fAt gAt PLAt (spAt K))
    (dLLanesBy : DefAt K mg "_law_lanes_by" sLLanesBy PLLanesBy fLanesBy gLanesBy) (GLLanesBy : FnOk P w K mg base CX0 1 fLanesBy gLanesBy PLLanesBy (spLanesBy K)) (dLSameLanes : DefAt K mg "_law_same_lanes" sLSameLanes PLSameLanes fSame gSame) (GLSameLanes : FnOk P w K mg base CX0 2 fSame gSame PLSameLanes spSame)
    (dParts : DefAt K mg "parts" sParts PParts fParts gParts) (GParts : FnOk P w K mg base CX0 4 fParts gParts PParts (spParts T)) (dLPartsHold : DefAt K mg "_law_parts_hold" sLPartsHold PLPartsHold fHold gHold) (GLPartsHold : FnOk P w K mg base CX0 3 fHold gHold PLPartsHold spHold) :
    FnOk P w K mg base CX0 7 fLaw gLaw PLaw (spLaw T K) := by
  refine (d.F.ok scLaw (k := 6) (fun vs H Q E h => ?_) (fun cdv A outer s H vs Q E hr h => ?_))
  · obtain ⟨a, ns, rfl, _⟩ := h
    rfl
  obtain ⟨a, ns, rfl, hS, hl, hT, q⟩ := h
  refine ⟨_, (pss_cons (ps_set (i := 0) scLaw.nd rfl (by first | exact Or.inl rfl | exact Or.inr rfl) (pe_slice sl_list (pv 0) po_none (po_some pe_int)))
      (pss_cons (ps_set (i := 1) scLaw.nd rfl (by first | exact Or.inl rfl | exact Or.inr rfl) (pe_op op_mod (pe_call GLAt (hr.mono (by decide)) rfl dLAt.m dLAt.F.kp dLAt.b .nil pass0 (pa_cons (pv 0) (pa_cons pe_int pa_nil))) (pe_call GLUpto (hr.mono (by decide)) rfl dLUpto.m dLUpto.F.kp dLUpto.b .nil pass0 (pa_cons (pv 0) (pa_cons pe_int (pa_cons pe_int pa_nil))))))
      (pss_cons (ps_set (i := 2) scLaw.nd rfl (by first | exact Or.inl rfl | exact Or.inr rfl) (pe_call GLLanesBy (hr.mono (by decide)) rfl dLLanesBy.m dLLanesBy.F.kp dLLanesBy.b .nil pass0 (pa_cons (pe_slice sl_list (pv 0) (po_some pe_int) po_none) (pa_cons (pv 1) (pa_cons (pe_op op_fdiv (pe_call GLAt (hr.mono (by decide)) rfl dLAt.m dLAt.F.kp dLAt.b .nil pass0 (pa_cons (pv 0) (pa_cons pe_int pa_nil))) pe_int) pa_nil)))))
      (pss_cons (ps_set (i := 3) scLaw.nd rfl (by first | exact Or.inl rfl | exact Or.inr rfl) (pe_callTy call_list_of rfl z.list bt_list (pa_cons (pv 2) pa_nil)))
      (pss_cons (ps_set (i := 4) scLaw.nd rfl (by first | exact Or.inl rfl | exact Or.inr rfl) (pe_call GParts (hr.mono (by decide)) rfl dParts.m dParts.F.kp dParts.b .nil pass0 (pa_cons (pv 1) (pa_cons (pv 3) pa_nil))))
      (pss_one (ps_ret (pe_and (pe_call GLSameLanes (hr.mono (by decide)) rfl dLSameLanes.m dLSameLanes.F.kp dLSameLanes.b .nil pass0 (pa_cons (pv 3) (pa_cons (pv 2) pa_nil))) (pe_one (pe_call GLPartsHold (hr.mono (by decide)) rfl dLPartsHold.m dLPartsHold.F.kp dLPartsHold.b .nil pass0 (pa_cons (pv 4) (pa_cons (pv 1) (pa_cons (pv 2) pa_nil))))))))))))), ?_⟩
  -- script[:1000]
  refine ⟨_, rfl, _, rfl, a, _, rfl, hS, fun b hb => ?_⟩
  rw [cut_small hl]
  have hB : (upd H b (.lst (ns.map V.int))) b = some (.lst (ns.map V.int)) := upd_same
  have hT0 := hT.same (same_new hb (.lst (ns.map V.int)))
  generalize upd H b (.lst (ns.map V.int)) = H0 at hB hT0 ⊢
  -- count
  refine ⟨_, rfl, b, ns, 0, rfl, SqL.of hB, _, rfl, b, ns, _, _, rfl, SqL.of hB, hl, _, _, rfl, rfl, (by show (0 : Int) < 14; decide), ?_⟩
  have c1 : 0 ≤ ns.getD 0 0 % 14 := Int.emod_nonneg _ (by decide)
  have c2 : ns.getD 0 0 % 14 < 14 := Int.emod_lt_of_pos _ (by decide)
  obtain ⟨n, hn⟩ : ∃ n : Nat, ns.getD 0 0 % 14 = (n : Int) := ⟨(ns.getD 0 0 % 14).toNat, by omega⟩
  -- lanes
  obtain ⟨ms, hms, hml⟩ := cut_from ns 1 (by decide)
  refine ⟨_, rfl, _, rfl, b, _, rfl, SqL.of hB, fun c hc => ?_⟩
  rw [hms]
  have s1 : Same H0 (upd H0 c (.lst (ms.map V.int))) := same_new hc _
  refine ⟨_, rfl, _, rfl, b, ns, 0, rfl, SqL.of (s1 _ _ hB), _, _, rfl, rfl, ⟨by decide, by decide⟩, c, ms, (ns.getD 0 0 % 14), _, rfl, SqL.of upd_same, by omega, by omega, by omega, fun l ps H2 s2 hL hin hpl => ?_⟩
  have hin' : InR n ps := by rw [← hn]; exact hin
  obtain ⟨as, hl4, hp4⟩ := id hL
  -- handed, found
  refine ⟨_, rfl, l, _, rfl, .inl (SqL.of hl4), fun h hh => ?_⟩
  have s5 := same_new hh (.lst (as.map V.ref))
  have hH := list_copy hl4 hp4 hh
  have hT5 := hT0.same (s1.trans (s2.trans s5))
  refine ⟨_, rfl, _, rfl, n, h, ps, by rw [← hn]; rfl, hH, by omega, hin', by omega, hT5, fun r qs F H6 sT hT6 hr6 hP6 O => ?_⟩
  have noT : ∀ {b : Addr} {u : HO}, (upd H2 h (.lst (as.map V.ref))) b = some u → (∀ tp, u ≠ .tbl tp) → b ≠ T := fun {b u} hb' hne y => by
    obtain ⟨tp, h1, _⟩ := hT5
    rw [y, h1] at hb'
    exact hne tp (Option.some.inj hb').symm
  have tr : ∀ {l' : Addr}, LanesAt (upd H2 h (.lst (as.map V.ref))) l' ps → LanesAt H6 l' ps := fun {l'} ⟨bs, b1, b2⟩ => ⟨bs, sT _ _ (noT b1 (by intro tp y; cases y)) b1, Paired.mapP b2 fun _ _ e => sT _ _ (noT e (by intro tp y; cases y)) e⟩
  refine ⟨_, rfl, _, rfl, h, l, ps, rfl, tr hH, tr (hL.mono s5), by omega, _, rfl, iteT ?_⟩
  exact ⟨_, rfl, _, rfl, _, rfl, r, l, qs, F, n, ps, by rw [← hn]; rfl, hr6, hP6, O, tr (hL.mono s5), by omega, hin', by omega, fun H' _ => q H'⟩
end

/-! ### the head -/
theorem all_mk {l : PySem.W.OpenLaw} {w : World} {K : PySem.W.Frag} {h : Heap} {mg : Str → Option Value} {fa : Addr} (X : K.In h) (G : h.Ns mainGlobals mg) (hfa : mg "law" = some (.ref fa))
    {f0 : Addr} {od0 an0 : Option Addr} {sl0 : Array (Option Value)} {oc0 kV0 dc0 pm0 cd0 ct0 : Value}
    (a0 : PySem.W.nsIn K mainGlobals "are_places" = some (some (.ref f0))) (l0 : K.lookup f0 = some ⟨oc0, od0, .func (PySem.W.fnOf "are_places" "are_places" (defArgs sArePlaces) (defBody sArePlaces) (defScope sArePlaces) .none kV0 dc0 pm0 an0 cd0 ct0), sl0⟩) (c0 : PySem.W.codeIn K cd0 "are_places" = true) (k0 : PySem.W.keepIn K (.ref f0) = true)
    {f1 : Addr} {od1 an1 : Option Addr} {sl1 : Array (Option Value)} {oc1 kV1 dc1 pm1 cd1 ct1 : Value}
    (a1 : PySem.W.nsIn K mainGlobals "check_places" = some (some (.ref f1))) (l1 : K.lookup f1 = some ⟨oc1, od1, .func (PySem.W.fnOf "check_places" "check_places" (defArgs sCheckPlaces) (defBody sCheckPlaces) (defScope sCheckPlaces) .none kV1 dc1 pm1 an1 cd1 ct1), sl1⟩) (c1 : PySem.W.codeIn K cd1 "check_places" = true) (k1 : PySem.W.keepIn K (.ref f1) = true)
    {f2 : Addr} {od2 an2 : Option Addr} {sl2 : Array (Option Value)} {oc2 kV2 dc2 pm2 cd2 ct2 : Value}
    (a2 : PySem.W.nsIn K mainGlobals "check_lanes" = some (some (.ref f2))) (l2 : K.lookup f2 = some ⟨oc2, od2, .func (PySem.W.fnOf "check_lanes" "check_lanes" (defArgs sCheckLanes) (defBody sCheckLanes) (defScope sCheckLanes) .none kV2 dc2 pm2 an2 cd2 ct2), sl2⟩) (c2 : PySem.W.codeIn K cd2 "check_lanes" = true) (k2 : PySem.W.keepIn K (.ref f2) = true)
    {f3 : Addr} {od3 an3 : Option Addr} {sl3 : Array (Option Value)} {oc3 kV3 dc3 pm3 cd3 ct3 : Value}
    (a3 : PySem.W.nsIn K mainGlobals "ends_by_place" = some (some (.ref f3))) (l3 : K.lookup f3 = some ⟨oc3, od3, .func (PySem.W.fnOf "ends_by_place" "ends_by_place" (defArgs sEndsByPlace) (defBody sEndsByPlace) (defScope sEndsByPlace) .none kV3 dc3 pm3 an3 cd3 ct3), sl3⟩) (c3 : PySem.W.codeIn K cd3 "ends_by_place" = true) (k3 : PySem.W.keepIn K (.ref f3) = true)
    {f4 : Addr} {od4 an4 : Option Addr} {sl4 : Array (Option Value)} {oc4 kV4 dc4 pm4 cd4 ct4 : Value}
    (a4 : PySem.W.nsIn K mainGlobals "reach" = some (some (.ref f4))) (l4 : K.lookup f4 = some ⟨oc4, od4, .func (PySem.W.fnOf "reach" "reach" (defArgs sReach) (defBody sReach) (defScope sReach) .none kV4 dc4 pm4 an4 cd4 ct4), sl4⟩) (c4 : PySem.W.codeIn K cd4 "reach" = true) (k4 : PySem.W.keepIn K (.ref f4) = true)
    {f5 : Addr} {od5 an5 : Option Addr} {sl5 : Array (Option Value)} {oc5 kV5 dc5 pm5 cd5 ct5 : Value}
    (a5 : PySem.W.nsIn K mainGlobals "part_with" = some (some (.ref f5))) (l5 : K.lookup f5 = some ⟨oc5, od5, .func (PySem.W.fnOf "part_with" "part_with" (defArgs sPartWith) (defBody sPartWith) (defScope sPartWith) .none kV5 dc5 pm5 an5 cd5 ct5), sl5⟩) (c5 : PySem.W.codeIn K cd5 "part_with" = true) (k5 : PySem.W.keepIn K (.ref f5) = true)
    {f6 : Addr} {od6 an6 : Option Addr} {sl6 : Array (Option Value)} {oc6 kV6 dc6 pm6 cd6 ct6 : Value}
    (a6 : PySem.W.nsIn K mainGlobals "parts" = some (some (.ref f6))) (l6 : K.lookup f6 = some ⟨oc6, od6, .func (PySem.W.fnOf "parts" "parts" (defArgs sParts) (defBody sParts) (defScope sParts) .none kV6 dc6 pm6 an6 cd6 ct6), sl6⟩) (c6 : PySem.W.codeIn K cd6 "parts" = true) (k6 : PySem.W.keepIn K (.ref f6) = true)
    {f7 : Addr} {od7 an7 : Option Addr} {sl7 : Array (Option Value)} {oc7 kV7 dc7 pm7 cd7 ct7 : Value}
    (a7 : PySem.W.nsIn K mainGlobals "_law_upto" = some (some (.ref f7))) (l7 : K.lookup f7 = some ⟨oc7, od7, .func (PySem.W.fnOf "_law_upto" "_law_upto" (defArgs sLUpto) (defBody sLUpto) (defScope sLUpto) .none kV7 dc7 pm7 an7 cd7 ct7), sl7⟩) (c7 : PySem.W.codeIn K cd7 "_law_upto" = true) (k7 : PySem.W.keepIn K (.ref f7) = true)
    {f8 : Addr} {od8 an8 : Option Addr} {sl8 : Array (Option Value)} {oc8 kV8 dc8 pm8 cd8 ct8 : Value}
    (a8 : PySem.W.nsIn K mainGlobals "_law_whole" = some (some (.ref f8))) (l8 : K.lookup f8 = some ⟨oc8, od8, .func (PySem.W.fnOf "_law_whole" "_law_whole" (defArgs sLWhole) (defBody sLWhole) (defScope sLWhole) .none kV8 dc8 pm8 an8 cd8 ct8), sl8⟩) (c8 : PySem.W.codeIn K cd8 "_law_whole" = true) (k8 : PySem.W.keepIn K (.ref f8) = true)
    {f9 : Addr} {od9 an9 : Option Addr} {sl9 : Array (Option Value)} {oc9 kV9 dc9 pm9 cd9 ct9 : Value}
    (a9 : PySem.W.nsIn K mainGlobals "_law_at" = some (some (.ref f9))) (l9 : K.lookup f9 = some ⟨oc9, od9, .func (PySem.W.fnOf "_law_at" "_law_at" (defArgs sLAt) (defBody sLAt) (defScope sLAt) .none kV9 dc9 pm9 an9 cd9 ct9), sl9⟩) (c9 : PySem.W.codeIn K cd9 "_law_at" = true) (k9 : PySem.W.keepIn K (.ref f9) = true)
    {f10 : Addr} {od10 an10 : Option Addr} {sl10 : Array (Option Value)} {oc10 kV10 dc10 pm10 cd10 ct10 : Value}
    (a10 : PySem.W.nsIn K mainGlobals "_law_lanes_by" = some (some (.ref f10))) (l10 : K.lookup f10 = some ⟨oc10, od10, .func (PySem.W.fnOf "_law_lanes_by" "_law_lanes_by" (defArgs sLLanesBy) (defBody sLLanesBy) (defScope sLLanesBy) .none kV10 dc10 pm10 an10 cd10 ct10), sl10⟩) (c10 : PySem.W.codeIn K cd10 "_law_lanes_by" = true) (k10 : PySem.W.keepIn K (.ref f10) = true)
    {f11 : Addr} {od11 an11 : Option Addr} {sl11 : Array (Option Value)} {oc11 kV11 dc11 pm11 cd11 ct11 : Value}
    (a11 : PySem.W.nsIn K mainGlobals "_law_same_lanes" = some (some (.ref f11))) (l11 : K.lookup f11 = some ⟨oc11, od11, .func (PySem.W.fnOf "_law_same_lanes" "_law_same_lanes" (defArgs sLSameLanes) (defBody sLSameLanes) (defScope sLSameLanes) .none kV11 dc11 pm11 an11 cd11 ct11), sl11⟩) (c11 : PySem.W.codeIn K cd11 "_law_same_lanes" = true) (k11 : PySem.W.keepIn K (.ref f11) = true)
    {f12 : Addr} {od12 an12 : Option Addr} {sl12 : Array (Option Value)} {oc12 kV12 dc12 pm12 cd12 ct12 : Value}
    (a12 : PySem.W.nsIn K mainGlobals "_law_whole_row" = some (some (.ref f12))) (l12 : K.lookup f12 = some ⟨oc12, od12, .func (PySem.W.fnOf "_law_whole_row" "_law_whole_row" (defArgs sLWholeRow) (defBody sLWholeRow) (defScope sLWholeRow) .none kV12 dc12 pm12 an12 cd12 ct12), sl12⟩) (c12 : PySem.W.codeIn K cd12 "_law_whole_row" = true) (k12 : PySem.W.keepIn K (.ref f12) = true)
    {f13 : Addr} {od13 an13 : Option Addr} {sl13 : Array (Option Value)} {oc13 kV13 dc13 pm13 cd13 ct13 : Value}
    (a13 : PySem.W.nsIn K mainGlobals "_law_reach" = some (some (.ref f13))) (l13 : K.lookup f13 = some ⟨oc13, od13, .func (PySem.W.fnOf "_law_reach" "_law_reach" (defArgs sLReach) (defBody sLReach) (defScope sLReach) .none kV13 dc13 pm13 an13 cd13 ct13), sl13⟩) (c13 : PySem.W.codeIn K cd13 "_law_reach" = true) (k13 : PySem.W.keepIn K (.ref f13) = true)
    {f14 : Addr} {od14 an14 : Option Addr} {sl14 : Array (Option Value)} {oc14 kV14 dc14 pm14 cd14 ct14 : Value}
    (a14 : PySem.W.nsIn K mainGlobals "_law_all_reach" = some (some (.ref f14))) (l14 : K.lookup f14 = some ⟨oc14, od14, .func (PySem.W.fnOf "_law_all_reach" "_law_all_reach" (defArgs sLAllReach) (defBody sLAllReach) (defScope sLAllReach) .none kV14 dc14 pm14 an14 cd14 ct14), sl14⟩) (c14 : PySem.W.codeIn K cd14 "_law_all_reach" = true) (k14 : PySem.W.keepIn K (.ref f14) = true)
    {f15 : Addr} {od15 an15 : Option Addr} {sl15 : Array (Option Value)} {oc15 kV15 dc15 pm15 cd15 ct15 : Value}
    (a15 : PySem.W.nsIn K mainGlobals "_law_parts_hold" = some (some (.ref f15))) (l15 : K.lookup f15 = some ⟨oc15, od15, .func (PySem.W.fnOf "_law_parts_hold" "_law_parts_hold" (defArgs sLPartsHold) (defBody sLPartsHold) (defScope sLPartsHold) .none kV15 dc15 pm15 an15 cd15 ct15), sl15⟩) (c15 : PySem.W.codeIn K cd15 "_law_parts_hold" = true) (k15 : PySem.W.keepIn K (.ref f15) = true)
    {f16 : Addr} {od16 an16 : Option Addr} {sl16 : Array (Option Value)} {oc16 kV16 dc16 pm16 cd16 ct16 : Value}
    (a16 : PySem.W.nsIn K mainGlobals "law" = some (some (.ref f16))) (l16 : K.lookup f16 = some ⟨oc16, od16, .func (PySem.W.fnOf "law" "law" (defArgs sLaw) (defBody sLaw) (defScope sLaw) .none kV16 dc16 pm16 an16 cd16 ct16), sl16⟩) (c16 : PySem.W.codeIn K cd16 "law" = true) (k16 : PySem.W.keepIn K (.ref f16) = true)
    (z_all : PySem.W.nsIn K mainGlobals "all" = some none)
    (z_bool : PySem.W.nsIn K mainGlobals "bool" = some none)
    (z_int : PySem.W.nsIn K mainGlobals "int" = some none)
    (z_isinstance : PySem.W.nsIn K mainGlobals "isinstance" = some none)
    (z_len : PySem.W.nsIn K mainGlobals "len" = some none)
    (z_list : PySem.W.nsIn K mainGlobals "list" = some none)
    (z_max : PySem.W.nsIn K mainGlobals "max" = some none)
    (z_range : PySem.W.nsIn K mainGlobals "range" = some none)
    (z_sorted : PySem.W.nsIn K mainGlobals "sorted" = some none)
    (z_tuple : PySem.W.nsIn K mainGlobals "tuple" = some none)
    (t_tab : tabOk K "parts" = true)
    : ∃ (fd : FuncData) (c T : Addr), PySem.W.tabIn K "parts" = some (c, T) ∧ (∀ (s : Shared) (v : Value), BindsTo s fd ⟨[v], []⟩ [("_law_script", v)]) ∧ (h.get? T = some (PySem.W.tabObj #[]) → ∀ base : Heap, (cutK K T).In base → base.Ns mainGlobals mg → PySem.W.CodeHd base c T → base.BuiltinsAt mg T → FnOk l.prog w (cutK K T) mg base CX0 7 fa fd ["_law_script"] (spLaw T (cutK K T))) := by
  have e := hfa.symm.trans (PySem.W.mg_of X G a16)
  cases e
  have z : Zs mg := ⟨PySem.W.mg_none_of X G z_all, PySem.W.mg_none_of X G z_bool, PySem.W.mg_none_of X G z_int, PySem.W.mg_none_of X G z_isinstance, PySem.W.mg_none_of X G z_len, PySem.W.mg_none_of X G z_list, PySem.W.mg_none_of X G z_max, PySem.W.mg_none_of X G z_range, PySem.W.mg_none_of X G z_sorted, PySem.W.mg_none_of X G z_tuple⟩
  obtain ⟨c, T, t_tab, t_no⟩ := tabOk_of t_tab
  refine ⟨PySem.W.fnOf "law" "law" (defArgs sLaw) (defBody sLaw) (defScope sLaw) .none kV16 dc16 pm16 an16 cd16 ct16, c, T, t_tab, fun s v => .of_eq rfl, fun hT base _ _ hC hB => ?_⟩
  rw [cutK_self t_no]
  have cTab := funC_mk (fun_mk (st := sParts) l6 c6 k6) X hT (tab_code a6 l6 t_tab)
  rw [cutK_self t_no] at cTab
  have F0 := fun_mk (st := sArePlaces) l0 c0 k0
  have dArePlaces : DefAt K mg "are_places" sArePlaces PArePlaces _ _ := ⟨F0, F0.binds (ps := PArePlaces) fun _ _ _ _ _ _ us hl => match us, hl with | [_, _], _ => rfl, PySem.W.mg_of X G a0⟩
  have F1 := fun_mk (st := sCheckPlaces) l1 c1 k1
  have dCheckPlaces : DefAt K mg "check_places" sCheckPlaces PCheckPlaces _ _ := ⟨F1, F1.binds (ps := PCheckPlaces) fun _ _ _ _ _ _ us hl => match us, hl with | [_, _], _ => rfl, PySem.W.mg_of X G a1⟩
  have F2 := fun_mk (st := sCheckLanes) l2 c2 k2
  have dCheckLanes : DefAt K mg "check_lanes" sCheckLanes PCheckLanes _ _ := ⟨F2, F2.binds (ps := PCheckLanes) fun _ _ _ _ _ _ us hl => match us, hl with | [_, _], _ => rfl, PySem.W.mg_of X G a2⟩
  have F3 := fun_mk (st := sEndsByPlace) l3 c3 k3
  have dEndsByPlace : DefAt K mg "ends_by_place" sEndsByPlace PEndsByPlace _ _ := ⟨F3, F3.binds (ps := PEndsByPlace) fun _ _ _ _ _ _ us hl => match us, hl with | [_], _ => rfl, PySem.W.mg_of X G a3⟩
  have F4 := fun_mk (st := sReach) l4 c4 k4
  have dReach : DefAt K mg "reach" sReach PReach _ _ := ⟨F4, F4.binds (ps := PReach) fun _ _ _ _ _ _ us hl => match us, hl with | [_, _], _ => rfl, PySem.W.mg_of X G a4⟩
  have F5 := fun_mk (st := sPartWith) l5 c5 k5
  have dPartWith : DefAt K mg "part_with" sPartWith PPartWith _ _ := ⟨F5, F5.binds (ps := PPartWith) fun _ _ _ _ _ _ us hl => match us, hl with | [_, _], _ => rfl, PySem.W.mg_of X G a5⟩
  have F6 := fun_mk (st := sParts) l6 c6 k6
  have dParts : DefAt K mg "parts" sParts PParts _ _ := ⟨F6, F6.binds (ps := PParts) fun _ _ _ _ _ _ us hl => match us, hl with | [_, _], _ => rfl, PySem.W.mg_of X G a6⟩
  have F7 := fun_mk (st := sLUpto) l7 c7 k7
  have dLUpto : DefAt K mg "_law_upto" sLUpto PLUpto _ _ := ⟨F7, F7.binds (ps := PLUpto) fun _ _ _ _ _ _ us hl => match us, hl with | [_, _, _], _ => rfl, PySem.W.mg_of X G a7⟩
  have F8 := fun_mk (st := sLWhole) l8 c8 k8
  have dLWhole : DefAt K mg "_law_whole" sLWhole PLWhole _ _ := ⟨F8, F8.binds (ps := PLWhole) fun _ _ _ _ _ _ us hl => match us, hl with | [_], _ => rfl, PySem.W.mg_of X G a8⟩
  have F9 := fun_mk (st := sLAt) l9 c9 k9
  have dLAt : DefAt K mg "_law_at" sLAt PLAt _ _ := ⟨F9, F9.binds (ps := PLAt) fun _ _ _ _ _ _ us hl => match us, hl with | [_, _], _ => rfl, PySem.W.mg_of X G a9⟩
  have F10 := fun_mk (st := sLLanesBy) l10 c10 k10
  have dLLanesBy : DefAt K mg "_law_lanes_by" sLLanesBy PLLanesBy _ _ := ⟨F10, F10.binds (ps := PLLanesBy) fun _ _ _ _ _ _ us hl => match us, hl with | [_, _, _], _ => rfl, PySem.W.mg_of X G a10⟩
  have F11 := fun_mk (st := sLSameLanes) l11 c11 k11
  have dLSameLanes : DefAt K mg "_law_same_lanes" sLSameLanes PLSameLanes _ _ := ⟨F11, F11.binds (ps := PLSameLanes) fun _ _ _ _ _ _ us hl => match us, hl with | [_, _], _ => rfl, PySem.W.mg_of X G a11⟩
  have F12 := fun_mk (st := sLWholeRow) l12 c12 k12
  have dLWholeRow : DefAt K mg "_law_whole_row" sLWholeRow PLWholeRow _ _ := ⟨F12, F12.binds (ps := PLWholeRow) fun _ _ _ _ _ _ us hl => match us, hl with | [_], _ => rfl, PySem.W.mg_of X G a12⟩
  have F13 := fun_mk (st := sLReach) l13 c13 k13
  have dLReach : DefAt K mg "_law_reach" sLReach PLReach _ _ := ⟨F13, F13.binds (ps := PLReach) fun _ _ _ _ _ _ us hl => match us, hl with | [_, _], _ => rfl, PySem.W.mg_of X G a13⟩
  have F14 := fun_mk (st := sLAllReach) l14 c14 k14
  have dLAllReach : DefAt K mg "_law_all_reach" sLAllReach PLAllReach _ _ := ⟨F14, F14.binds (ps := PLAllReach) fun _ _ _ _ _ _ us hl => match us, hl with | [_, _], _ => rfl, PySem.W.mg_of X G a14⟩
  have F15 := fun_mk (st := sLPartsHold) l15 c15 k15
  have dLPartsHold : DefAt K mg "_law_parts_hold" sLPartsHold PLPartsHold _ _ := ⟨F15, F15.binds (ps := PLPartsHold) fun _ _ _ _ _ _ us hl => match us, hl with | [_, _, _], _ => rfl, PySem.W.mg_of X G a15⟩
  have F16 := fun_mk (st := sLaw) l16 c16 k16
  have dLaw : DefAt K mg "law" sLaw PLaw _ _ := ⟨F16, F16.binds (ps := PLaw) fun _ _ _ _ _ _ us hl => match us, hl with | [_], _ => rfl, PySem.W.mg_of X G a16⟩
  have GA := ok_are (P := l.prog) (w := w) (base := base) dArePlaces z
  have GC := ok_check dCheckPlaces dArePlaces GA
  have GL := ok_checkL dCheckLanes dCheckPlaces GC
  have GE := ok_ends (P := l.prog) (w := w) (base := base) dEndsByPlace
  have GR := ok_reach dReach z dEndsByPlace GE
  have GPw := ok_partw (P := l.prog) (w := w) (base := base) dPartWith z
  have GPa := ok_parts cTab hC hB z dCheckLanes GL dReach GR dPartWith GPw
  have GU := ok_upto (P := l.prog) (w := w) (base := base) dLUpto z
  have GH := ok_whole (P := l.prog) (w := w) (base := base) dLWhole z
  have GAt := ok_at (P := l.prog) (w := w) (base := base) dLAt z
  have GB := ok_lanesBy (P := l.prog) (w := w) (base := base) dLLanesBy z
  have GS := ok_same dLSameLanes z dLWhole GH
  have GWR := ok_wholeRow dLWholeRow z dLWhole GH
  have GLR := ok_lreach (P := l.prog) (w := w) (base := base) dLReach
  have GAl := ok_allr dLAllReach z dLReach GLR
  have GHo := ok_hold dLPartsHold z dLWholeRow GWR dLAllReach GAl
  exact ok_law dLaw z dLUpto GU dLAt GAt dLLanesBy GB dLSameLanes GS dParts GPa dLPartsHold GHo
theorem walkL {l : PySem.W.OpenLaw} {q : Program} {loose : List Str} {XP : (Str → Option Value) → Heap → Prop} {YP : World → Heap → Prop} {d dg : DefRec} {K : Params → PySem.W.Frag} (hn : l.most = some 63) (hdf : d.params.defaults = []) (hrec : (PyProof.Rows.recsOf q).find? (fun e : DefRec => e.name == ("parts" : Str)) = some dg)
    (hY : ∀ (w : World) (h : Heap), YP w h → (K w.params).In h)
    (F : ∀ (w : World) (mg : Str → Option Value) (fa : Addr) (h : Heap), (K w.params).In h → h.Ns mainGlobals mg → mg d.name = some (.ref fa) →
      ∃ (fd : FuncData) (c T : Addr), PySem.W.tabIn (K w.params) "parts" = some (c, T) ∧ (∀ (s : Shared) (u : Value), BindsTo s fd ⟨[u], []⟩ [("_law_script", u)]) ∧
        (h.get? T = some (PySem.W.tabObj #[]) → ∀ base : Heap, (cutK (K w.params) T).In base → base.Ns mainGlobals mg → PySem.W.CodeHd base c T → base.BuiltinsAt mg T → FnOk l.prog w (cutK (K w.params) T) mg base CX0 7 fa fd ["_law_script"] (spLaw T (cutK (K w.params) T)))) :
    PySem.W.WalkO q loose XP YP l.row.toRowW d [] (fun f vs => PySem.call f vs) :=
  L2.walk_ofT (n := 63) (k := 7) (x := "_law_script") (g := "parts") (sp := fun K T => spLaw T K) hn (by decide) hdf ⟨rfl, by decide, by decide⟩ hrec hY F (fun K T H a ns hl hT hS => ⟨a, ns, rfl, hS, hl, tab_start hT, fun _ => rfl⟩)
end Toy
open PySem PySem.W PyProof.Rows
set_option maxRecDepth 100000 in
set_option maxHeartbeats 0 in
theorem PySem.Challenge.cw_lanemap_k05_whole_parts_holds : PySem.Challenge.rw_lanemap_k05_whole_parts.Holds := by
  w_on; o_law; k_head; (case hw => w_witness2)
  k_fill
  refine Toy.walkL (l := PySem.Challenge.rw_lanemap_k05_whole_parts) rfl rfl rfl (fun w h Y => PySem.W.km_in_of Y) ?F
  case F =>
    intro w mg fa h KX G hmg
    refine' Toy.all_mk KX G hmg ?a0 ?l0 ?c0 ?k0 ?a1 ?l1 ?c1 ?k1 ?a2 ?l2 ?c2 ?k2 ?a3 ?l3 ?c3 ?k3 ?a4 ?l4 ?c4 ?k4 ?a5 ?l5 ?c5 ?k5 ?a6 ?l6 ?c6 ?k6 ?a7 ?l7 ?c7 ?k7 ?a8 ?l8 ?c8 ?k8 ?a9 ?l9 ?c9 ?k9 ?a10 ?l10 ?c10 ?k10 ?a11 ?l11 ?c11 ?k11 ?a12 ?l12 ?c12 ?k12 ?a13 ?l13 ?c13 ?k13 ?a14 ?l14 ?c14 ?k14 ?a15 ?l15 ?c15 ?k15 ?a16 ?l16 ?c16 ?k16 ?z_all ?z_bool ?z_int ?z_isinstance ?z_len ?z_list ?z_max ?z_range ?z_sorted ?z_tuple ?t_tab
    (case a0 => k_is)
    (case l0 => k_is)
    (case c0 => k_is)
    (case k0 => k_is)
    (case a1 => k_is)
    (case l1 => k_is)
    (case c1 => k_is)
    (case k1 => k_is)
    (case a2 => k_is)
    (case l2 => k_is)
    (case c2 => k_is)
    (case k2 => k_is)
    (case a3 => k_is)
    (case l3 => k_is)
    (case c3 => k_is)
    (case k3 => k_is)
    (case a4 => k_is)
    (case l4 => k_is)
    (case c4 => k_is)
    (case k4 => k_is)
    (case a5 => k_is)
    (case l5 => k_is)
    (case c5 => k_is)
    (case k5 => k_is)
    (case a6 => k_is)
    (case l6 => k_is)
    (case c6 => k_is)
    (case k6 => k_is)
    (case a7 => k_is)
    (case l7 => k_is)
    (case c7 => k_is)
    (case k7 => k_is)
    (case a8 => k_is)
    (case l8 => k_is)
    (case c8 => k_is)
    (case k8 => k_is)
    (case a9 => k_is)
    (case l9 => k_is)
    (case c9 => k_is)
    (case k9 => k_is)
    (case a10 => k_is)
    (case l10 => k_is)
    (case c10 => k_is)
    (case k10 => k_is)
    (case a11 => k_is)
    (case l11 => k_is)
    (case c11 => k_is)
    (case k11 => k_is)
    (case a12 => k_is)
    (case l12 => k_is)
    (case c12 => k_is)
    (case k12 => k_is)
    (case a13 => k_is)
    (case l13 => k_is)
    (case c13 => k_is)
    (case k13 => k_is)
    (case a14 => k_is)
    (case l14 => k_is)
    (case c14 => k_is)
    (case k14 => k_is)
    (case a15 => k_is)
    (case l15 => k_is)
    (case c15 => k_is)
    (case k15 => k_is)
    (case a16 => k_is)
    (case l16 => k_is)
    (case c16 => k_is)
    (case k16 => k_is)
    (case z_all => k_is)
    (case z_bool => k_is)
    (case z_int => k_is)
    (case z_isinstance => k_is)
    (case z_len => k_is)
    (case z_list => k_is)
    (case z_max => k_is)
    (case z_range => k_is)
    (case z_sorted => k_is)
    (case z_tuple => k_is)
    (case t_tab => kernel_rfl)
