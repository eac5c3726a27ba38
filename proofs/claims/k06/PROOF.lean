import PyProof.Rows.All
import Wide.All
import OpenK.AllK
import Wide.FinOn
import Lean
import PyProof.EqAt
import PyProof.EqKinds
import PyProof.TupleCall
import PySem.Challenge.RW_lanemap_k06_whole_depths
set_option Elab.async false
set_option linter.all false
set_option maxRecDepth 100000
namespace L2
open PySem PySem.Spec PyProof.Rows
abbrev Key := Sum Int Str
def keyIs : Key → Value → Bool
  | .inl k, v => Value.isInt k v
  | .inr x, v => Value.isStrOf x v
def keyH (w : World) : Key → Int
  | .inl k => hashInt k
  | .inr x => hashStr w x
theorem keyIs_shape : ∀ {k : Key} {v : Value}, keyIs k v = true → (∃ i t, k = Sum.inl i ∧ v = Value.int i t) ∨ (∃ x t, k = Sum.inr x ∧ v = Value.str x t)
  | .inl i, v, h => by
    obtain ⟨t, e⟩ := Value.isInt_shape (k := i) (v := v) h
    exact .inl ⟨i, t, rfl, e⟩
  | .inr x, v, h => by
    obtain ⟨t, e⟩ := Value.isStrOf_shape (x := x) (v := v) h
    exact .inr ⟨x, t, rfl, e⟩
theorem keyIs_int (i : Int) (t : Tok) : keyIs (.inl i) (.int i t) = true := by simp [keyIs, Value.isInt]
theorem keyIs_str (x : Str) (t : Tok) : keyIs (.inr x) (.str x t) = true := by simp [keyIs, Value.isStrOf]
theorem key_ll (a b : Int) : decide ((Sum.inl a : Key) = Sum.inl b) = (a == b) := by
  by_cases e : a = b
  · subst e; simp
  · have h : ¬ (Sum.inl a : Key) = Sum.inl b := fun q => e (Sum.inl.inj q)
    rw [decide_eq_false h]
    exact (beq_eq_false_iff_ne.mpr e).symm
theorem key_rr (a b : Str) : decide ((Sum.inr a : Key) = Sum.inr b) = decide (a = b) := by
  by_cases e : a = b
  · subst e; simp
  · have h : ¬ (Sum.inr a : Key) = Sum.inr b := fun q => e (Sum.inr.inj q)
    rw [decide_eq_false h, decide_eq_false e]
theorem key_lr (a : Int) (b : Str) : decide ((Sum.inl a : Key) = Sum.inr b) = false := decide_eq_false (fun q => nomatch q)
theorem key_rl (a : Str) (b : Int) : decide ((Sum.inr a : Key) = Sum.inl b) = false := decide_eq_false (fun q => nomatch q)
def mixKind (prog : Program) (w : World) : PySem.KeyKind prog w Key where
  is := keyIs
  hash := keyH w
  inj := fun v a b ha hb => by
    rcases keyIs_shape ha with ⟨i, t, rfl, rfl⟩ | ⟨x, t, rfl, rfl⟩
    · rcases keyIs_shape hb with ⟨j, u, rfl, e⟩ | ⟨y, u, rfl, e⟩
      · injection e with e1 _; rw [e1]
      · exact nomatch e
    · rcases keyIs_shape hb with ⟨j, u, rfl, e⟩ | ⟨y, u, rfl, e⟩
      · exact nomatch e
      · injection e with e1 _; rw [e1]
  byValue := fun k v h => by
    rcases keyIs_shape h with ⟨i, t, rfl, rfl⟩ | ⟨x, t, rfl, rfl⟩ <;> rfl
  pyHash := fun hv h => by
    rcases keyIs_shape hv with ⟨i, t, rfl, rfl⟩ | ⟨x, t, rfl, rfl⟩
    · exact wpAny_pyHash_int h
    · exact wpAny_pyHash_str h
  eqBool := fun hu hv h => by
    rcases keyIs_shape hu with ⟨i, t, rfl, rfl⟩ | ⟨x, t, rfl, rfl⟩
    · rcases keyIs_shape hv with ⟨j, u, rfl, rfl⟩ | ⟨y, u, rfl, rfl⟩
      · rw [key_ll] at h; exact wpAny_eqBool_int h
      · rw [key_lr] at h; exact SeqAt.EqAt.int_str i t y u _ _ _ _ h
    · rcases keyIs_shape hv with ⟨j, u, rfl, rfl⟩ | ⟨y, u, rfl, rfl⟩
      · rw [key_rl] at h; exact SeqAt.EqAt.str_int x t j u _ _ _ _ h
      · rw [key_rr] at h; exact wpAny_eqBool_str h
  «strs» := fun k x t v h => by
    rcases keyIs_shape h with ⟨i, u, rfl, e⟩ | ⟨y, u, rfl, e⟩
    · exact nomatch e
    · injection e with e1 _
      subst e1
      cases v <;> rfl
theorem mixKind_int (prog : Program) (w : World) (i : Int) (t : Tok) : (mixKind prog w).is (.inl i) (.int i t) = true := keyIs_int i t
theorem mixKind_str (prog : Program) (w : World) (x : Str) (t : Tok) : (mixKind prog w).is (.inr x) (.str x t) = true := keyIs_str x t
end L2
namespace L2
open PySem PySem.Spec PyProof.Rows
inductive V where
  | non | bl (b : Bool) | int (i : Int) | str (x : Str) | byt (b : Array UInt8) | flt (b : UInt64) | ref (a : Addr) | ty (n : String)
  deriving DecidableEq
def RelV : V → Value → Prop
  | .non, u => u = Value.none
  | .bl b, u => u = Value.bool b
  | .int i, u => ∃ t, u = Value.int i t
  | .str x, u => ∃ t, u = Value.str x t
  | .byt b, u => ∃ t, u = Value.bytes b t
  | .flt b, u => ∃ t, u = Value.float b t
  | .ref a, u => u = Value.ref a
  | .ty n, u => u = Value.type n
abbrev Vals : List V → List Value → Prop := Paired RelV
theorem Vals.length {xs : List V} {us : List Value} (r : Vals xs us) : xs.length = us.length := Paired.length r
theorem Vals.get : ∀ {xs : List V} {us : List Value} {i : Nat} {x : V}, Vals xs us → xs[i]? = some x → ∃ u, us[i]? = some u ∧ RelV x u
  | _, _, _, _, .nil, e => by simp at e
  | _, _, 0, _, .cons r _, e => by simp at e; subst e; exact ⟨_, rfl, r⟩
  | _, _, i + 1, x, .cons _ t, e => by
    obtain ⟨u, h1, h2⟩ := Vals.get (i := i) (x := x) t (by simpa using e)
    exact ⟨u, by simpa using h1, h2⟩
theorem Vals.set {x : V} {u : Value} (r : RelV x u) : ∀ {xs : List V} {us : List Value} (i : Nat), Vals xs us → Vals (xs.set i x) (us.set i u)
  | _, _, _, .nil => .nil
  | _, _, 0, .cons _ t => .cons r t
  | _, _, i + 1, .cons q t => .cons q (Vals.set r i t)
theorem Vals.append : ∀ {xs ys : List V} {us ws : List Value}, Vals xs us → Vals ys ws → Vals (xs ++ ys) (us ++ ws)
  | _, _, _, _, .nil, s => s
  | _, _, _, _, .cons r t, s => .cons r (Vals.append t s)
theorem Vals.take : ∀ {xs : List V} {us : List Value} (n : Nat), Vals xs us → Vals (xs.take n) (us.take n)
  | _, _, 0, _ => .nil
  | _, _, _ + 1, .nil => .nil
  | _, _, n + 1, .cons r t => .cons r (Vals.take n t)
theorem Vals.drop : ∀ {xs : List V} {us : List Value} (n : Nat), Vals xs us → Vals (xs.drop n) (us.drop n)
  | _, _, 0, r => r
  | _, _, _ + 1, .nil => .nil
  | _, _, n + 1, .cons _ t => Vals.drop n t
def RelO : Option V → Option Value → Prop
  | some v, some u => RelV v u
  | none, none => True
  | _, _ => False
def KV {κ : Type} : List (κ × V) → List (κ × Value) → Prop := Paired fun (p : κ × V) (q : κ × Value) => p.1 = q.1 ∧ RelV p.2 q.2
def kV : Key → V
  | .inl i => .int i
  | .inr x => .str x
inductive HO where
  /-- a list -/
  | lst (xs : List V)
  /-- a tuple (never changes) -/
  | tup (xs : List V)
  /-- a dict whose keys are ints and texts; one whose keys are tuples of ints and texts (the empty one is both) -/
  | dK (kvs : List (Key × V)) | dT (kvs : List (List Key × V))
  /-- a set of ints: its members, its size -/
  | set (S : Int → Bool) (n : Nat)
  /-- an instance of the class at C, its dict at dx, its attributes -/
  | ins (C dx : Addr) (fs : List (Str × V))
  /-- the dict of the instance at x -/
  | own (x : Addr)
  /-- the dict of an exception -/
  | xd (fs : List (Str × V))
  /-- a bound method, f of x -/
  | met (f x : Addr)
  /-- a range object lo, lo + 1, .. below hi -/
  | rng (lo hi : Int)
  /-- a thing that is known to the object (the script; a dict while a loop walks it): read, never written while it is so -/
  | frz (o : Obj) (u : HO)
  /-- a code object's table -/
  | tbl (ps : Array Value)
  /-- any other thing, by what is true of its one object (a def of one's own: SetO a S n := HO.ext fun h => ..) -/
  | ext (φ : Heap → Prop)
abbrev Hp := Addr → Option HO
def upd (H : Hp) (a : Addr) (o : HO) : Hp := fun b => if b = a then some o else H b
theorem upd_same {H : Hp} {a : Addr} {o : HO} : upd H a o a = some o := by unfold upd; rw [if_pos rfl]
theorem upd_ne {H : Hp} {a b : Addr} {o : HO} (h : b ≠ a) : upd H a o b = H b := by unfold upd; rw [if_neg h]
theorem upd_upd {H : Hp} {a : Addr} {o u : HO} : upd (upd H a o) a u = upd H a u := by
  funext b; unfold upd; split <;> rfl
theorem ne_of {H : Hp} {a b : Addr} {o u : HO} (h : H a = some o) (h' : H b = some u) (d : o ≠ u) : a ≠ b := by
  intro e; subst e; rw [h] at h'; exact d (Option.some.inj h')
theorem ne_of_none {H : Hp} {a b : Addr} {o : HO} (h : H a = some o) (h' : H b = none) : a ≠ b := by
  intro e; subst e; rw [h] at h'; cases h'
section
variable (P : Program) (w : World)
def ObjOk (H : Hp) (h : Heap) (a : Addr) : HO → Prop
  | .lst xs => xs.length ≤ sizeLine ∧ ∃ (its : List Value) (n : Nat), Vals xs its ∧ h.get? a = some { cls := .type "list", data := .seq its.toArray n }
  | .tup xs => xs.length ≤ sizeLine ∧ ∃ its : List Value, Vals xs its ∧ IsTup h a its.toArray
  | .dK kvs => kvs.length ≤ sizeLine ∧ (a == sysModules) = false ∧ ∃ vs, KV kvs vs ∧ h.DictOf (mixKind P w) a vs
  | .dT kvs => kvs.length ≤ sizeLine ∧ (a == sysModules) = false ∧ ∃ xs : List (List Key × Addr × Value),
      Paired (fun (p : List Key × V) (q : List Key × Addr × Value) => p.1 = q.1 ∧ H q.2.1 = some (.tup (p.1.map kV)) ∧ RelV p.2 q.2.2) kvs xs ∧
      ∃ o es ep, h.get? a = some o ∧ o.ExactDict ∧ o.data = .dict es ep ∧ es.toList = xs.map (entryOfKey (tupleKind (mixKind P w))) ∧ (xs.map (·.1)).Nodup
  | .set S n => h.SetOf (intKind P w) a S n
  | .ins C dx fs => H dx = some (.own a) ∧ fs.length ≤ 1000 ∧ dx ≠ a ∧ h.get? a = some (PySem.W.instObj C dx) ∧
      ∃ mA, h.Ns1 dx mA ∧ (∀ f, RelO (fs.lookup f) (mA f)) ∧ PySem.Within mA (fs.map (·.1))
  | .own _ => ∃ o, h.get? a = some o
  | .xd fs => ∃ mA, h.Ns1 a mA ∧ ∀ f, RelO (fs.lookup f) (mA f)
  | .rng lo hi => ∃ t u v, h.get? a = some { cls := .type "range", data := .fields #[.int lo t, .int hi u, .int 1 v] }
  | .frz o u => h.get? a = some o ∧ ObjOk H h a u
  | .tbl ps => h.get? a = some { cls := .none, data := .fields ps }
  | .met f x => h.get? a = some (PySem.W.methodObj (.ref f) (.ref x))
  | .ext φ => φ h ∧ (∃ o, h.get? a = some o) ∧ ∀ h1 h2 : Heap, φ h1 → (∀ o, h1.get? a = some o → h2.get? a = some o) → φ h2
def HOk (H : Hp) (h : Heap) : Prop := ∀ a o, H a = some o → ObjOk P w H h a o
end
section
variable {P : Program} {w : World} {H H' : Hp} {h h' : Heap} {a : Addr} {o : HO}
theorem ObjOk.lt (x : ObjOk P w H h a o) : a < h.objs.size := by
  cases o with
  | lst xs => obtain ⟨_, _, _, _, e⟩ := x; exact Heap.lt_size e
  | tup xs => obtain ⟨_, _, _, p⟩ := x; exact p.lt
  | dK kvs => obtain ⟨_, _, _, _, o, _, _, e, _⟩ := x; exact Heap.lt_size e
  | dT kvs => obtain ⟨_, _, _, _, o, _, _, e, _⟩ := x; exact Heap.lt_size e
  | set S n => obtain ⟨o, _, _, _, e, _⟩ := x; exact Heap.lt_size e
  | ins C dx fs => obtain ⟨_, _, _, e, _⟩ := x; exact Heap.lt_size e
  | own y => obtain ⟨_, e⟩ := x; exact Heap.lt_size e
  | xd fs => obtain ⟨_, ⟨_, _, _, e, _⟩, _⟩ := x; exact Heap.lt_size e
  | rng lo hi => obtain ⟨_, _, _, e⟩ := x; exact Heap.lt_size e
  | frz ob u => obtain ⟨e, _⟩ := x; exact Heap.lt_size e
  | tbl ps => exact Heap.lt_size (show h.get? a = some _ from x)
  | met f y => exact Heap.lt_size (show h.get? a = some _ from x)
  | ext φ => obtain ⟨_, ⟨_, e⟩, _⟩ := x; exact Heap.lt_size e
theorem Paired.mapP {α β : Type} {F G : α → β → Prop} : ∀ {l₁ : List α} {l₂ : List β}, Paired F l₁ l₂ → (∀ a b, F a b → G a b) → Paired G l₁ l₂
  | _, _, .nil, _ => .nil
  | _, _, .cons r t, f => .cons (f _ _ r) (Paired.mapP t f)
theorem ObjOk.stay (x : ObjOk P w H h a o) (k : ∀ b u, (b = a ∨ H b = some (.own a)) → h.get? b = some u → h'.get? b = some u)
    (ho : ∀ b, H b = some (.own a) → H' b = some (.own a)) (ht : ∀ b xs, H b = some (.tup xs) → H' b = some (.tup xs)) : ObjOk P w H' h' a o := by
  induction o with
  | lst xs => obtain ⟨z, its, n, r, e⟩ := x; exact ⟨z, its, n, r, k _ _ (.inl rfl) e⟩
  | tup xs => obtain ⟨z, its, r, ob, e, c⟩ := x; exact ⟨z, its, r, ob, k _ _ (.inl rfl) e, c⟩
  | dK kvs => obtain ⟨z, y, vs, r, ob, es, ep, e, c⟩ := x; exact ⟨z, y, vs, r, ob, es, ep, k _ _ (.inl rfl) e, c⟩
  | dT kvs =>
    obtain ⟨z, y, xs, r, ob, es, ep, e, c⟩ := x
    exact ⟨z, y, xs, Paired.mapP r fun p q z => ⟨z.1, ht _ _ z.2.1, z.2.2⟩, ob, es, ep, k _ _ (.inl rfl) e, c⟩
  | set S n => obtain ⟨ob, es, ep, t, e, c⟩ := x; exact ⟨ob, es, ep, t, k _ _ (.inl rfl) e, c⟩
  | ins C dx fs =>
    obtain ⟨d, z, ne, e, mA, ⟨od, es, ep, e2, c⟩, r⟩ := x
    exact ⟨ho _ d, z, ne, k _ _ (.inl rfl) e, mA, ⟨od, es, ep, k _ _ (.inr d) e2, c⟩, r⟩
  | own y => obtain ⟨ob, e⟩ := x; exact ⟨ob, k _ _ (.inl rfl) e⟩
  | xd fs => obtain ⟨mA, ⟨od, es, ep, e, c⟩, r⟩ := x; exact ⟨mA, ⟨od, es, ep, k _ _ (.inl rfl) e, c⟩, r⟩
  | rng lo hi => obtain ⟨t, u, v, e⟩ := x; exact ⟨t, u, v, k _ _ (.inl rfl) e⟩
  | frz ob u ih => obtain ⟨e, q⟩ := x; exact ⟨k _ _ (.inl rfl) e, ih q⟩
  | tbl ps =>
    have e : h.get? a = some { cls := .none, data := .fields ps } := x
    show h'.get? a = some { cls := .none, data := .fields ps }
    exact k a _ (.inl rfl) e
  | met f y =>
    have e : h.get? a = some (PySem.W.methodObj (.ref f) (.ref y)) := x
    show h'.get? a = some (PySem.W.methodObj (.ref f) (.ref y))
    exact k a _ (.inl rfl) e
  | ext φ => obtain ⟨p, ⟨o, e⟩, st⟩ := x; exact ⟨st _ _ p fun o q => k _ _ (.inl rfl) q, ⟨o, k _ _ (.inl rfl) e⟩, st⟩
theorem HOk.lt (x : HOk P w H h) (e : H a = some o) : a < h.objs.size := (x a o e).lt
theorem HOk.fresh (x : HOk P w H h) (e : h.objs.size ≤ a) : H a = none := by
  cases q : H a with
  | none => rfl
  | some u => exact absurd (Nat.lt_of_lt_of_le (x.lt q) e) (Nat.lt_irrefl _)
theorem HOk.kept (x : HOk P w H h) (k : ∀ b u, h.get? b = some u → h'.get? b = some u) : HOk P w H h' := fun a o e =>
  (x a o e).stay (fun b u _ q => k b u q) (fun _ q => q) fun _ _ q => q
theorem HOk.laid (x : HOk P w H h) (k : ∀ b u, h.get? b = some u → h'.get? b = some u) (hp : h.objs.size ≤ a) (new : ObjOk P w (upd H a o) h' a o) : HOk P w (upd H a o) h' := fun b u e => by
  have hn := x.fresh hp
  by_cases hb : b = a
  · subst hb; rw [upd_same] at e; cases e; exact new
  · rw [upd_ne hb] at e
    exact (x b u e).stay (fun c v _ q => k c v q) (fun c q => by rw [upd_ne (ne_of_none q hn)]; exact q) fun c xs q => by rw [upd_ne (ne_of_none q hn)]; exact q
end
def Rd (H : Hp) (a : Addr) (u : HO) : Prop := H a = some u ∨ ∃ o, H a = some (.frz o u)
theorem Rd.of {H : Hp} {a : Addr} {u : HO} (h : H a = some u) : Rd H a u := .inl h
theorem Rd.ok {P : Program} {w : World} {H : Hp} {h : Heap} {a : Addr} {u : HO} (r : Rd H a u) (x : HOk P w H h) : ObjOk P w H h a u := by
  rcases r with r | ⟨o, r⟩
  · exact x a u r
  · obtain ⟨_, q⟩ := x a _ r
    exact q
def Mut : Option HO → Prop
  | some (.lst _) => True
  | some (.dK _) => True
  | some (.dT _) => True
  | some (.set _ _) => True
  | some (.ins _ _ _) => True
  | some (.ext _) => True
  | _ => False
section
variable {P : Program} {w : World} {H : Hp} {h h' : Heap} {x e : Addr} {o' : HO}
theorem HOk.write (ok : HOk P w H h) (mu : Mut (H x)) (he : e = x ∨ H e = some (.own x)) (k : ∀ b u, b ≠ e → h.get? b = some u → h'.get? b = some u) (heo : ∃ u, h'.get? e = some u)
    (new : ObjOk P w (upd H x o') h' x o') : HOk P w (upd H x o') h' := fun b u q => by
  have nown : ∀ c y, H c = some (.own y) → c ≠ x := fun c y r z => by subst z; rw [r] at mu; exact mu
  have ntup : ∀ c xs, H c = some (.tup xs) → c ≠ x := fun c xs r z => by subst z; rw [r] at mu; exact mu
  by_cases hb : b = x
  · subst hb; rw [upd_same] at q; cases q; exact new
  · rw [upd_ne hb] at q
    by_cases hbe : b = e
    · have q' : H b = some (.own x) := by
        rcases he with z | z
        · exact absurd (hbe.trans z) hb
        · rw [hbe]; exact z
      rw [q] at q'; cases q'
      obtain ⟨v, hv⟩ := heo
      exact ⟨v, by rw [hbe]; exact hv⟩
    · refine (ok b u q).stay (fun c v hc r => k c v ?_ r) (fun c r => by rw [upd_ne (nown c b r)]; exact r) fun c xs r => by rw [upd_ne (ntup c xs r)]; exact r
      rcases hc with rfl | hc
      · exact hbe
      · rintro rfl
        rcases he with z | z
        · exact nown c b hc z
        · rw [hc] at z; cases z; exact hb rfl
end
structure Un (fs ex : List Addr) (H H' : Hp) (h h' : Heap) : Prop where
  keep : ∀ b o, h.get? b = some o → H b = none → b ∉ fs → b ∉ ex → h'.get? b = some o
  slot : ∀ b o, h.get? b = some o → H b = none → b ∈ fs → b ∉ ex → ∃ sl, h'.get? b = some { o with slots := sl }
  free : ∀ b o, h.get? b = some o → H b = none → b ∉ ex → H' b = none
  there : ∀ b o, h.get? b = some o → b ∉ ex → ∃ o', h'.get? b = some o'
  tups : ∀ b xs, H b = some (.tup xs) → H' b = some (.tup xs)
  frzs : ∀ b o u, H b = some (.frz o u) → H' b = some (.frz o u)
  tbls : ∀ b ps, H b = some (.tbl ps) → ∃ more, H' b = some (.tbl (ps ++ more))
section
variable {fs fs' ex ex' : List Addr} {H H1 H2 : Hp} {h h1 h2 h' : Heap} {a x e : Addr} {o : HO}
theorem Un.any (u : Un fs ex H H1 h h1) {b : Addr} {ob : Obj} (q : h.get? b = some ob) (n : H b = none) (hx : b ∉ ex) : ∃ sl, h1.get? b = some { ob with slots := sl } := by
  by_cases hb : b ∈ fs
  · exact u.slot b ob q n hb hx
  · exact ⟨ob.slots, u.keep b ob q n hb hx⟩
theorem Un.trans (a : Un fs ex H H1 h h1) (b : Un fs ex H1 H2 h1 h2) : Un fs ex H H2 h h2 where
  keep := fun c ob q n hc hx => b.keep c ob (a.keep c ob q n hc hx) (a.free c ob q n hx) hc hx
  slot := fun c ob q n hc hx => by
    obtain ⟨sl, e1⟩ := a.slot c ob q n hc hx
    obtain ⟨sl', e2⟩ := b.slot c _ e1 (a.free c ob q n hx) hc hx
    exact ⟨sl', e2⟩
  free := fun c ob q n hx => by
    obtain ⟨o', e1⟩ := a.there c ob q hx
    exact b.free c o' e1 (a.free c ob q n hx) hx
  there := fun c ob q hx => by
    obtain ⟨o', e1⟩ := a.there c ob q hx
    exact b.there c o' e1 hx
  tups := fun c xs q => b.tups c xs (a.tups c xs q)
  frzs := fun c ob xs q => b.frzs c ob xs (a.frzs c ob xs q)
  tbls := fun c ps q => by
    obtain ⟨m1, e1⟩ := a.tbls c ps q
    obtain ⟨m2, e2⟩ := b.tbls c _ e1
    exact ⟨m1 ++ m2, by rw [e2, Array.append_assoc]⟩
theorem Un.kept (k : ∀ b u, h.get? b = some u → h'.get? b = some u) : Un fs ex H H h h' :=
  ⟨fun b ob q _ _ _ => k b ob q, fun b ob q _ _ _ => ⟨ob.slots, k b ob q⟩, fun _ _ _ n _ => n, fun b ob q _ => ⟨ob, k b ob q⟩, fun _ _ q => q, fun _ _ _ q => q, fun _ ps q => ⟨#[], by rw [q]; simp⟩⟩
theorem Un.refl : Un fs ex H H h h := Un.kept fun _ _ q => q
theorem Un.laid (k : ∀ b u, h.get? b = some u → h'.get? b = some u) (hp : h.objs.size ≤ a) (hn : H a = none) : Un fs ex H (upd H a o) h h' where
  keep := fun b u q _ _ _ => k b u q
  slot := fun b u q _ _ _ => ⟨u.slots, k b u q⟩
  free := fun b u q n _ => by rw [upd_ne (Nat.ne_of_lt (Nat.lt_of_lt_of_le (Heap.lt_size q) hp))]; exact n
  there := fun b u q _ => ⟨u, k b u q⟩
  tups := fun b xs q => by rw [upd_ne (ne_of_none q hn)]; exact q
  frzs := fun b u xs q => by rw [upd_ne (ne_of_none q hn)]; exact q
  tbls := fun b ps q => ⟨#[], by rw [upd_ne (ne_of_none q hn), q]; simp⟩
theorem Un.write (mu : Mut (H x)) (he : e = x ∨ H e = some (.own x)) (k : ∀ b u, b ≠ e → h.get? b = some u → h'.get? b = some u) (heo : ∃ u, h'.get? e = some u) : Un fs ex H (upd H x o) h h' := by
  have hx : ∀ b, H b = none → b ≠ x := fun b n z => by subst z; rw [n] at mu; exact mu
  have hb : ∀ b, H b = none → b ≠ e := fun b n z => by
    subst z
    rcases he with r | r
    · exact hx b n r
    · rw [n] at r; cases r
  have hm : ∀ b u, H b = some u → ¬ Mut (some u) → b ≠ x := fun b u q nm z => by subst z; rw [q] at mu; exact nm mu
  refine ⟨fun b u q n _ _ => k b u (hb b n) q, fun b u q n _ _ => ⟨u.slots, k b u (hb b n) q⟩, fun b u q n _ => by rw [upd_ne (hx b n)]; exact n, fun b u q _ => ?_,
    fun b xs q => by rw [upd_ne (hm b _ q fun z => z)]; exact q, fun b u xs q => by rw [upd_ne (hm b _ q fun z => z)]; exact q, fun b ps q => ⟨#[], by rw [upd_ne (hm b _ q fun z => z), q]; simp⟩⟩
  by_cases hbe : b = e
  · subst hbe; exact heo
  · exact ⟨u, k b u hbe q⟩
theorem Un.mono (u : Un fs ex H H1 h h1) (hs : ∀ b ∈ fs, b ∈ fs') (hx : ∀ b ∈ ex, b ∈ ex') : Un fs' ex' H H1 h h1 :=
  ⟨fun b ob q n hb he => u.keep b ob q n (fun z => hb (hs b z)) fun z => he (hx b z), fun _ _ q n _ he => u.any q n fun z => he (hx _ z), fun b ob q n he => u.free b ob q n fun z => he (hx b z), fun b ob q he => u.there b ob q fun z => he (hx b z), u.tups, u.frzs, u.tbls⟩
end
def trk (h : Heap) (H : Hp) : List Addr := (List.range h.objs.size).filter fun a => (H a).isSome
def hidT (h : Heap) (H : Hp) : Heap := PySem.W.hideAll h (trk h H)
theorem hidT_size (h : Heap) (H : Hp) : (hidT h H).objs.size = h.objs.size := PySem.W.hideAll_size _ _
theorem hidT_get {h : Heap} {H : Hp} {b : Addr} {o : Obj} (e : h.get? b = some o) (n : H b = none) : (hidT h H).get? b = some o :=
  PySem.W.hideAll_get _ e fun hm => by
    have q : (H b).isSome = true := (List.mem_filter.mp hm).2
    rw [n] at q; simp at q
theorem of_hidT {h : Heap} {H : Hp} {b : Addr} {o : Obj} (e : (hidT h H).get? b = some o) : h.get? b = some o ∧ H b = none := by
  have e' : h.get? b = some o := PySem.W.of_hideAll (trk h H) e
  refine ⟨e', ?_⟩
  cases q : H b with
  | none => rfl
  | some x =>
    have hm : b ∈ trk h H := List.mem_filter.mpr ⟨List.mem_range.mpr (Heap.lt_size e'), by simp [q]⟩
    have z : (hidT h H).get? b = none := PySem.W.hideAll_none (trk h H) hm
    rw [z] at e; cases e
def allNews (g h : Heap) (L : Addr) : List (Addr × Obj) := (List.range h.objs.size).filterMap fun a => if a = L ∨ (g.get? a).isSome = true then none else (h.get? a).map fun o => (a, o)
def rest (g h : Heap) (L d : Addr) : List (Addr × Obj) := (allNews g h L).filter fun p => decide (p.1 ≠ d)
end L2
namespace L2
open PySem PySem.Spec PyProof.Rows
structure Mod (K : PySem.W.Frag) (mg : Str → Option Value) (base : Heap) : Prop where
  kin : K.In base
  glob : base.Ns mainGlobals mg
  blt : ∃ mb, base.Ns builtinsNs mb ∧ ∀ x : Str, x ≠ "__name__" → mb x = bootBuiltins x
  nolimit : base.NoLimit
structure Cx where
  prog : Program
  w : World
  K : PySem.W.Frag
  mg : Str → Option Value
  base : Heap
  A : Around
  N : List Str
  s₀ : Shared
  H₀ : Hp
  env : Env
  outer : List Env
  stack : List Env
  ex : List Addr
  fn : Str → Bool
  calm : Bool
  pn : List (Addr × Obj)
  xe : Value → Shared → Prop
def frs (l : List Env) : List Addr := l.filterMap (·.frame)
abbrev Cx.fs (X : Cx) : List Addr := frs X.outer
def Vis (sc : Scope) (x : Str) : Prop := sc.names.lookup x = some .local ∨ sc.names.lookup x = some .cell ∨ sc.names.lookup x = some .free
def Loc (sc : Scope) (x : Str) : Prop := sc.names.lookup x = some .local ∨ sc.names.lookup x = some .cell
def Look (env : Env) (h : Heap) (m : Str → Option Value) (x : Str) (u : Value) : Prop :=
  (env.kindOf x = some .local ∧ m x = some u) ∨ ((env.kindOf x = some .cell ∨ env.kindOf x = some .free) ∧ ∃ c, env.cells.lookup x = some c ∧ h.IsCell c (some u))
structure Cx.Ok (X : Cx) : Prop where
  mod : Mod X.K X.mg X.base
  kind : X.env.scope.kind = .function
  glob : X.env.globals = mainGlobals
  blt : X.env.builtins = builtinsNs
  above : X.s₀.heap.objs.size ≤ X.env.locals
  inj : ∀ x y c, X.env.cells.lookup x = some c → X.env.cells.lookup y = some c → x = y
  has : ∀ x, (X.env.kindOf x = some .cell ∨ X.env.kindOf x = some .free) → ∃ c, X.env.cells.lookup x = some c
  cab : ∀ x c, X.fn x = true → X.env.cells.lookup x = some c → X.s₀.heap.objs.size ≤ c
  hd : X.calm = true → X.A.handled = none
  frames : X.A.frames = some X.stack
  stk : X.stack = X.outer ∨ (X.stack = X.env :: X.outer ∧ X.env.frame = some X.env.locals)
  exf : ∀ b ∈ X.ex, b ≠ X.env.locals ∧ ∀ x c, X.env.cells.lookup x = some c → c ≠ b
  bs : ∀ b o, X.base.get? b = some o → X.s₀.heap.get? b = some o ∧ X.H₀ b = none
  bsz : X.base.objs.size ≤ X.s₀.heap.objs.size
  noex : ∀ b o, X.base.get? b = some o → b ∉ X.ex
  exfs : ∀ b ∈ X.ex, b ∉ X.fs
  funs : X.s₀.heap.FunFrames X.base X.outer
  frf : ∀ b ∈ X.fs, X.H₀ b = none
structure Inv (X : Cx) (pins : List (Addr × Obj)) (σ : List (Option V)) (H : Hp) (s : Shared) : Prop where
  ok : X.Ok
  os : s.os = X.s₀.os
  bare : AllBare s.gens
  base : Un X.fs X.ex X.H₀ H X.s₀.heap s.heap
  loc : ∃ m, s.heap.Ns X.env.locals m ∧ ∀ (i : Nat) (x : Str) (v : V), X.N[i]? = some x → σ[i]? = some (some v) → Vis X.env.scope x → ∃ u, RelV v u ∧ Look X.env s.heap m x u
  cell : ∀ x c, X.env.cells.lookup x = some c → ∃ v, s.heap.IsCell c v
  free : H X.env.locals = none
  freeC : ∀ x c, X.env.cells.lookup x = some c → H c = none
  pin : ∀ p ∈ X.pn ++ pins, s.heap.get? p.1 = some p.2 ∧ H p.1 = none ∧ p.1 ≠ X.env.locals ∧ p.1 ∉ X.fs ∧ ∀ v, p.2.data ≠ .cell v
  hok : HOk X.prog X.w H s.heap
  len : σ.length = X.N.length
section
variable {X : Cx} {pins : List (Addr × Obj)} {σ : List (Option V)} {H H' : Hp} {s : Shared} {h' : Heap}
theorem Cx.Ok.nofr (ok : X.Ok) {b : Addr} {o : Obj} (e : X.base.get? b = some o) : b ∉ X.fs := fun hb => by
  have := (ok.funs.mem hb).1
  rw [e] at this; cases this
theorem Inv.bs (I : Inv X pins σ H s) : ∀ b o, X.base.get? b = some o → s.heap.get? b = some o ∧ H b = none := fun b o e =>
  ⟨I.base.keep b o (I.ok.bs b o e).1 (I.ok.bs b o e).2 (I.ok.nofr e) (I.ok.noex b o e), I.base.free b o (I.ok.bs b o e).1 (I.ok.bs b o e).2 (I.ok.noex b o e)⟩
theorem Inv.bk (I : Inv X pins σ H s) : ∀ b o, X.base.get? b = some o → s.heap.get? b = some o := fun b o e => (I.bs b o e).1
theorem Inv.mod (I : Inv X pins σ H s) : Mod X.K X.mg X.base := I.ok.mod
theorem Inv.kIn (I : Inv X pins σ H s) : X.K.In s.heap := I.ok.mod.kin.keeps I.bk
theorem Inv.nolimit (I : Inv X pins σ H s) : s.heap.NoLimit := I.ok.mod.nolimit.keeps I.bk
theorem Inv.fr (I : Inv X pins σ H s) : ∃ m, Fr X.base X.env.locals s.heap m :=
  let ⟨m, hn, _⟩ := I.loc
  ⟨m, hn, I.bk, Nat.le_trans I.ok.bsz I.ok.above⟩
theorem Inv.lt (I : Inv X pins σ H s) : X.env.locals < s.heap.objs.size := let ⟨_, hn, _⟩ := I.loc; hn.lt
theorem Inv.sz (I : Inv X pins σ H s) : X.s₀.heap.objs.size ≤ s.heap.objs.size := Nat.le_trans I.ok.above (Nat.le_of_lt I.lt)
theorem Inv.nofs (I : Inv X pins σ H s) {a : Addr} (h : s.heap.objs.size ≤ a) : a ∉ X.fs := fun hb => by
  obtain ⟨_, o, ho, _⟩ := I.ok.funs.mem hb
  exact absurd (Nat.lt_of_lt_of_le (Heap.lt_size ho) (Nat.le_trans I.sz h)) (Nat.lt_irrefl _)
theorem Inv.cne (I : Inv X pins σ H s) : ∀ x c, X.env.cells.lookup x = some c → c ≠ X.env.locals := fun x c e z => by
  obtain ⟨v, o, ho, hd⟩ := I.cell x c e
  obtain ⟨m, ⟨o', es, ep, ho', hd', _⟩, _⟩ := I.loc
  rw [z, ho'] at ho; cases ho; rw [hd'] at hd; cases hd
theorem Inv.funs (I : Inv X pins σ H s) : s.heap.FunFrames X.base X.outer := by
  have all : ∀ (l : List Env), (∀ b ∈ frs l, b ∈ X.fs) → X.s₀.heap.FunFrames X.base l → s.heap.FunFrames X.base l := by
    intro l
    induction l with
    | nil => intro _ _; trivial
    | cons env r ih =>
      intro hs hl
      obtain ⟨hk, ⟨L, o, hf, hn, ho, hd⟩, hr⟩ := hl
      have hL : L ∈ X.fs := hs L (by unfold frs; rw [List.filterMap_cons, hf]; exact List.mem_cons_self)
      obtain ⟨sl, e⟩ := I.base.slot L o ho (I.ok.frf L hL) hL fun z => I.ok.exfs L z hL
      exact ⟨hk, ⟨L, _, hf, hn, e, hd⟩, ih (fun b hb => hs b (by unfold frs; rw [List.filterMap_cons, hf]; exact List.mem_cons_of_mem _ hb)) hr⟩
  exact all X.outer (fun _ hb => hb) I.ok.funs
theorem Inv.stack (I : Inv X pins σ H s) : s.heap.FunFrames X.base X.stack := by
  rcases I.ok.stk with e | ⟨e, hf⟩
  · rw [e]; exact I.funs
  · rw [e]
    obtain ⟨m, hn, _⟩ := I.loc
    refine .cons (by rw [I.ok.kind]; decide) hf hn ?_ I.funs
    exact Heap.get?_none_of_le (Nat.le_trans I.ok.bsz I.ok.above)
theorem Inv.stkSub (I : Inv X pins σ H s) : ∀ b ∈ frs X.stack, b ∈ X.env.locals :: X.fs := fun b hb => by
  rcases I.ok.stk with e | ⟨e, hf⟩
  · rw [e] at hb; exact List.mem_cons_of_mem _ hb
  · rw [e] at hb
    unfold frs at hb
    rw [List.filterMap_cons, hf] at hb
    exact hb
theorem Inv.stkFree (I : Inv X pins σ H s) : ∀ b ∈ frs X.stack, H b = none := fun b hb => by
  rcases List.mem_cons.mp (I.stkSub b hb) with e | hb
  · rw [e]; exact I.free
  · obtain ⟨_, o, ho, _⟩ := I.ok.funs.mem hb
    exact I.base.free b o ho (I.ok.frf b hb) fun z => I.ok.exfs b z hb
theorem Inv.step {g' : Array GenState} {t' : Nat} {d' : Drawn} {ch : List Addr} (I : Inv X pins σ H s)
    (hch : ∀ b ∈ ch, (b ∈ X.ex ∨ X.s₀.heap.objs.size ≤ b) ∧ b ≠ X.env.locals ∧ (∀ x c, X.env.cells.lookup x = some c → c ≠ b) ∧ ∀ p ∈ X.pn ++ pins, p.1 ≠ b)
    (keep : ∀ b o, b ≠ X.env.locals → b ∉ X.fs → b ∉ ch → s.heap.get? b = some o → H b = none → h'.get? b = some o)
    (slot : ∀ b o, b ≠ X.env.locals → b ∈ X.fs → b ∉ ch → s.heap.get? b = some o → H b = none → ∃ sl, h'.get? b = some { o with slots := sl }) (free : ∀ b o, b ∉ ch → s.heap.get? b = some o → H b = none → H' b = none)
    (there : ∀ b o, b ∉ ch → s.heap.get? b = some o → ∃ o', h'.get? b = some o')
    (tups : ∀ b xs, H b = some (.tup xs) → H' b = some (.tup xs)) (frzs : ∀ b o u, H b = some (.frz o u) → H' b = some (.frz o u)) (tbls : ∀ b ps, H b = some (.tbl ps) → ∃ more, H' b = some (.tbl (ps ++ more)))
    (ns : ∀ m, s.heap.Ns X.env.locals m → h'.Ns X.env.locals m) (hok : HOk X.prog X.w H' h') (hg : AllBare g') :
    Inv X pins σ H' { s with heap := h', gens := g', drawn := d', toks := t' } := by
  have neL : ∀ b o, X.s₀.heap.get? b = some o → b ≠ X.env.locals := fun b o e => Nat.ne_of_lt (Nat.lt_of_lt_of_le (Heap.lt_size e) I.ok.above)
  have neC : ∀ b o, X.s₀.heap.get? b = some o → b ∉ X.ex → b ∉ ch := fun b o e hx hb => by
    rcases (hch b hb).1 with z | z
    · exact hx z
    · exact absurd (Nat.lt_of_lt_of_le (Heap.lt_size e) z) (Nat.lt_irrefl _)
  have cellK : ∀ x c, X.env.cells.lookup x = some c → ∀ v, s.heap.IsCell c v → h'.IsCell c v := fun x c e v ⟨o, ho, hd⟩ => by
    have nch : c ∉ ch := fun z => (hch c z).2.2.1 x c e rfl
    by_cases hc : c ∈ X.fs
    · obtain ⟨sl, q⟩ := slot c o (I.cne x c e) hc nch ho (I.freeC x c e)
      exact ⟨_, q, hd⟩
    · exact ⟨o, keep c o (I.cne x c e) hc nch ho (I.freeC x c e), hd⟩
  refine ⟨I.ok, I.os, hg, ⟨fun b o e n hb hx => ?_, fun b o e n hb hx => ?_, fun b o e n hx => ?_, fun b o e hx => ?_, fun b xs e => tups b xs (I.base.tups b xs e), fun b o xs e => frzs b o xs (I.base.frzs b o xs e), fun b ps e => ?_⟩, ?_, fun x c e => ?_, ?_, fun x c e => ?_, fun p hp => ?_, hok, I.len⟩
  · exact keep b o (neL b o e) hb (neC b o e hx) (I.base.keep b o e n hb hx) (I.base.free b o e n hx)
  · obtain ⟨sl, e1⟩ := I.base.slot b o e n hb hx
    obtain ⟨sl', e2⟩ := slot b _ (neL b o e) hb (neC b o e hx) e1 (I.base.free b o e n hx)
    exact ⟨sl', e2⟩
  · obtain ⟨o', e1⟩ := I.base.there b o e hx
    exact free b o' (neC b o e hx) e1 (I.base.free b o e n hx)
  · obtain ⟨o', e1⟩ := I.base.there b o e hx
    exact there b o' (neC b o e hx) e1
  · obtain ⟨m1, e1⟩ := I.base.tbls b ps e
    obtain ⟨m2, e2⟩ := tbls b _ e1
    exact ⟨m1 ++ m2, by rw [e2, Array.append_assoc]⟩
  · obtain ⟨m, hn, hl⟩ := I.loc
    refine ⟨m, ns m hn, fun i x v e1 e2 e3 => ?_⟩
    obtain ⟨u, r, l⟩ := hl i x v e1 e2 e3
    refine ⟨u, r, ?_⟩
    rcases l with l | ⟨k, c, e, z⟩
    · exact .inl l
    · exact .inr ⟨k, c, e, cellK x c e _ z⟩
  · obtain ⟨v, z⟩ := I.cell x c e
    exact ⟨v, cellK x c e v z⟩
  · obtain ⟨m, ⟨o, _, _, ho, _⟩, _⟩ := I.loc
    exact free _ o (fun z => (hch _ z).2.1 rfl) ho I.free
  · obtain ⟨v, o, ho, hd⟩ := I.cell x c e
    exact free c o (fun z => (hch c z).2.2.1 x c e rfl) ho (I.freeC x c e)
  · obtain ⟨e, n, ne, nf, d⟩ := I.pin p hp
    have nch : p.1 ∉ ch := fun z => (hch p.1 z).2.2.2 p hp rfl
    exact ⟨keep p.1 p.2 ne nf nch e n, free p.1 p.2 nch e n, ne, nf, d⟩
theorem Inv.un {t' : Nat} (I : Inv X pins σ H s) (u : Un X.fs [] H H' s.heap h') (hok : HOk X.prog X.w H' h') : Inv X pins σ H' { s with heap := h', toks := t' } := by
  obtain ⟨m, ⟨o, es, ep, ho, r⟩, _⟩ := id I.loc
  obtain ⟨sl, hL⟩ := u.any ho I.free (by simp)
  exact I.step (g' := s.gens) (d' := s.drawn) (ch := []) (fun _ z => nomatch z) (fun b o _ hb _ e n => u.keep b o e n hb (by simp)) (fun b o _ hb _ e n => u.slot b o e n hb (by simp)) (fun b o _ e n => u.free b o e n (by simp)) (fun b o _ e => u.there b o e (by simp)) u.tups u.frzs u.tbls (fun m' hm => by
    obtain ⟨o', es', ep', ho', r'⟩ := hm
    rw [ho] at ho'; cases ho'
    exact ⟨_, es', ep', hL, r'⟩) hok I.bare
theorem Inv.call {g' : Array GenState} {t' : Nat} {d' : Drawn} {ch : List Addr} (I : Inv X pins σ H s) (u : Un (frs X.stack) ch H H' s.heap h') (hok : HOk X.prog X.w H' h') (hg : AllBare g')
    (hch : ∀ b ∈ ch, (b ∈ X.ex ∨ X.s₀.heap.objs.size ≤ b) ∧ b ≠ X.env.locals ∧ (∀ x c, X.env.cells.lookup x = some c → c ≠ b) ∧ ∀ p ∈ X.pn ++ pins, p.1 ≠ b) :
    Inv X pins σ H' { s with heap := h', gens := g', drawn := d', toks := t' } := by
  obtain ⟨m, ⟨o, es, ep, ho, r⟩, _⟩ := id I.loc
  obtain ⟨sl, hL⟩ := u.any ho I.free fun z => (hch _ z).2.1 rfl
  exact I.step (ch := ch) hch (fun b o hL hb hc e n => u.keep b o e n (fun z => (List.mem_cons.mp (I.stkSub b z)).elim hL hb) hc) (fun b o _ _ hc e n => u.any e n hc) (fun b o hc e n => u.free b o e n hc) (fun b o hc e => u.there b o e hc) u.tups u.frzs u.tbls (fun m' hm => by
    obtain ⟨o', es', ep', ho', r'⟩ := hm
    rw [ho] at ho'; cases ho'
    exact ⟨_, es', ep', hL, r'⟩) hok hg
theorem Inv.turned {t' : Nat} {it : Addr} (I : Inv X pins σ H s) (k : ∀ b o, b ≠ it → s.heap.get? b = some o → h'.get? b = some o) (hn : H it = none) (hL : it ≠ X.env.locals)
    (h1 : it ∈ X.ex ∨ X.s₀.heap.objs.size ≤ it) (h2 : ∀ x c, X.env.cells.lookup x = some c → c ≠ it) (h3 : ∀ p ∈ X.pn ++ pins, p.1 ≠ it) : Inv X pins σ H { s with heap := h', toks := t' } := by
  have nit : ∀ b u, H b = some u → b ≠ it := fun b u e z => by rw [z, hn] at e; cases e
  refine I.step (g' := s.gens) (d' := s.drawn) (ch := [it]) (fun b hb => ?_) (fun b o _ _ hc e _ => k b o (fun z => hc (by simp [z])) e) (fun b o _ _ hc e _ => ⟨o.slots, k b o (fun z => hc (by simp [z])) e⟩) (fun _ _ _ _ n => n)
    (fun b o hc e => ⟨o, k b o (fun z => hc (by simp [z])) e⟩) (fun _ _ e => e) (fun _ _ _ e => e) (fun b ps e => ⟨#[], by rw [e]; simp⟩) (fun m hm => ?_) (fun b u e => ?_) I.bare
  · have e : b = it := by simpa using hb
    subst e
    exact ⟨h1, hL, h2, h3⟩
  · obtain ⟨o, es, ep, ho, r⟩ := hm
    exact ⟨o, es, ep, k _ o (Ne.symm hL) ho, r⟩
  · refine (I.hok b u e).stay (fun c v hc q => k c v ?_ q) (fun _ q => q) fun _ _ q => q
    rcases hc with z | z
    · rw [z]; exact nit b u e
    · exact nit c _ z
theorem Inv.tok (I : Inv X pins σ H s) (t : Nat) : Inv X pins σ H { s with toks := t } := I.un (h' := s.heap) (t' := t) Un.refl I.hok
theorem Inv.kept {t' : Nat} (I : Inv X pins σ H s) (k : ∀ b u, s.heap.get? b = some u → h'.get? b = some u) : Inv X pins σ H { s with heap := h', toks := t' } := I.un (Un.kept k) (I.hok.kept k)
theorem Inv.laid {a : Addr} {o : HO} {t' : Nat} (I : Inv X pins σ H s) (k : ∀ b u, s.heap.get? b = some u → h'.get? b = some u) (hp : s.heap.objs.size ≤ a) (new : ObjOk X.prog X.w (upd H a o) h' a o) :
    Inv X pins σ (upd H a o) { s with heap := h', toks := t' } := I.un (Un.laid k hp (I.hok.fresh hp)) (I.hok.laid k hp new)
theorem Inv.write {x e : Addr} {o : HO} {t' : Nat} (I : Inv X pins σ H s) (mu : Mut (H x)) (he : e = x ∨ H e = some (.own x)) (k : ∀ b u, b ≠ e → s.heap.get? b = some u → h'.get? b = some u) (heo : ∃ u, h'.get? e = some u)
    (new : ObjOk X.prog X.w (upd H x o) h' x o) : Inv X pins σ (upd H x o) { s with heap := h', toks := t' } := I.un (Un.write mu he k heo) (I.hok.write mu he k heo new)
theorem Inv.pins_of {pins' : List (Addr × Obj)} (I : Inv X pins σ H s) (h : ∀ p ∈ pins', s.heap.get? p.1 = some p.2 ∧ H p.1 = none ∧ p.1 ≠ X.env.locals ∧ p.1 ∉ X.fs ∧ ∀ v, p.2.data ≠ .cell v) : Inv X pins' σ H s :=
  ⟨I.ok, I.os, I.bare, I.base, I.loc, I.cell, I.free, I.freeC, fun p hp => (List.mem_append.mp hp).elim (fun z => I.pin p (List.mem_append_left _ z)) (h p), I.hok, I.len⟩
theorem nodup_ix {N : List Str} (hN : N.Nodup) {i j : Nat} {x : Str} (a : N[i]? = some x) (b : N[j]? = some x) : i = j := by
  obtain ⟨h1, e1⟩ := List.getElem?_eq_some_iff.mp a
  obtain ⟨h2, e2⟩ := List.getElem?_eq_some_iff.mp b
  exact (List.getElem_inj hN).mp (e1.trans e2.symm)
theorem store_ok2 {M : Model} {A : Around} {E : Value → Shared → Prop} {i : Nat} {x : Str} {v : V} {u : Value} {Q : Unit → Shared → Prop} (I : Inv X pins σ H s) (hN : X.N.Nodup) (hi : X.N[i]? = some x) (hx : Loc X.env.scope x) (r : RelV v u)
    (h : ∀ s', Inv X pins (σ.set i (some v)) H s' → (∃ a, Heap.SameBut a s.heap s'.heap ∧ (a = X.env.locals ∨ X.env.cells.lookup x = some a)) → Q () s') (hf : X.fn x = true ∨ X.env.scope.names.lookup x = some .local := by first | exact .inl rfl | exact .inr rfl | assumption) : wpAny M A (storeName X.env x u) Q E s := by
  obtain ⟨m, hn, hl⟩ := id I.loc
  have hcls : (X.env.scope.kind == .class || (X.env.scope.kind == .module && X.env.locals != X.env.globals)) = false := by rw [I.ok.kind]; rfl
  have hiσ : i < σ.length := by rw [I.len]; exact (List.getElem?_eq_some_iff.mp hi).1
  have cne := I.cne
  have tracked : ∀ {a : Addr} {h' : Heap}, (∃ o, s.heap.get? a = some o ∧ H a = none) → Heap.SameBut a s.heap h' → HOk X.prog X.w H h' := fun {a h'} ha hs b ob e => by
    obtain ⟨_, _, hfree⟩ := ha
    refine (I.hok b ob e).stay (fun c w' hc q => (hs.2 c ?_).trans q) (fun _ q => q) fun _ _ q => q
    rintro rfl
    rcases hc with rfl | hc
    · rw [hfree] at e; cases e
    · rw [hfree] at hc; cases hc
  rcases hx with hk | hk
  · refine wpAny_storeName_local hk hn (fun h' hn' hs => ?_) hcls
    obtain ⟨oL, _, _, hoL, _⟩ := id hn
    refine h _ ⟨I.ok, I.os, I.bare, ⟨fun b o e n hb hx => ?_, fun b o e n hb hx => ?_, I.base.free, fun b o e hx => ?_, I.base.tups, I.base.frzs, I.base.tbls⟩, ⟨_, hn', fun j y v' e1 e2 e3 => ?_⟩, fun y c e => ?_, I.free, I.freeC, fun p hp => ?_, tracked ⟨oL, hoL, I.free⟩ hs, by simpa using I.len⟩ ⟨_, hs, .inl rfl⟩
    · exact (hs.2 b (Nat.ne_of_lt (Nat.lt_of_lt_of_le (Heap.lt_size e) I.ok.above))).trans (I.base.keep b o e n hb hx)
    · obtain ⟨sl, e1⟩ := I.base.slot b o e n hb hx
      exact ⟨sl, (hs.2 b (Nat.ne_of_lt (Nat.lt_of_lt_of_le (Heap.lt_size e) I.ok.above))).trans e1⟩
    · obtain ⟨o', e1⟩ := I.base.there b o e hx
      exact ⟨o', (hs.2 b (Nat.ne_of_lt (Nat.lt_of_lt_of_le (Heap.lt_size e) I.ok.above))).trans e1⟩
    · by_cases hj : j = i
      · subst hj
        rw [hi] at e1; cases e1
        rw [List.getElem?_set_self hiσ] at e2
        cases e2
        exact ⟨u, r, .inl ⟨hk, by simp⟩⟩
      · rw [List.getElem?_set_ne (Ne.symm hj)] at e2
        obtain ⟨u', r', q⟩ := hl j y v' e1 e2 e3
        refine ⟨u', r', ?_⟩
        rcases q with ⟨k, e⟩ | ⟨k, c, e, z⟩
        · refine .inl ⟨k, ?_⟩
          have : y ≠ x := fun e => hj (nodup_ix hN e1 (e ▸ hi))
          simp [this, e]
        · exact .inr ⟨k, c, e, z.sameBut hs (cne y c e)⟩
    · obtain ⟨w', z⟩ := I.cell y c e
      exact ⟨w', z.sameBut hs (cne y c e)⟩
    · obtain ⟨e, n, ne, nf, d⟩ := I.pin p hp
      exact ⟨(hs.2 p.1 ne).trans e, n, ne, nf, d⟩
  · have hfn : X.fn x = true := by
      rcases hf with z | z
      · exact z
      · rw [z] at hk; cases hk
    obtain ⟨c, hc⟩ := I.ok.has x (.inl hk)
    obtain ⟨w', z⟩ := I.cell x c hc
    refine wpAny_storeName_cell I.ok.kind hk hc z (fun h' hc' hs => ?_)
    obtain ⟨oc, hoc, hocd⟩ := id z
    refine h { s with heap := h' } ⟨I.ok, I.os, I.bare, ⟨fun b o e n hb hx => ?_, fun b o e n hb hx => ?_, I.base.free, fun b o e hx => ?_, I.base.tups, I.base.frzs, I.base.tbls⟩, ⟨m, hn.sameBut hs (Ne.symm (cne x c hc)), fun j y v' e1 e2 e3 => ?_⟩, fun y c' e => ?_, I.free, I.freeC, fun p hp => ?_, tracked ⟨oc, hoc, I.freeC x c hc⟩ hs, by simpa using I.len⟩ ⟨c, hs, .inr hc⟩
    · exact (hs.2 b (Nat.ne_of_lt (Nat.lt_of_lt_of_le (Heap.lt_size e) (I.ok.cab x c hfn hc)))).trans (I.base.keep b o e n hb hx)
    · obtain ⟨sl, e1⟩ := I.base.slot b o e n hb hx
      exact ⟨sl, (hs.2 b (Nat.ne_of_lt (Nat.lt_of_lt_of_le (Heap.lt_size e) (I.ok.cab x c hfn hc)))).trans e1⟩
    · obtain ⟨o', e1⟩ := I.base.there b o e hx
      exact ⟨o', (hs.2 b (Nat.ne_of_lt (Nat.lt_of_lt_of_le (Heap.lt_size e) (I.ok.cab x c hfn hc)))).trans e1⟩
    · by_cases hj : j = i
      · subst hj
        rw [hi] at e1; cases e1
        rw [List.getElem?_set_self hiσ] at e2
        cases e2
        exact ⟨u, r, .inr ⟨.inl hk, c, hc, hc'⟩⟩
      · rw [List.getElem?_set_ne (Ne.symm hj)] at e2
        obtain ⟨u', r', q⟩ := hl j y v' e1 e2 e3
        refine ⟨u', r', ?_⟩
        rcases q with q | ⟨k, c', e, z'⟩
        · exact .inl q
        · refine .inr ⟨k, c', e, z'.sameBut hs ?_⟩
          rintro rfl
          exact hj (nodup_ix hN e1 (I.ok.inj _ _ _ e hc ▸ hi))
    · by_cases hcc : c' = c
      · subst hcc; exact ⟨_, hc'⟩
      · obtain ⟨w2, z2⟩ := I.cell y c' e
        exact ⟨w2, z2.sameBut hs hcc⟩
    · obtain ⟨e, n, ne, nf, d⟩ := I.pin p hp
      refine ⟨(hs.2 p.1 ?_).trans e, n, ne, nf, d⟩
      intro q
      rw [q, hoc] at e
      have q' : oc = p.2 := Option.some.inj e
      exact d w' (by rw [← q']; exact hocd)
theorem store_ok {M : Model} {A : Around} {E : Value → Shared → Prop} {i : Nat} {x : Str} {v : V} {u : Value} {Q : Unit → Shared → Prop} (I : Inv X pins σ H s) (hN : X.N.Nodup) (hi : X.N[i]? = some x) (hx : Loc X.env.scope x) (r : RelV v u)
    (h : ∀ s', Inv X pins (σ.set i (some v)) H s' → Q () s') (hf : X.fn x = true ∨ X.env.scope.names.lookup x = some .local := by first | exact .inl rfl | exact .inr rfl | assumption) : wpAny M A (storeName X.env x u) Q E s :=
  store_ok2 I hN hi hx r (fun s' I' _ => h s' I') hf
theorem Inv.call' {s' : Shared} {ch : List Addr} (I : Inv X pins σ H s) (ho : s'.os = s.os) (u : Un (frs X.stack) ch H H' s.heap s'.heap) (hok : HOk X.prog X.w H' s'.heap) (hg : AllBare s'.gens)
    (hch : ∀ b ∈ ch, (b ∈ X.ex ∨ X.s₀.heap.objs.size ≤ b) ∧ b ≠ X.env.locals ∧ (∀ x c, X.env.cells.lookup x = some c → c ≠ b) ∧ ∀ p ∈ X.pn ++ pins, p.1 ≠ b) : Inv X pins σ H' s' := by
  obtain ⟨h', g', d', t', o'⟩ := s'
  have e : o' = s.os := ho
  subst e
  exact I.call (g' := g') (t' := t') (d' := d') u hok hg hch
end
abbrev XK := Value → Option Addr → Hp → Prop
abbrev St := List (Option V)
abbrev VK := V → Hp → Prop
abbrev TE := St → Hp → VK → Prop
abbrev TT := St → Hp → (Bool → Hp → Prop) → Prop
abbrev TA := St → Hp → (List V → Hp → Prop) → Prop
structure Ends where
  nx : St → Hp → Prop
  rt : VK
  bk : St → Hp → Prop := fun _ _ => False
  ct : St → Hp → Prop := fun _ _ => False
abbrev TS := Ends → St → Hp → Prop
def EP (X : Cx) (pins : List (Addr × Obj)) (σ : St) (Q : VK) (u : Value) (s' : Shared) : Prop := ∃ v H', Inv X pins σ H' s' ∧ RelV v u ∧ Q v H'
def TP (X : Cx) (pins : List (Addr × Obj)) (σ : St) (Q : Bool → Hp → Prop) (b : Bool) (s' : Shared) : Prop := ∃ H', Inv X pins σ H' s' ∧ Q b H'
def AP (X : Cx) (pins : List (Addr × Obj)) (σ : St) (Q : List V → Hp → Prop) (us : List Value) (s' : Shared) : Prop := ∃ vs H', Inv X pins σ H' s' ∧ Vals vs us ∧ Q vs H'
def SP (X : Cx) (pins : List (Addr × Obj)) (D : Ends) (f : Flow) (s' : Shared) : Prop :=
  match f with
  | .next => ∃ σ' H', Inv X pins σ' H' s' ∧ D.nx σ' H'
  | .brk => ∃ σ' H', Inv X pins σ' H' s' ∧ D.bk σ' H'
  | .cont => ∃ σ' H', Inv X pins σ' H' s' ∧ D.ct σ' H'
  | .ret u => ∃ v σ' H', Inv X pins σ' H' s' ∧ RelV v u ∧ D.rt v H'
def PE (X : Cx) (e : Expr) (t : TE) : Prop :=
  ∀ (pins : List (Addr × Obj)) (s : Shared) (σ : St) (H : Hp) (Q : VK), Inv X pins σ H s → t σ H Q → wpAny (model X.prog X.w) X.A (eval e X.env) (EP X pins σ Q) X.xe s
def PT (X : Cx) (e : Expr) (t : TT) : Prop :=
  ∀ (pins : List (Addr × Obj)) (s : Shared) (σ : St) (H : Hp) (Q : Bool → Hp → Prop), Inv X pins σ H s → t σ H Q → wpAny (model X.prog X.w) X.A (isTrue e X.env (eval e X.env)) (TP X pins σ Q) X.xe s
def PW (X : Cx) (e : Expr) (t : TT) : Prop :=
  ∀ (whole : Sem Value) (pins : List (Addr × Obj)) (s : Shared) (σ : St) (H : Hp) (Q : Bool → Hp → Prop), Inv X pins σ H s → t σ H Q → wpAny (model X.prog X.w) X.A (isTrue e X.env whole) (TP X pins σ Q) X.xe s
theorem PW.pt {X : Cx} {e : Expr} {t : TT} (h : PW X e t) : PT X e t := h _
def PA (X : Cx) (es : List Expr) (t : TA) : Prop :=
  ∀ (pos : Pos) (pins : List (Addr × Obj)) (s : Shared) (σ : St) (H : Hp) (Q : List V → Hp → Prop), Inv X pins σ H s → t σ H Q → wpAny (model X.prog X.w) X.A (spliced (backTo pos (starEach es X.env))) (AP X pins σ Q) X.xe s
def PS (X : Cx) (st : Stmt) (t : TS) : Prop :=
  ∀ (pins : List (Addr × Obj)) (s : Shared) (σ : St) (H : Hp) (D : Ends), Inv X pins σ H s → t D σ H → wpAny (model X.prog X.w) X.A (exec st X.env) (SP X pins D) X.xe s
def PSs (X : Cx) (st : List Stmt) (t : TS) : Prop :=
  ∀ (pins : List (Addr × Obj)) (s : Shared) (σ : St) (H : Hp) (D : Ends), Inv X pins σ H s → t D σ H → wpAny (model X.prog X.w) X.A (execs st X.env) (SP X pins D) X.xe s
theorem thn {α : Type} {t : Sem α} {Q Q' : α → Shared → Prop} {M : Model} {A : Around} {E : Value → Shared → Prop} {s : Shared} (h : wpAny M A t Q E s) (hQ : ∀ a s, Q a s → Q' a s) : wpAny M A t Q' E s := wpAny_mono h hQ fun _ _ x => x
end L2
namespace L2
open PySem PySem.Spec PyProof.Rows
section
variable {X : Cx}
def tVar (i : Nat) : TE := fun σ H Q => ∃ v, σ[i]? = some (some v) ∧ Q v H
def tC (v : V) : TE := fun _ H Q => Q v H
theorem pe_var {i : Nat} {x : Str} {pos : Pos} (hN : X.N[i]? = some x) (hv : Vis X.env.scope x) (hd : (x == ("__debug__" : Str)) = false := by decide) (hcd : (x == ("__classdict__" : Str)) = false := by decide) : PE X (.Name x pos) (tVar i) := by
  intro pins s σ H Q I h
  obtain ⟨v, e, h⟩ := h
  obtain ⟨m, hn, hl⟩ := I.loc
  obtain ⟨u, r, l⟩ := hl i x v hN e hv
  have fin : EP X pins σ Q u s := ⟨v, H, I, r, h⟩
  rcases l with ⟨hk, hm⟩ | ⟨hk, c, hc, hcell⟩
  · exact wpAny_Name (wpAny_loadName_local I.ok.kind hk hn hm fin) hd
  · rcases hk with hk | hk
    · exact wpAny_Name (wpAny_loadName_cell I.ok.kind hk hc hcell fin) hd
    · exact wpAny_Name (wpAny_loadName_free I.ok.kind hk hc hcell fin hcd) hd
theorem pe_int {i j pos} : PE X (.Constant (.int i) j pos) (tC (.int i)) := fun _ _ _ H _ I h => wpAny_Constant_int ⟨.int i, H, I.tok _, ⟨_, rfl⟩, h⟩
theorem pe_bl {b j pos} : PE X (.Constant (.bool b) j pos) (tC (.bl b)) := fun _ _ _ H _ I h => Constant_bool ⟨.bl b, H, I, rfl, h⟩
theorem pe_non {j pos} : PE X (.Constant .none j pos) (tC .non) := fun _ _ _ H _ I h => Constant_none ⟨.non, H, I, rfl, h⟩
def Gl (X : Cx) (x : Str) : Prop := X.env.kindOf x = some .globalImplicit
theorem ld_glob {E : Value → Shared → Prop} {pins : List (Addr × Obj)} {s : Shared} {σ : St} {H : Hp} {x : Str} {u : Value} {pos : Pos} {Q : Value → Shared → Prop} (I : Inv X pins σ H s) (hg : Gl X x) (hm : X.mg x = some u) (h : Q u s)
    (hd : (x == ("__debug__" : Str)) = false := by decide) : wpAny (model X.prog X.w) X.A (eval (.Name x pos) X.env) Q E s :=
  Calls.Name_function_global I.ok.kind hg (Calls.loadGlobal_global (by rw [I.ok.glob]; exact I.mod.glob.keeps I.bk) hm h) hd
theorem ld_blt {E : Value → Shared → Prop} {pins : List (Addr × Obj)} {s : Shared} {σ : St} {H : Hp} {x : Str} {u : Value} {pos : Pos} {Q : Value → Shared → Prop} (I : Inv X pins σ H s) (hg : Gl X x) (hm : X.mg x = none) (hv : bootBuiltins x = some u) (h : Q u s)
    (hn : x ≠ "__name__" := by decide) (hd : (x == ("__debug__" : Str)) = false := by decide) : wpAny (model X.prog X.w) X.A (eval (.Name x pos) X.env) Q E s := by
  obtain ⟨mb, h1, h2⟩ := I.mod.blt
  exact Calls.Name_function_global I.ok.kind hg (Calls.loadGlobal_builtin (by rw [I.ok.glob]; exact I.mod.glob.keeps I.bk) hm (by rw [I.ok.blt]; exact h1.keeps I.bk) ((h2 x hn).trans hv) h) hd
theorem pe_bltn {x : Str} {v : V} {u : Value} {pos : Pos} (hg : Gl X x) (hm : X.mg x = none) (hv : bootBuiltins x = some u) (r : RelV v u) (hn : x ≠ "__name__" := by decide) (hd : (x == ("__debug__" : Str)) = false := by decide) : PE X (.Name x pos) (tC v) :=
  fun _ _ _ H _ I h => ld_blt I hg hm hv ⟨v, H, I, r, h⟩ hn hd
variable {a b : Expr} {ta tb : TE} {pos : Pos}
def PC (X : Cx) (op : CmpOp) (a b : Expr) (t : TE) : Prop :=
  ∀ (pins : List (Addr × Obj)) (s : Shared) (σ : St) (H : Hp) (Q : VK), Inv X pins σ H s → t σ H Q →
    wpAny (model X.prog X.w) X.A (eval a X.env) (fun v s₁ => wpAny (model X.prog X.w) X.A (eval b X.env) (fun u s₂ => wpAny (model X.prog X.w) X.A (compareOp op v u) (EP X pins σ Q) X.xe s₂) X.xe s₁) X.xe s
theorem nobehind (b : Expr) {op : CmpOp} (h : op ≠ .In) (h2 : op ≠ .NotIn) : behindInMarks op b = false := by
  have e1 : (op == CmpOp.In) = false := by cases op <;> first | rfl | exact absurd rfl h
  have e2 : (op == CmpOp.NotIn) = false := by cases op <;> first | rfl | exact absurd rfl h2
  cases b <;> simp [behindInMarks, e1, e2]
def tB (t : TE) : TT := fun σ H Q => t σ H fun x H1 => ∃ c, x = .bl c ∧ Q c H1
theorem pt_cmp {op : CmpOp} {t : TE} (h : PC X op a b t) (h1 : behindInMarks op b = false := by first | exact nobehind _ (by decide) (by decide) | rfl) : PT X (.Compare a [op] [b] pos) (tB t) := by
  intro pins s σ H Q I hw
  refine wpAny_isTrue_Compare1 (thn (h pins s σ H _ I hw) fun v s1 h1 => thn h1 fun u s2 h2 => thn h2 fun c s3 ⟨x, H1, I1, r1, q1⟩ => ?_) h1
  obtain ⟨d, rfl, q⟩ := q1
  cases r1
  exact wpAny_truthy_bool ⟨H1, I1, q⟩
theorem pt_val {e : Expr} {t : TE} (h : PE X e t) (he : ∀ whole, isTrue e X.env whole = (do let v ← whole; standAt e.pos; holding [v] (truthy v)) := by intro _; rfl) : PT X e (tB t) := by
  intro pins s σ H Q I hw
  refine isTrue_plain (thn (h pins s σ H _ I hw) fun v s1 ⟨x, H1, I1, r1, q1⟩ => ?_) (he _)
  obtain ⟨d, rfl, q⟩ := q1
  cases r1
  exact wpAny_truthy_bool ⟨H1, I1, q⟩
variable {tA tB' : TT} {rest : List Expr}
def tAnd (t u : TT) : TT := fun σ H Q => t σ H fun c H1 => if c = true then u σ H1 Q else Q false H1
def tOr (t u : TT) : TT := fun σ H Q => t σ H fun c H1 => if c = true then Q true H1 else u σ H1 Q
def tNot (t : TT) : TT := fun σ H Q => t σ H fun c H1 => Q (!c) H1
theorem pw_and1 (ha : PT X a tA) : PW X (.BoolOp .And [a] pos) tA := by
  intro wh pins s σ H Q I h
  refine isTrue_and (thn (ha pins s σ H Q I h) fun c s1 e => ?_)
  cases c with
  | true => exact isTrue_and_nil e
  | false => exact e
theorem pw_or1 (ha : PT X a tA) : PW X (.BoolOp .Or [a] pos) tA := by
  intro wh pins s σ H Q I h
  refine isTrue_or (thn (ha pins s σ H Q I h) fun c s1 e => ?_)
  cases c with
  | false => exact isTrue_or_nil e
  | true => exact e
theorem pw_and (ha : PT X a tA) (hb : PW X (.BoolOp .And (b :: rest) pos) tB') : PW X (.BoolOp .And (a :: b :: rest) pos) (tAnd tA tB') := by
  intro wh pins s σ H Q I h
  refine isTrue_and (thn (ha pins s σ H _ I h) fun c s1 ⟨H1, I1, q1⟩ => ?_)
  cases c with
  | true => exact hb wh pins s1 σ H1 Q I1 q1
  | false => exact ⟨H1, I1, q1⟩
theorem pw_or (ha : PT X a tA) (hb : PW X (.BoolOp .Or (b :: rest) pos) tB') : PW X (.BoolOp .Or (a :: b :: rest) pos) (tOr tA tB') := by
  intro wh pins s σ H Q I h
  refine isTrue_or (thn (ha pins s σ H _ I h) fun c s1 ⟨H1, I1, q1⟩ => ?_)
  cases c with
  | true => exact ⟨H1, I1, q1⟩
  | false => exact hb wh pins s1 σ H1 Q I1 q1
theorem pt_not (ha : PT X a tA) : PT X (.UnaryOp .Not a pos) (tNot tA) := by
  intro pins s σ H Q I h
  exact isTrue_not (ha pins s σ H (fun c H1 => Q (!c) H1) I h)
def tAndV (ta tb : TE) : TE := fun σ H Q => ta σ H fun x H1 => ∃ c, x = .bl c ∧ if c = true then tb σ H1 Q else Q (.bl false) H1
def tNotV (ta : TE) : TE := fun σ H Q => ta σ H fun x H1 => ∃ c, x = .bl c ∧ Q (.bl (!c)) H1
theorem pe_one {op} {t : TE} (h : PE X a t) : PE X (.BoolOp op [a] pos) t := fun pins s σ H Q I hw => BoolOp_one (h pins s σ H Q I hw)
theorem pe_and (ha : PE X a ta) (hb : PE X (.BoolOp .And (b :: rest) pos) tb) : PE X (.BoolOp .And (a :: b :: rest) pos) (tAndV ta tb) := by
  intro pins s σ H Q I h
  refine BoolOp_and (thn (ha pins s σ H _ I h) fun v s1 ⟨x, H1, I1, r1, q1⟩ => ?_)
  obtain ⟨c, rfl, q1⟩ := q1
  cases r1
  refine wpAny_truthy_bool ?_
  cases c with
  | true => exact hb pins s1 σ H1 Q I1 q1
  | false => exact ⟨.bl false, H1, I1, rfl, q1⟩
theorem pe_not (ha : PE X a ta) : PE X (.UnaryOp .Not a pos) (tNotV ta) := by
  intro pins s σ H Q I h
  refine UnaryOp_ (thn (ha pins s σ H _ I h) fun v s1 ⟨x, H1, I1, r1, q1⟩ => ?_)
  obtain ⟨c, rfl, q1⟩ := q1
  cases r1
  exact not_of (wpAny_truthy_bool ⟨.bl (!c), H1, I1, rfl, q1⟩)
end
end L2
namespace L2
open PySem PySem.Spec PyProof.Rows
def SqL (K : PySem.W.Frag) (H : Hp) (a : Addr) (xs : List V) : Prop :=
  Rd H a (.lst xs) ∨
    ∃ (o : Obj) (its : Array Value) (n : Nat), K.lookup a = some o ∧ o.cls = .type "list" ∧ o.dict = none ∧ o.data = .seq its n ∧ its.size ≤ sizeLine ∧ Vals xs its.toList
def SqT (K : PySem.W.Frag) (H : Hp) (a : Addr) (xs : List V) : Prop :=
  Rd H a (.tup xs) ∨
    ∃ (o : Obj) (its : Array Value) (n : Nat), K.lookup a = some o ∧ o.cls = .type "tuple" ∧ o.data = .seq its n ∧ its.size ≤ sizeLine ∧ Vals xs its.toList
def absV : Value → Option V
  | .none => some .non
  | .bool b => some (.bl b)
  | .int i _ => some (.int i)
  | .str x _ => some (.str x)
  | .bytes b _ => some (.byt b)
  | .float b _ => some (.flt b)
  | .ref a => some (.ref a)
  | .type n => some (.ty n)
  | _ => none
theorem RelV.abs {x : V} {u : Value} (r : RelV x u) : absV u = some x := by
  cases x with
  | non => cases r; rfl
  | bl _ => cases r; rfl
  | int _ => obtain ⟨t, rfl⟩ := r; rfl
  | str _ => obtain ⟨t, rfl⟩ := r; rfl
  | byt _ => obtain ⟨t, rfl⟩ := r; rfl
  | flt _ => obtain ⟨t, rfl⟩ := r; rfl
  | ref _ => cases r; rfl
  | ty _ => cases r; rfl
theorem RelV.inj {x y : V} {u : Value} (r : RelV x u) (q : RelV y u) : x = y := Option.some.inj (r.abs.symm.trans q.abs)
theorem Vals.inj : ∀ {xs ys : List V} {us : List Value}, Vals xs us → Vals ys us → xs = ys
  | _, _, _, .nil, .nil => rfl
  | _, _, _, .cons r t, .cons r' t' => by rw [r.inj r', Vals.inj t t']
section
variable {X : Cx} {pins : List (Addr × Obj)} {σ : St} {H : Hp} {s : Shared} {a : Addr} {xs ys : List V}
theorem SqL.of {K : PySem.W.Frag} (h : H a = some (.lst xs)) : SqL K H a xs := .inl (.inl h)
theorem SqT.of {K : PySem.W.Frag} (h : H a = some (.tup xs)) : SqT K H a xs := .inl (.inl h)
theorem Inv.list (I : Inv X pins σ H s) (h : SqL X.K H a xs) : ∃ its : List Value, Vals xs its ∧ PlainL s.heap a its.toArray ∧ xs.length ≤ sizeLine := by
  rcases h with h | ⟨o, its, n, hk, hc, hd, hs, hz, r⟩
  · obtain ⟨z, its, n, r, e⟩ := h.ok I.hok
    exact ⟨its, r, ⟨_, n, e, rfl, rfl, rfl⟩, z⟩
  · refine ⟨its.toList, r, ⟨o, n, I.kIn a o hk, hc, hd, by simpa using hs⟩, ?_⟩
    have e := r.length
    simp only [Array.length_toList] at e
    omega
theorem Inv.tuple (I : Inv X pins σ H s) (h : SqT X.K H a xs) : ∃ its : List Value, Vals xs its ∧ IsTup s.heap a its.toArray ∧ xs.length ≤ sizeLine := by
  rcases h with h | ⟨o, its, n, hk, hc, hs, hz, r⟩
  · obtain ⟨z, its, r, p⟩ := h.ok I.hok
    exact ⟨its, r, p, z⟩
  · refine ⟨its.toList, r, ⟨o, I.kIn a o hk, hc, n, by simpa using hs⟩, ?_⟩
    have e := r.length
    simp only [Array.length_toList] at e
    omega
theorem Inv.list_inj (I : Inv X pins σ H s) (h : SqL X.K H a xs) (h' : SqL X.K H a ys) : xs = ys := by
  obtain ⟨its, r, ⟨o, n, e, _, _, d⟩, _⟩ := I.list h
  obtain ⟨its', r', ⟨o', n', e', _, _, d'⟩, _⟩ := I.list h'
  rw [e] at e'; cases e'
  rw [d] at d'
  injection d' with d1 _
  have : its = its' := by simpa using congrArg Array.toList d1
  subst this
  exact r.inj r'
theorem Inv.tuple_inj (I : Inv X pins σ H s) (h : SqT X.K H a xs) (h' : SqT X.K H a ys) : xs = ys := by
  obtain ⟨its, r, ⟨o, e, _, n, d⟩, _⟩ := I.tuple h
  obtain ⟨its', r', ⟨o', e', _, n', d'⟩, _⟩ := I.tuple h'
  rw [e] at e'; cases e'
  rw [d] at d'
  injection d' with d1 _
  have : its = its' := by simpa using congrArg Array.toList d1
  subst this
  exact r.inj r'
end
abbrev Cx.wish (X : Cx) (E : Value → Shared → Prop) : Cx := { X with xe := E }
abbrev Cx.nox (X : Cx) : Cx := X.wish fun _ _ => False
theorem Cx.Ok.wish {X : Cx} (ok : X.Ok) (E : Value → Shared → Prop) : (X.wish E).Ok :=
  ⟨ok.mod, ok.kind, ok.glob, ok.blt, ok.above, ok.inj, ok.has, ok.cab, ok.hd, ok.frames, ok.stk, ok.exf, ok.bs, ok.bsz, ok.noex, ok.exfs, ok.funs, ok.frf⟩
theorem Cx.Ok.unwish {X : Cx} {E : Value → Shared → Prop} (ok : (X.wish E).Ok) : X.Ok :=
  ⟨ok.mod, ok.kind, ok.glob, ok.blt, ok.above, ok.inj, ok.has, ok.cab, ok.hd, ok.frames, ok.stk, ok.exf, ok.bs, ok.bsz, ok.noex, ok.exfs, ok.funs, ok.frf⟩
section
variable {X : Cx} {pins : List (Addr × Obj)} {σ : St} {H : Hp} {s : Shared} {E : Value → Shared → Prop}
theorem Inv.wish (I : Inv X pins σ H s) (E : Value → Shared → Prop) : Inv (X.wish E) pins σ H s := ⟨I.ok.wish E, I.os, I.bare, I.base, I.loc, I.cell, I.free, I.freeC, I.pin, I.hok, I.len⟩
theorem Inv.unwish (I : Inv (X.wish E) pins σ H s) : Inv X pins σ H s := ⟨I.ok.unwish, I.os, I.bare, I.base, I.loc, I.cell, I.free, I.freeC, I.pin, I.hok, I.len⟩
theorem SP.unwish {D : Ends} {f : Flow} {s' : Shared} (h : SP (X.wish E) pins D f s') : SP X pins D f s' := by
  cases f with
  | next => obtain ⟨σ', H', I, q⟩ := h; exact ⟨σ', H', I.unwish, q⟩
  | brk => obtain ⟨σ', H', I, q⟩ := h; exact ⟨σ', H', I.unwish, q⟩
  | cont => obtain ⟨σ', H', I, q⟩ := h; exact ⟨σ', H', I.unwish, q⟩
  | ret u => obtain ⟨v, σ', H', I, r, q⟩ := h; exact ⟨v, σ', H', I.unwish, r, q⟩
theorem PE.nox {e : Expr} {t : TE} (h : PE X.nox e t) : PE X e t := fun pins s σ H Q I hw =>
  wpAny_mono (h pins s σ H Q (I.wish _) hw) (fun _ _ ⟨v, H', I', r, q⟩ => ⟨v, H', I'.unwish, r, q⟩) fun _ _ z => False.elim z
theorem PT.nox {e : Expr} {t : TT} (h : PT X.nox e t) : PT X e t := fun pins s σ H Q I hw =>
  wpAny_mono (h pins s σ H Q (I.wish _) hw) (fun _ _ ⟨H', I', q⟩ => ⟨H', I'.unwish, q⟩) fun _ _ z => False.elim z
theorem PSs.nox {st : List Stmt} {t : TS} (h : PSs X.nox st t) : PSs X st t := fun pins s σ H D I hw =>
  wpAny_mono (h pins s σ H D (I.wish _) hw) (fun _ _ q => q.unwish) fun _ _ z => False.elim z
end
section
variable {X : Cx} {st : Stmt} {rest : List Stmt} {t u : TS} {e : Expr} {te : TE} {pos : Pos}
def tNext : TS := fun D σ H => D.nx σ H
def tSeq (t u : TS) : TS := fun D σ H => t { D with nx := u D } σ H
theorem pss_nil : PSs X [] tNext := fun _ _ σ H _ I h => wpAny_execs_nil ⟨σ, H, I, h⟩
theorem pss_cons (h1 : PS X st t) (h2 : PSs X rest u) : PSs X (st :: rest) (tSeq t u) := by
  intro pins s σ H D I h
  refine wpAny_execs_cons (thn (h1 pins s σ H { D with nx := u D } I h) fun f s1 q => ?_)
  cases f with
  | next =>
    obtain ⟨σ', H', I', q⟩ := q
    exact h2 pins s1 σ' H' D I' q
  | ret v => exact q
  | brk => exact q
  | cont => exact q
theorem pss_one (h1 : PS X st t) : PSs X [st] t := by
  intro pins s σ H D I h
  refine wpAny_execs_cons (thn (h1 pins s σ H D I h) fun f s1 q => ?_)
  cases f with
  | next => exact wpAny_execs_nil q
  | ret v => exact q
  | brk => exact q
  | cont => exact q
theorem Inv.quiet {pins : List (Addr × Obj)} {σ : St} {H : Hp} {s : Shared} (I : Inv X pins σ H s) : interactive X.env = false := by simp [interactive, I.ok.kind]
def tDrop (te : TE) : TS := fun D σ H => te σ H fun _ H1 => D.nx σ H1
theorem ps_expr (he : PE X e te) (hs : swapsWith e none pos.line X.env = pure false := by rfl) : PS X (.Expr e pos) (tDrop te) := by
  intro pins s σ H D I h
  exact wpAny_Expr_any (thn (he pins s σ H _ I h) fun v s1 ⟨x, H1, I1, r1, q1⟩ => ⟨σ, H1, I1, q1⟩) I.quiet hs
def tRet (te : TE) : TS := fun D σ H => te σ H D.rt
theorem ps_ret (he : PE X e te) : PS X (.Return (some e) pos) (tRet te) := by
  intro pins s σ H D I h
  exact wpAny_Return_some (thn (he pins s σ H _ I h) fun v s1 ⟨x, H1, I1, r1, q1⟩ => ⟨x, σ, H1, I1, r1, q1⟩)
def tIfS (c : TT) (t u : TS) : TS := fun D σ H => c σ H fun b H1 => if b = true then t D σ H1 else u D σ H1
theorem ps_if {c : Expr} {a b : List Stmt} {tc : TT} (hc : PT X c tc) (ha : PSs X a t) (hb : PSs X b u) : PS X (.If c a b pos) (tIfS tc t u) := by
  intro pins s σ H D I h
  refine wpAny_If (thn (hc pins s σ H _ I h) fun d s1 ⟨H1, I1, q1⟩ => ?_)
  cases d with
  | true => exact ha pins s1 σ H1 D I1 q1
  | false => exact hb pins s1 σ H1 D I1 q1
def tNever : TS := fun _ _ _ => False
theorem ps_never : PS X st tNever := fun _ _ _ _ _ _ h => h.elim
end
abbrev TG := V → St → Hp → (St → Hp → Prop) → Prop
abbrev TGs := List V → St → Hp → (St → Hp → Prop) → Prop
def PG (X : Cx) (target : Expr) (t : TG) : Prop :=
  ∀ (pins : List (Addr × Obj)) (s : Shared) (σ : St) (H : Hp) (v : V) (u : Value) (Q : St → Hp → Prop), Inv X pins σ H s → RelV v u → t v σ H Q →
    wpAny (model X.prog X.w) X.A (assign target X.env u) (fun _ s' => ∃ σ' H', Inv X pins σ' H' s' ∧ Q σ' H') X.xe s
def PGs (X : Cx) (ts : List Expr) (t : TGs) : Prop :=
  ∀ (pins : List (Addr × Obj)) (s : Shared) (σ : St) (H : Hp) (vs : List V) (us : List Value) (Q : St → Hp → Prop), Inv X pins σ H s → Vals vs us → t vs σ H Q →
    wpAny (model X.prog X.w) X.A (assignInOrder ((assignEach ts X.env).map (·.2)) us) (fun _ s' => ∃ σ' H', Inv X pins σ' H' s' ∧ Q σ' H') X.xe s
abbrev TSet := V → V → V → Hp → (Hp → Prop) → Prop
def PSet (X : Cx) (t : TSet) : Prop :=
  ∀ (pins : List (Addr × Obj)) (s : Shared) (σ : St) (H : Hp) (o i v : V) (ov iv u : Value) (Q : Hp → Prop), Inv X pins σ H s → RelV o ov → RelV i iv → RelV v u → t o i v H Q →
    wpAny (model X.prog X.w) X.A (setItem ov iv u) (fun _ s' => ∃ H', Inv X pins σ H' s' ∧ Q H') X.xe s
abbrev TIp := V → V → Hp → VK → Prop
def PIp (X : Cx) (op : Operator) (t : TIp) : Prop :=
  ∀ (pins : List (Addr × Obj)) (s : Shared) (σ : St) (H : Hp) (x y : V) (v u : Value) (Q : VK), Inv X pins σ H s → RelV x v → RelV y u → t x y H Q →
    wpAny (model X.prog X.w) X.A (inplaceOp op v u) (EP X pins σ Q) X.xe s
section
variable {X : Cx} {pos : Pos}
def gName (i : Nat) : TG := fun v σ H Q => Q (σ.set i (some v)) H
theorem pg_name {i : Nat} {x : Str} (hN : X.N.Nodup) (hi : X.N[i]? = some x) (hx : Loc X.env.scope x) (hf : X.fn x = true ∨ X.env.scope.names.lookup x = some .local := by first | exact .inl rfl | exact .inr rfl | assumption) : PG X (.Name x pos) (gName i) := by
  intro pins s σ H v u Q I r h
  exact wpAny_assign_Name (store_ok I hN hi hx r (fun s' I' => ⟨_, H, I', h⟩) hf)
def gNil : TGs := fun vs σ H Q => vs = [] ∧ Q σ H
def gCons (t : TG) (u : TGs) : TGs := fun vs σ H Q => ∃ v r, vs = v :: r ∧ t v σ H fun σ' H' => u r σ' H' Q
theorem pgs_nil : PGs X [] gNil := by
  intro pins s σ H vs us Q I r h
  obtain ⟨e, h⟩ := h
  subst e
  cases r
  exact assignInOrder_nil ⟨σ, H, I, h⟩
theorem pgs_cons {e : Expr} {es : List Expr} {t : TG} {u : TGs} (h1 : PG X e t) (h2 : PGs X es u)
    (hs : (assignEach (e :: es) X.env).map (·.2) = assign e X.env :: (assignEach es X.env).map (·.2) := by rfl) : PGs X (e :: es) (gCons t u) := by
  intro pins s σ H vs us Q I r h
  obtain ⟨v, vr, e1, h⟩ := h
  subst e1
  cases r with
  | cons r rr =>
    rw [hs]
    refine assignInOrder_cons (thn (h1 pins s σ H _ _ _ I r h) fun _ s1 ⟨σ1, H1, I1, q1⟩ => ?_)
    exact h2 pins s1 σ1 H1 _ _ Q I1 rr q1
def gTup (K : PySem.W.Frag) (n : Nat) (t : TGs) : TG := fun v σ H Q => ∃ a xs, v = .ref a ∧ SqT K H a xs ∧ xs.length = n ∧ t xs σ H Q
theorem pg_tup {es : List Expr} {k : Nat} {t : TGs} {n : Nat} (hc : X.calm = true) (h : PGs X es t)
    (hn : (assignEach es X.env).length = n := by rfl) (hst : (assignEach es X.env).findIdx? (·.1) = none := by rfl) : PG X (.Tuple es k pos) (gTup X.K n t) := by
  intro pins s σ H v u Q I r hw
  obtain ⟨a, xs, e1, hq, hl, hw⟩ := hw
  subst e1
  cases r
  obtain ⟨its, rv, ht, hz⟩ := I.tuple hq
  refine assign_Tuple_tuple (I.ok.hd hc) ht (by simp [hn, ← hl, rv.length]) hst fun h' hx => ?_
  have I1 : Inv X pins σ H { s with heap := h' } := I.kept (t' := s.toks) fun b o e => hx b o (Nat.ne_of_lt (Heap.lt_size e)) e
  exact h pins _ σ H xs _ Q I1 (by simpa using rv) hw
def gSub (to ti : TE) (t : TSet) : TG := fun v σ H Q => to σ H fun o H1 => ti σ H1 fun i H2 => t o i v H2 fun H3 => Q σ H3
theorem pg_sub {o i : Expr} {to ti : TE} {t : TSet} (ho : PE X o to) (hi : PE X i ti) (hs : PSet X t)
    (ha : ∀ v, assign (.Subscript o i pos) X.env v = (do
      let ov ← holding [v] (eval o X.env)
      let iv ← holding [v, ov] (eval i X.env)
      standAt pos
      holding [v, ov, iv] (setItem ov iv v)
      release [v, ov, iv] []) := by intro _; rfl) : PG X (.Subscript o i pos) (gSub to ti t) := by
  intro pins s σ H v u Q I r h
  rw [ha]
  refine wpAny_bind (wpAny_holding (thn (ho pins s σ H _ I h) fun ov s1 ⟨x, H1, I1, r1, q1⟩ => ?_))
  refine wpAny_bind (wpAny_holding (thn (hi pins s1 σ H1 _ I1 q1) fun iv s2 ⟨y, H2, I2, r2, q2⟩ => ?_))
  refine wpAny_bind (wpAny_standAt (wpAny_bind (wpAny_holding (thn (hs pins s2 σ H2 x y v ov iv u _ I2 r1 r2 r q2) fun _ s3 ⟨H3, I3, q3⟩ => ?_))))
  exact wpAny_release ⟨σ, H3, I3, q3⟩
def tAsg (te : TE) (g : TG) : TS := fun D σ H => te σ H fun x H1 => g x σ H1 D.nx
theorem ps_asg {tg e : Expr} {te : TE} {g : TG} (he : PE X e te) (hg : PG X tg g) (hs : swapsWithSole [tg] e pos.line X.env = pure false := by rfl) (hw : swappedStores [tg] e X.env = pure none := by rfl)
    (h1 : (assignEach [tg] X.env).map (·.2) = [assign tg X.env] := by rfl) : PS X (.Assign [tg] e pos) (tAsg te g) := by
  intro pins s σ H D I h
  refine wpAny_Assign_stores (thn (he pins s σ H _ I h) fun v s1 ⟨x, H1, I1, r1, q1⟩ => ?_) hs hw
  rw [h1]
  exact thn (hg pins s1 σ H1 x v _ I1 r1 q1) fun _ s2 q => q
theorem ps_set {i : Nat} {x : Str} {e : Expr} {te : TE} {pos' : Pos} (hN : X.N.Nodup) (hi : X.N[i]? = some x) (hx : Loc X.env.scope x) (he : PE X e te) (hs : swapsWith e (some (.Name x pos')) pos.line X.env = pure false := by rfl) (hf : X.fn x = true ∨ X.env.scope.names.lookup x = some .local := by first | exact .inl rfl | exact .inr rfl | assumption) :
    PS X (.Assign [.Name x pos'] e pos) (tAsg te (gName i)) := by
  intro pins s σ H D I h
  refine wpAny_Assign_Name (thn (he pins s σ H _ I h) fun v s1 ⟨y, H1, I1, r1, q1⟩ => ?_) hs
  exact store_ok I1 hN hi hx r1 (fun s2 I2 => ⟨_, H1, I2, q1⟩) hf
def tAug (i : Nat) (te : TE) (ti : TIp) : TS := fun D σ H => ∃ x, σ[i]? = some (some x) ∧ te σ H fun y H1 => ti x y H1 fun z H2 => D.nx (σ.set i (some z)) H2
theorem ps_aug {i : Nat} {x : Str} {e : Expr} {te : TE} {op : Operator} {ti : TIp} {pos' : Pos} (hN : X.N.Nodup) (hi : X.N[i]? = some x) (hx : Loc X.env.scope x) (he : PE X e te) (ho : PIp X op ti) (hf : X.fn x = true ∨ X.env.scope.names.lookup x = some .local := by first | exact .inl rfl | exact .inr rfl | assumption) :
    PS X (.AugAssign (.Name x pos') op e pos) (tAug i te ti) := by
  intro pins s σ H D I h
  obtain ⟨v, e1, h⟩ := h
  obtain ⟨m, hn, hl⟩ := I.loc
  have vis : Vis X.env.scope x := by rcases hx with k | k; exact .inl k; exact .inr (.inl k)
  obtain ⟨u, r, l⟩ := hl i x v hi e1 vis
  refine wpAny_AugAssign_Name ?_
  have go : wpAny (model X.prog X.w) X.A (eval e X.env) (fun w s₂ => wpAny (model X.prog X.w) X.A (inplaceOp op u w) (fun r s₃ => wpAny (model X.prog X.w) X.A (storeName X.env x r) (fun _ => SP X pins D .next) X.xe s₃) X.xe s₂) X.xe s := by
    refine thn (he pins s σ H _ I h) fun w s1 ⟨y, H1, I1, r1, q1⟩ => ?_
    refine thn (ho pins s1 σ H1 v y u w _ I1 r r1 q1) fun z s2 ⟨zv, H2, I2, r2, q2⟩ => ?_
    exact store_ok I2 hN hi hx r2 (fun s3 I3 => ⟨_, H2, I3, q2⟩) hf
  rcases l with ⟨hk, hm⟩ | ⟨hk, c, hc, hcell⟩
  · exact wpAny_loadName_local I.ok.kind hk hn hm go
  · rcases hk with hk | hk
    · exact wpAny_loadName_cell I.ok.kind hk hc hcell go
    · rcases hx with k | k
      · have : X.env.scope.names.lookup x = some .free := hk
        rw [k] at this; cases this
      · have : X.env.scope.names.lookup x = some .free := hk
        rw [k] at this; cases this
def ipI (f : Int → Int → Int) : TIp := fun x y H Q => ∃ i j, x = .int i ∧ y = .int j ∧ Q (.int (f i j)) H
theorem ip_add : PIp X .Add (ipI fun i j => i + j) := by
  intro pins s σ H x y v u Q I r1 r2 h
  obtain ⟨i, j, e1, e2, q⟩ := h
  subst e1; subst e2
  obtain ⟨t, rfl⟩ := r1
  obtain ⟨t', rfl⟩ := r2
  exact iadd_int ⟨.int _, H, I.tok _, ⟨_, rfl⟩, q⟩
end
section
variable {X : Cx} {pos : Pos}
def tWhile (c : TT) (tb : TS) : TS := fun D σ H => ∃ W : Nat → St → Hp → Prop, (∃ m, W m σ H) ∧ ∀ m σ H, W m σ H →
  c σ H fun b H1 => if b = true then ∃ N : St → Hp → Prop, (∀ σ' H', N σ' H' → ∃ m', m' < m ∧ W m' σ' H') ∧ tb { D with nx := N, ct := N, bk := D.nx } σ H1 else D.nx σ H1
theorem ps_while {c : Expr} {body : List Stmt} {tc : TT} {tb : TS} (hp : PassesOwn (model X.prog X.w) X.A X.env X.xe) (hc : PT X c tc) (hb : PSs X body tb) : PS X (.While c body [] pos) (tWhile tc tb) := by
  intro pins s σ H D I h
  obtain ⟨W, ⟨m0, w0⟩, turn⟩ := h
  refine wpAny_While (codeAny_whileLoop (fun n s' => ∃ σ' H', Inv X pins σ' H' s' ∧ W n σ' H') ?_ m0 ⟨σ, H, I, w0⟩)
  rintro n s1 ⟨σ1, H1, I1, w1⟩
  refine wpAny_passesOwn hp (thn (hc pins s1 σ1 H1 _ I1 (turn n σ1 H1 w1)) fun b s2 ⟨H2, I2, q2⟩ => ?_)
  cases b with
  | true =>
    obtain ⟨N, hN, q2⟩ := q2
    rw [if_pos rfl]
    refine wpAny_passesOwn hp (thn (hb pins s2 σ1 H2 _ I2 q2) fun f s3 q3 => ?_)
    cases f with
    | next =>
      obtain ⟨σ3, H3, I3, n3⟩ := q3
      obtain ⟨m', hm, w3⟩ := hN σ3 H3 n3
      exact ⟨m', hm, σ3, H3, I3, w3⟩
    | cont =>
      obtain ⟨σ3, H3, I3, n3⟩ := q3
      obtain ⟨m', hm, w3⟩ := hN σ3 H3 n3
      exact ⟨m', hm, σ3, H3, I3, w3⟩
    | brk => exact q3
    | ret v => exact q3
  | false =>
    rw [if_neg Bool.false_ne_true]
    exact wpAny_execs_nil ⟨σ1, H2, I2, q2⟩
end
structure It where
  go : Nat → Hp → Prop
  yld : Nat → Hp → V → Hp → Prop
  stop : Nat → Hp → Prop
def FpOk (X : Cx) (pins : List (Addr × Obj)) (H : Hp) (b : Addr) : Prop :=
  H b = none ∧ b ≠ X.env.locals ∧ b ∉ X.fs ∧ (b ∈ X.ex ∨ X.s₀.heap.objs.size ≤ b) ∧ (∀ x c, X.env.cells.lookup x = some c → c ≠ b) ∧ ∀ p ∈ X.pn ++ pins, p.1 ≠ b
theorem Inv.fpOk {X : Cx} {pins : List (Addr × Obj)} {σ : St} {H H' : Hp} {s : Shared} {b : Addr} (I : Inv X pins σ H s) (hb : s.heap.objs.size ≤ b) (hn : H' b = none) : FpOk X pins H' b := by
  refine ⟨hn, Nat.ne_of_gt (Nat.lt_of_lt_of_le I.lt hb), I.nofs hb, .inr (Nat.le_trans I.sz hb), fun x c e z => ?_, fun p hp z => ?_⟩
  · obtain ⟨v, q⟩ := I.cell x c e
    exact absurd (Nat.lt_of_lt_of_le q.lt (by rw [z]; exact hb)) (Nat.lt_irrefl _)
  · exact absurd (Nat.lt_of_lt_of_le (Heap.lt_size (I.pin p hp).1) (by rw [z]; exact hb)) (Nat.lt_irrefl _)
structure Turn (P : Program) (w : World) (K : PySem.W.Frag) (tg : Expr) (J : It) (fp : List Addr) (it : Addr) (tn : Nat → Heap → Prop) : Prop where
  mem : it ∈ fp
  obj : ∀ i h, tn i h → ∀ b ∈ fp, ∃ o, h.get? b = some o ∧ ∀ v, o.data ≠ .cell v
  keep : ∀ i h h', tn i h → (∀ b ∈ fp, ∀ o, h.get? b = some o → h'.get? b = some o) → tn i h'
  item : ∀ (X : Cx), X.prog = P → X.w = w → X.K = K → X.calm = true → ∀ (i : Nat) (pins : List (Addr × Obj)) (s : Shared) (σ : St) (H : Hp) (E : Value → Shared → Prop), Inv X pins σ H s → (∀ b ∈ fp, FpOk X pins H b) → tn i s.heap → J.go i H →
    wpAny (model P w) X.A (pyNext (.ref it)) (fun r s1 => ∃ u, r = some u ∧
      wpAny (model P w) X.A (letOwnedTupleGo tg (.ref it) u) (fun _ s2 => ∃ x H', Inv X pins σ H' s2 ∧ RelV x u ∧ J.yld i H x H' ∧ tn (i + 1) s2.heap ∧ ∀ b ∈ fp, H' b = none) E s1) E s
  done : ∀ (X : Cx), X.prog = P → X.w = w → X.K = K → X.calm = true → ∀ (i : Nat) (pins : List (Addr × Obj)) (s : Shared) (σ : St) (H : Hp) (E : Value → Shared → Prop), Inv X pins σ H s → (∀ b ∈ fp, FpOk X pins H b) → tn i s.heap → J.stop i H →
    wpAny (model P w) X.A (pyNext (.ref it)) (fun r s1 => r = none ∧ Inv X pins σ H s1) E s
  self : ∀ (A : Around) (i : Nat) (s : Shared) (Q : Value → Shared → Prop) (E : Value → Shared → Prop), tn i s.heap → Q (.ref it) s → wpAny (model P w) A (pyIter (.ref it)) Q E s
abbrev TI := St → Hp → (It → Hp → Prop) → Prop
def PIE (X : Cx) (pins : List (Addr × Obj)) (σ : St) (tg : Expr) (R : It → Hp → Prop) (itv : Value) (s2 : Shared) : Prop :=
  ∃ (it : Addr) (fp : List Addr) (tn : Nat → Heap → Prop) (J : It) (H' : Hp), itv = .ref it ∧ Inv X pins σ H' s2 ∧ Turn X.prog X.w X.K tg J fp it tn ∧ tn 0 s2.heap ∧ (∀ b ∈ fp, FpOk X pins H' b) ∧ R J H'
def PI (X : Cx) (tg iter : Expr) (wi : TI) : Prop :=
  ∀ (pins : List (Addr × Obj)) (s : Shared) (σ : St) (H : Hp) (R : It → Hp → Prop), Inv X pins σ H s → wi σ H R →
    wpAny (model X.prog X.w) X.A (eval iter X.env) (fun v s1 => wpAny (model X.prog X.w) X.A (pyIter v) (PIE X pins σ tg R) X.xe s1) X.xe s
theorem go_of {M : Model} {A : Around} {E : Value → Shared → Prop} {s : Shared} {tg : Expr} {it : Addr} {u : Value} {o : Obj} {n : String} {vs : Array Value} {Q : Unit → Shared → Prop} (ho : s.heap.get? it = some o) (hc : o.cls = .type n) (hd : o.data = .fields vs)
    (hn : ["enumerate", "zip", "dict_itemiterator", "dict_reverseitemiterator", "odict_iterator", "itertools.zip_longest", "itertools.pairwise"].contains n = false) (hQ : Q () s) : wpAny M A (letOwnedTupleGo tg (.ref it) u) Q E s := by
  unfold letOwnedTupleGo
  cases tg <;> first
    | exact wpAny_pure hQ
    | (cases u <;> first
        | exact wpAny_pure hQ
        | (refine wpAny_bind (wpAny_load ho ?_)
           rw [hc, hd]
           show wpAny M A (if (["enumerate", "zip", "dict_itemiterator", "dict_reverseitemiterator", "odict_iterator", "itertools.zip_longest", "itertools.pairwise"].contains n && vs[0]? == some (rawInt _)) = true then _ else _) Q E s
           rw [if_neg (by intro h; rw [hn, Bool.false_and] at h; cases h)]
           exact wpAny_pure hQ))
def Itl (K : PySem.W.Frag) (a : Addr) : It :=
  ⟨fun i H => ∃ xs x, SqL K H a xs ∧ xs[i]? = some x, fun i H x H' => H' = H ∧ ∀ xs, SqL K H a xs → xs[i]? = some x, fun i H => ∃ xs, SqL K H a xs ∧ xs.length ≤ i⟩
def Itt (K : PySem.W.Frag) (a : Addr) : It :=
  ⟨fun i H => ∃ xs x, SqT K H a xs ∧ xs[i]? = some x, fun i H x H' => H' = H ∧ ∀ xs, SqT K H a xs → xs[i]? = some x, fun i H => ∃ xs, SqT K H a xs ∧ xs.length ≤ i⟩
def Itr (lo : Int) (n : Nat) : It := ⟨fun i _ => i < n, fun i H x H' => H' = H ∧ x = .int (lo + i), fun i _ => n ≤ i⟩
theorem turn_list {P : Program} {w : World} {K : PySem.W.Frag} {tg : Expr} (a it : Addr) : Turn P w K tg (Itl K a) [it] it (fun i h => h.IsListIter it a i) where
  mem := by simp
  obj := fun i h st b hb => by
    have e : b = it := by simpa using hb
    subst e
    obtain ⟨o, e, c, d⟩ := st
    exact ⟨o, e, fun v z => by rw [d] at z; cases z⟩
  keep := fun i h h' st k => st.at fun o e => k it (by simp) o e
  item := by
    intro X hP hw hK hc i pins s σ H E I hf st hg
    subst hP hw hK
    obtain ⟨xs, x, hq, hx⟩ := hg
    obtain ⟨its, rv, p, hz⟩ := I.list hq
    obtain ⟨u, hu, ru⟩ := rv.get hx
    obtain ⟨f0, f1, f2, f3, f4, f5⟩ := hf it (by simp)
    refine wpAny_pyNext_list_item st p.isList (x := u) (by simpa using hu) fun h' st' sb => ?_
    have I1 : Inv X pins σ H { s with heap := h' } := I.turned (t' := s.toks) (fun b o hb e => (sb.2 b hb).trans e) f0 f1 f3 f4 f5
    obtain ⟨o, e, c, d⟩ := id st'
    exact ⟨u, rfl, go_of (s := { s with heap := h' }) e c d (by decide) ⟨x, H, I1, ru, ⟨rfl, fun ys hy => by rw [I.list_inj hy hq]; exact hx⟩, st', fun b hb => (hf b hb).1⟩⟩
  done := by
    intro X hP hw hK hc i pins s σ H E I hf st hg
    subst hP hw hK
    obtain ⟨xs, hq, hx⟩ := hg
    obtain ⟨its, rv, p, hz⟩ := I.list hq
    obtain ⟨f0, f1, f2, f3, f4, f5⟩ := hf it (by simp)
    have hl := rv.length
    exact wpAny_pyNext_list_end (I.ok.hd hc) st p.isList (by simp; omega) fun h' eb => ⟨rfl, I.turned (t' := s.toks) (fun b o hb e => eb b o hb e) f0 f1 f3 f4 f5⟩
  self := fun _ _ _ _ _ st h => wpAny_pyIter_listiter st h
theorem turn_tuple {P : Program} {w : World} {K : PySem.W.Frag} {tg : Expr} (a it : Addr) : Turn P w K tg (Itt K a) [it] it (fun i h => h.IsTupleIter it a i) where
  mem := by simp
  obj := fun i h st b hb => by
    have e : b = it := by simpa using hb
    subst e
    obtain ⟨o, e, c, d⟩ := st
    exact ⟨o, e, fun v z => by rw [d] at z; cases z⟩
  keep := fun i h h' st k => st.at fun o e => k it (by simp) o e
  item := by
    intro X hP hw hK hc i pins s σ H E I hf st hg
    subst hP hw hK
    obtain ⟨xs, x, hq, hx⟩ := hg
    obtain ⟨its, rv, p, hz⟩ := I.tuple hq
    obtain ⟨u, hu, ru⟩ := rv.get hx
    obtain ⟨f0, f1, f2, f3, f4, f5⟩ := hf it (by simp)
    refine wpAny_pyNext_tuple_item st (show s.heap.IsTuple a its.toArray from p) (x := u) (by simpa using hu) fun h' st' sb => ?_
    have I1 : Inv X pins σ H { s with heap := h' } := I.turned (t' := s.toks) (fun b o hb e => (sb.2 b hb).trans e) f0 f1 f3 f4 f5
    obtain ⟨o, e, c, d⟩ := id st'
    exact ⟨u, rfl, go_of (s := { s with heap := h' }) e c d (by decide) ⟨x, H, I1, ru, ⟨rfl, fun ys hy => by rw [I.tuple_inj hy hq]; exact hx⟩, st', fun b hb => (hf b hb).1⟩⟩
  done := by
    intro X hP hw hK hc i pins s σ H E I hf st hg
    subst hP hw hK
    obtain ⟨xs, hq, hx⟩ := hg
    obtain ⟨its, rv, p, hz⟩ := I.tuple hq
    obtain ⟨f0, f1, f2, f3, f4, f5⟩ := hf it (by simp)
    have hl := rv.length
    exact wpAny_pyNext_tuple_end (I.ok.hd hc) st (show s.heap.IsTuple a its.toArray from p) (by simp; omega) fun h' eb => ⟨rfl, I.turned (t' := s.toks) (fun b o hb e => eb b o hb e) f0 f1 f3 f4 f5⟩
  self := fun _ _ _ _ _ st h => wpAny_pyIter_tupleiter st h
theorem turn_range {P : Program} {w : World} {K : PySem.W.Frag} {tg : Expr} (it : Addr) (lo : Int) (n : Nat) : Turn P w K tg (Itr lo n) [it] it (fun i h => IsRangeIter h it (lo + (i : Nat) * 1) ((n : Int) - (i : Nat)) 1) where
  mem := by simp
  obj := fun i h st b hb => by
    have e : b = it := by simpa using hb
    subst e
    exact ⟨_, st, fun v z => by
      have z' : Data.fields _ = Data.cell v := z
      cases z'⟩
  keep := fun i h h' st k => k it (by simp) _ st
  item := by
    intro X hP hw hK hc i pins s σ H E I hf st hg
    subst hP hw hK
    obtain ⟨f0, f1, f2, f3, f4, f5⟩ := hf it (by simp)
    have W := Walks.range (prog := X.prog) (w := X.w) (I.ok.hd hc) it lo 1 n
    refine W.item i s _ _ hg st fun v h' tk hv st' kk => ?_
    obtain ⟨t, rfl⟩ := hv
    have I1 : Inv X pins σ H { s with heap := h', toks := tk } := I.turned (fun b o hb e => kk b o (by simpa using hb) e) f0 f1 f3 f4 f5
    refine ⟨_, rfl, go_of (s := { s with heap := h', toks := tk }) (n := "range_iterator") st' rfl rfl (by decide) ⟨.int (lo + i), H, I1, ⟨t, ?_⟩, ⟨rfl, rfl⟩, st', fun b hb => (hf b hb).1⟩⟩
    rw [Int.mul_one]
  done := by
    intro X hP hw hK hc i pins s σ H E I hf st hg
    subst hP hw hK
    obtain ⟨f0, f1, f2, f3, f4, f5⟩ := hf it (by simp)
    exact wpAny_pyNext_range_end (I.ok.hd hc) st (by have : n ≤ i := hg; omega) fun h' eb => ⟨rfl, I.turned (t' := s.toks) (fun b o hb e => eb b o hb e) f0 f1 f3 f4 f5⟩
  self := fun _ _ _ _ _ st h => wpAny_pyIter_rangeiter st h
end L2
namespace L2
open PySem PySem.Spec PyProof.Rows
section
variable {X : Cx} {tg : Expr}
def iList (K : PySem.W.Frag) (tl : TE) : TI := fun σ H R => tl σ H fun x H1 => ∃ a, x = .ref a ∧ (∃ xs, SqL K H1 a xs) ∧ R (Itl K a) H1
theorem pi_list {l : Expr} {tl : TE} (hl : PE X l tl) : PI X tg l (iList X.K tl) := by
  intro pins s σ H R I h
  refine thn (hl pins s σ H _ I h) fun v s1 ⟨x, H1, I1, r1, q1⟩ => ?_
  obtain ⟨a, e, ⟨xs, hq⟩, q⟩ := q1
  subst e
  cases r1
  obtain ⟨its, rv, p, hz⟩ := I1.list hq
  refine wpAny_pyIter_list p.isList ?_
  refine ⟨s1.heap.objs.size, [s1.heap.objs.size], _, _, H1, rfl, I1.kept (t' := s1.toks) fun b o e => Heap.get?_push_of_some _ e, turn_list a _, ⟨_, Heap.get?_push_size _ rfl, rfl, rfl⟩, fun b hb => ?_, q⟩
  have e : b = s1.heap.objs.size := by simpa using hb
  subst e
  exact I1.fpOk (Nat.le_refl _) (I1.hok.fresh (Nat.le_refl _))
theorem range_it {pins : List (Addr × Obj)} {σ : St} {H : Hp} {s : Shared} {R : It → Hp → Prop} {E : Value → Shared → Prop} {lo hi : Int} {t u v : Tok} {tk : Nat} (I : Inv X pins σ H s) (h1 : -(2 ^ 62) ≤ lo) (h2 : lo < 2 ^ 62) (h3 : -(2 ^ 62) ≤ hi) (h4 : hi < 2 ^ 62)
    (q : R (Itr lo (hi - lo).toNat) H) : wpAny (model X.prog X.w) X.A (pyIter (.ref s.heap.objs.size)) (PIE X pins σ tg R) E { s with heap := s.heap.push { cls := .type "range", data := .fields #[.int lo t, .int hi u, .int 1 v] }, toks := tk } := by
  refine wpAny_pyIter_range (IsRange.new ..) (small_one h1 h2 h3 h4) ?_
  have I1 : Inv X pins σ H { s with heap := s.heap.push { cls := .type "range", data := .fields #[.int lo t, .int hi u, .int 1 v] }, toks := tk } := I.kept fun b o e => Heap.get?_push_of_some _ e
  refine ⟨(s.heap.push { cls := .type "range", data := .fields #[.int lo t, .int hi u, .int 1 v] }).objs.size, [(s.heap.push { cls := .type "range", data := .fields #[.int lo t, .int hi u, .int 1 v] }).objs.size], _, _, H, rfl,
    I1.kept (t' := tk) fun b o e => Heap.get?_push_of_some _ e, turn_range _ lo (hi - lo).toNat, ?_, fun b hb => ?_, q⟩
  · have e1 : lo + ((0 : Nat) : Int) * 1 = lo := by simp
    have e2 : (((hi - lo).toNat : Nat) : Int) - ((0 : Nat) : Int) = Builtin.Range.rangeSize lo hi 1 := by rw [rangeSize_one]; split <;> omega
    show IsRangeIter _ _ (lo + ((0 : Nat) : Int) * 1) ((((hi - lo).toNat : Nat) : Int) - ((0 : Nat) : Int)) 1
    rw [e1, e2]
    exact Heap.get?_push_size _ rfl
  · have e : b = (s.heap.push { cls := .type "range", data := .fields #[.int lo t, .int hi u, .int 1 v] }).objs.size := by simpa using hb
    subst e
    exact I1.fpOk (Nat.le_refl _) (I1.hok.fresh (Nat.le_refl _))
def iRng1 (ta : TA) : TI := fun σ H R => ta σ H fun vs H1 => ∃ j : Int, vs = [.int j] ∧ -(2 ^ 62) ≤ j ∧ j < 2 ^ 62 ∧ R (Itr 0 j.toNat) H1
def iRng2 (ta : TA) : TI := fun σ H R => ta σ H fun vs H1 => ∃ i j : Int, vs = [.int i, .int j] ∧ (-(2 ^ 62) ≤ i ∧ i < 2 ^ 62 ∧ -(2 ^ 62) ≤ j ∧ j < 2 ^ 62) ∧ R (Itr i (j - i).toNat) H1
theorem pi_range1 {a : Expr} {ta : TA} {p pos : Pos} (hg : Gl X "range") (hm : X.mg "range" = none) (ha : PA X [a] ta) (hs : starEach [a] X.env = [(false, eval a X.env)] := by rfl) : PI X tg (.Call (.Name "range" p) [a] [] pos) (iRng1 ta) := by
  intro pins s σ H R I h
  refine Call_ (ld_blt I hg hm boot_range (PyProof.Rows.callWith_type1 (thn (ha pos pins s σ H _ I h) fun us s1 ⟨vs, H1, I1, r1, q1⟩ => ?_) hs rfl))
  obtain ⟨j, e, q1, q2, q⟩ := q1
  subst e
  cases r1 with
  | cons r rr =>
    cases rr
    obtain ⟨t, rfl⟩ := r
    exact call_range_1 (range_it I1 (by omega) (by omega) q1 q2 (by simpa using q))
theorem pi_range2 {a b : Expr} {ta : TA} {p pos : Pos} (hg : Gl X "range") (hm : X.mg "range" = none) (ha : PA X [a, b] ta) (hs : starEach [a, b] X.env = [(false, eval a X.env), (false, eval b X.env)] := by rfl) (hs2 : starEach [b] X.env = [(false, eval b X.env)] := by rfl) :
    PI X tg (.Call (.Name "range" p) [a, b] [] pos) (iRng2 ta) := by
  intro pins s σ H R I h
  refine Call_ (ld_blt I hg hm boot_range (PyProof.Rows.callWith_type1 (thn (ha pos pins s σ H _ I h) fun us s1 ⟨vs, H1, I1, r1, q1⟩ => ?_) (by rw [hs, hs2]) (by rw [hs2]; rfl)))
  obtain ⟨i, j, e, ⟨q1, q2, q3, q4⟩, q⟩ := q1
  subst e
  cases r1 with
  | cons r rr =>
    cases rr with
    | cons r' rr =>
      cases rr
      obtain ⟨t, rfl⟩ := r
      obtain ⟨t', rfl⟩ := r'
      exact call_range_2 (range_it I1 q1 q2 q3 q4 q)
def tFor (wi : TI) (g : TG) (tb : TS) : TS := fun D σ H => wi σ H fun J H1 => ∃ W : Nat → Nat → St → Hp → Prop, (∃ m, W 0 m σ H1) ∧ ∀ i m σ H, W i m σ H →
  (J.stop i H ∧ D.nx σ H) ∨ (J.go i H ∧ ∃ N : St → Hp → Prop, (∀ σ' H', N σ' H' → ∃ m', m' < m ∧ W (i + 1) m' σ' H') ∧ ∀ x H', J.yld i H x H' → g x σ H' fun σ2 H2 => tb { D with nx := N, ct := N, bk := D.nx } σ2 H2)
def pinsAt (fp : List Addr) (h : Heap) : List (Addr × Obj) := fp.filterMap fun b => (h.get? b).map fun o => (b, o)
theorem mem_pinsAt {fp : List Addr} {h : Heap} {b : Addr} {o : Obj} (hb : b ∈ fp) (e : h.get? b = some o) : (b, o) ∈ pinsAt fp h := List.mem_filterMap.mpr ⟨b, hb, by rw [e]; rfl⟩
theorem of_pinsAt {fp : List Addr} {h : Heap} {p : Addr × Obj} (hp : p ∈ pinsAt fp h) : p.1 ∈ fp ∧ h.get? p.1 = some p.2 := by
  obtain ⟨b, hb, e⟩ := List.mem_filterMap.mp hp
  cases q : h.get? b with
  | none => rw [q] at e; cases e
  | some o =>
    rw [q] at e
    have e' : (b, o) = p := Option.some.inj e
    subst e'
    exact ⟨hb, q⟩
theorem Inv.pinned {pins : List (Addr × Obj)} {σ : St} {H : Hp} {s : Shared} {fp : List Addr} (I : Inv X pins σ H s) (hf : ∀ b ∈ fp, FpOk X pins H b) (ho : ∀ b ∈ fp, ∃ o, s.heap.get? b = some o ∧ ∀ v, o.data ≠ .cell v) : Inv X (pins ++ pinsAt fp s.heap) σ H s :=
  I.pins_of fun p hp => (List.mem_append.mp hp).elim (fun z => I.pin p (List.mem_append_right _ z)) fun z => by
    obtain ⟨hb, e⟩ := of_pinsAt z
    obtain ⟨f0, f1, f2, _⟩ := hf p.1 hb
    obtain ⟨o, e', d⟩ := ho p.1 hb
    rw [e] at e'; cases e'
    exact ⟨e, f0, f1, f2, d⟩
theorem Inv.unpinned {pins pl : List (Addr × Obj)} {σ : St} {H : Hp} {s : Shared} (I : Inv X (pins ++ pl) σ H s) : Inv X pins σ H s := I.pins_of fun p hp => I.pin p (List.mem_append_right _ (List.mem_append_left _ hp))
theorem ps_for {iter : Expr} {body : List Stmt} {wi : TI} {g : TG} {tb : TS} {pos : Pos} (hp : PassesOwn (model X.prog X.w) X.A X.env X.xe) (hc : X.calm = true) (hi : PI X tg iter wi) (hg : PG X tg g) (hb : PSs X body tb)
    (hs : ∀ x, foldedSetIterable iter X.env x = pure x := by intro _; rfl) : PS X (.For tg iter body [] pos) (tFor wi g tb) := by
  intro pins s σ H D I h
  refine wpAny_For (thn (hi pins s σ H _ I h) fun v s1 h1 => thn h1 fun itv s2 h2 => ?_) hs
  obtain ⟨it, fp, tn, J, H2, e, I2, T, st2, f2, W, ⟨m0, w0⟩, turn⟩ := h2
  subst e
  -- what stays true of the iterator's objects through the loop
  have stat : ∀ {H' : Hp}, (∀ b ∈ fp, H' b = none) → ∀ b ∈ fp, FpOk X pins H' b := fun hn b hb => ⟨hn b hb, (f2 b hb).2⟩
  refine codeAny_forLoop_any (fun n s' => ∃ i σ' H', Inv X pins σ' H' s' ∧ tn i s'.heap ∧ (∀ b ∈ fp, H' b = none) ∧ W i n σ' H') ?_ m0 ⟨0, σ, H2, I2, st2, fun b hb => (f2 b hb).1, w0⟩
  rintro n s3 ⟨i, σ3, H3, I3, st3, fr3, w3⟩
  rcases turn i n σ3 H3 w3 with ⟨stop, qn⟩ | ⟨go, N, hN, step⟩
  · refine wpAny_passesOwn hp (thn (T.done X rfl rfl rfl hc i pins s3 σ3 H3 X.xe I3 (stat fr3) st3 stop) fun r s4 ⟨hr, I4⟩ => ?_)
    subst hr
    exact wpAny_execs_nil ⟨σ3, H3, I4, qn⟩
  · refine wpAny_passesOwn hp (thn (T.item X rfl rfl rfl hc i pins s3 σ3 H3 X.xe I3 (stat fr3) st3 go) fun r s4 ⟨u, hr, h4⟩ => ?_)
    subst hr
    refine wpAny_passesOwn hp (thn h4 fun _ s5 ⟨x, H5, I5, r5, y5, st5, fr5⟩ => ?_)
    have I5' := I5.pinned (stat fr5) (T.obj _ _ st5)
    refine wpAny_passesOwn hp (thn (hg _ s5 σ3 H5 x u _ I5' r5 (step x H5 y5)) fun _ s6 ⟨σ6, H6, I6, q6⟩ => ?_)
    refine wpAny_passesOwn hp (thn (hb _ s6 σ6 H6 _ I6 q6) fun f s7 q7 => ?_)
    have again : ∀ {σ7 : St} {H7 : Hp}, Inv X (pins ++ pinsAt fp s5.heap) σ7 H7 s7 → N σ7 H7 → ∃ m, m < n ∧ ∃ i σ' H', Inv X pins σ' H' s7 ∧ tn i s7.heap ∧ (∀ b ∈ fp, H' b = none) ∧ W i m σ' H' := fun {σ7 H7} I7 n7 => by
      obtain ⟨m', hm, w7⟩ := hN σ7 H7 n7
      refine ⟨m', hm, i + 1, σ7, H7, I7.unpinned, T.keep _ _ _ st5 fun b hb o e => (I7.pin (b, o) (List.mem_append_right _ (List.mem_append_right _ (mem_pinsAt hb e)))).1, fun b hb => ?_, w7⟩
      obtain ⟨o, e, d⟩ := T.obj _ _ st5 b hb
      exact (I7.pin (b, o) (List.mem_append_right _ (List.mem_append_right _ (mem_pinsAt hb e)))).2.1
    cases f with
    | next => obtain ⟨σ7, H7, I7, n7⟩ := q7; exact again I7 n7
    | cont => obtain ⟨σ7, H7, I7, n7⟩ := q7; exact again I7 n7
    | brk => obtain ⟨σ7, H7, I7, q7⟩ := q7; exact ⟨σ7, H7, I7.unpinned, q7⟩
    | ret v => obtain ⟨x7, σ7, H7, I7, r7, q7⟩ := q7; exact ⟨x7, σ7, H7, I7.unpinned, r7, q7⟩
end
theorem for_list {K : PySem.W.Frag} {a : Addr} {xs : List V} {g : TG} {tb : TS} {D : Ends} {σ : St} {H : Hp} (Pv : Nat → St → Hp → Prop) (h0 : Pv 0 σ H) (hl : ∀ i σ H, i ≤ xs.length → Pv i σ H → SqL K H a xs)
    (hs : ∀ i x σ H, xs[i]? = some x → Pv i σ H → g x σ H fun σ2 H2 => tb { D with nx := Pv (i + 1), ct := Pv (i + 1), bk := D.nx } σ2 H2) (hd : ∀ σ H, Pv xs.length σ H → D.nx σ H) :
    ∃ W : Nat → Nat → St → Hp → Prop, (∃ m, W 0 m σ H) ∧ ∀ i m σ H, W i m σ H →
      ((Itl K a).stop i H ∧ D.nx σ H) ∨ ((Itl K a).go i H ∧ ∃ N : St → Hp → Prop, (∀ σ' H', N σ' H' → ∃ m', m' < m ∧ W (i + 1) m' σ' H') ∧ ∀ x H', (Itl K a).yld i H x H' → g x σ H' fun σ2 H2 => tb { D with nx := N, ct := N, bk := D.nx } σ2 H2) := by
  refine ⟨fun i m σ H => m = xs.length - i ∧ i ≤ xs.length ∧ Pv i σ H, ⟨xs.length, by simp, Nat.zero_le _, h0⟩, ?_⟩
  rintro i m σ H ⟨rfl, hi, p⟩
  have q := hl i σ H hi p
  by_cases hlt : i < xs.length
  · refine .inr ⟨⟨xs, xs[i], q, by simp [hlt]⟩, Pv (i + 1), fun σ' H' p' => ⟨xs.length - (i + 1), by omega, rfl, hlt, p'⟩, fun x H' y => ?_⟩
    obtain ⟨e, y⟩ := y
    subst e
    exact hs i x σ _ (y xs q) p
  · have e : i = xs.length := by omega
    subst e
    exact .inl ⟨⟨xs, q, Nat.le_refl _⟩, hd σ H p⟩
theorem for_range {lo : Int} {n : Nat} {g : TG} {tb : TS} {D : Ends} {σ : St} {H : Hp} (Pv : Nat → St → Hp → Prop) (h0 : Pv 0 σ H)
    (hs : ∀ i σ H, i < n → Pv i σ H → g (.int (lo + i)) σ H fun σ2 H2 => tb { D with nx := Pv (i + 1), ct := Pv (i + 1), bk := D.nx } σ2 H2) (hd : ∀ σ H, Pv n σ H → D.nx σ H) :
    ∃ W : Nat → Nat → St → Hp → Prop, (∃ m, W 0 m σ H) ∧ ∀ i m σ H, W i m σ H →
      ((Itr lo n).stop i H ∧ D.nx σ H) ∨ ((Itr lo n).go i H ∧ ∃ N : St → Hp → Prop, (∀ σ' H', N σ' H' → ∃ m', m' < m ∧ W (i + 1) m' σ' H') ∧ ∀ x H', (Itr lo n).yld i H x H' → g x σ H' fun σ2 H2 => tb { D with nx := N, ct := N, bk := D.nx } σ2 H2) := by
  refine ⟨fun i m σ H => m = n - i ∧ i ≤ n ∧ Pv i σ H, ⟨n, by simp, Nat.zero_le _, h0⟩, ?_⟩
  rintro i m σ H ⟨rfl, hi, p⟩
  by_cases hlt : i < n
  · refine .inr ⟨hlt, Pv (i + 1), fun σ' H' p' => ⟨n - (i + 1), by omega, rfl, hlt, p'⟩, fun x H' y => ?_⟩
    obtain ⟨e, y⟩ := y
    subst e y
    exact hs i σ _ hlt p
  · have e : i = n := by omega
    subst e
    exact .inl ⟨Nat.le_refl _, hd σ H p⟩
end L2
namespace L2
open PySem PySem.Spec PyProof.Rows
abbrev R2 := V → V → Hp → VK → Prop
def OpR (X : Cx) (f : Value → Value → Sem Value) (r : R2) : Prop :=
  ∀ (pins : List (Addr × Obj)) (s : Shared) (σ : St) (H : Hp) (x y : V) (v u : Value) (Q : VK), Inv X pins σ H s → RelV x v → RelV y u → r x y H Q →
    wpAny (model X.prog X.w) X.A (f v u) (EP X pins σ Q) X.xe s
def CallR (X : Cx) (f : Value) (r : List V → Hp → VK → Prop) : Prop :=
  ∀ (pins : List (Addr × Obj)) (s : Shared) (σ : St) (H : Hp) (xs : List V) (us : List Value) (Q : VK), Inv X pins σ H s → Vals xs us → r xs H Q →
    wpAny (model X.prog X.w) X.A (call f us) (EP X pins σ Q) X.xe s
def tOp (r : R2) (ta tb : TE) : TE := fun σ H Q => ta σ H fun x H1 => tb σ H1 fun y H2 => r x y H2 Q
def rI (C : Int → Int → Prop) (g : Int → Int → V) : R2 := fun x y H Q => ∃ i j, x = .int i ∧ y = .int j ∧ C i j ∧ Q (g i j) H
def rI0 (g : Int → Int → V) : R2 := fun x y H Q => ∃ i j, x = .int i ∧ y = .int j ∧ Q (g i j) H
section
variable {X : Cx} {a b c : Expr} {ta tb tc : TE} {pos : Pos}
theorem binT (ha : PE X a ta) (hb : PE X b tb) {pins : List (Addr × Obj)} {s : Shared} {σ : St} {H : Hp} {R : V → V → Hp → Prop} (I : Inv X pins σ H s)
    (h : ta σ H fun x H1 => tb σ H1 fun y H2 => R x y H2) {Q : Value → Shared → Prop} {f : Value → Value → Sem Value}
    (hf : ∀ v u s2 x y H2, Inv X pins σ H2 s2 → RelV x v → RelV y u → R x y H2 → wpAny (model X.prog X.w) X.A (f v u) Q X.xe s2) :
    wpAny (model X.prog X.w) X.A (eval a X.env) (fun v s₁ => wpAny (model X.prog X.w) X.A (eval b X.env) (fun u s₂ => wpAny (model X.prog X.w) X.A (f v u) Q X.xe s₂) X.xe s₁) X.xe s := by
  refine thn (ha pins s σ H _ I h) fun v s1 ⟨x, H1, I1, r1, q1⟩ => ?_
  refine thn (hb pins s1 σ H1 _ I1 q1) fun u s2 ⟨y, H2, I2, r2, q2⟩ => ?_
  exact hf v u s2 x y H2 I2 r1 r2 q2
theorem pe_op {op : Operator} {r : R2} (ho : OpR X (binaryOp op) r) (ha : PE X a ta) (hb : PE X b tb) : PE X (.BinOp a op b pos) (tOp r ta tb) := by
  intro pins s σ H Q I h
  exact wpAny_BinOp (binT ha hb I h fun v u s2 x y H2 I2 rx ry q => ho pins s2 σ H2 x y v u Q I2 rx ry q)
theorem opI {f : Value → Value → Sem Value} {C : Int → Int → Prop} {g : Int → Int → Int}
    (rule : ∀ (i j : Int) (t u : Tok) (s : Shared) (Q : Value → Shared → Prop) (E : Value → Shared → Prop), C i j → Q (.int (g i j) s.toks) { s with toks := s.toks + 1 } → wpAny (model X.prog X.w) X.A (f (.int i t) (.int j u)) Q E s) :
    OpR X f (rI C fun i j => .int (g i j)) := by
  intro pins s σ H x y v u Q I rx ry h
  obtain ⟨i, j, rfl, rfl, hc, q⟩ := h
  obtain ⟨t, rfl⟩ := rx
  obtain ⟨t', rfl⟩ := ry
  exact rule i j t t' s _ _ hc ⟨.int (g i j), H, I.tok _, ⟨_, rfl⟩, q⟩
theorem opI0 {f : Value → Value → Sem Value} {g : Int → Int → Int}
    (rule : ∀ (i j : Int) (t u : Tok) (s : Shared) (Q : Value → Shared → Prop) (E : Value → Shared → Prop), Q (.int (g i j) s.toks) { s with toks := s.toks + 1 } → wpAny (model X.prog X.w) X.A (f (.int i t) (.int j u)) Q E s) :
    OpR X f (rI0 fun i j => .int (g i j)) := by
  intro pins s σ H x y v u Q I rx ry h
  obtain ⟨i, j, rfl, rfl, q⟩ := h
  obtain ⟨t, rfl⟩ := rx
  obtain ⟨t', rfl⟩ := ry
  exact rule i j t t' s _ _ ⟨.int (g i j), H, I.tok _, ⟨_, rfl⟩, q⟩
theorem opB0 {f : Value → Value → Sem Value} {g : Int → Int → Bool}
    (rule : ∀ (i j : Int) (t u : Tok) (s : Shared) (Q : Value → Shared → Prop) (E : Value → Shared → Prop), Q (.bool (g i j)) s → wpAny (model X.prog X.w) X.A (f (.int i t) (.int j u)) Q E s) :
    OpR X f (rI0 fun i j => .bl (g i j)) := by
  intro pins s σ H x y v u Q I rx ry h
  obtain ⟨i, j, rfl, rfl, q⟩ := h
  obtain ⟨t, rfl⟩ := rx
  obtain ⟨t', rfl⟩ := ry
  exact rule i j t t' s _ _ ⟨.bl (g i j), H, I, rfl, q⟩
def CDiv (i j : Int) : Prop := 0 < j ∧ j < 1073741824
def CMul (i j : Int) : Prop := (-(2 ^ 64) < i ∧ i < 2 ^ 64) ∨ (-(2 ^ 64) < j ∧ j < 2 ^ 64)
theorem CMul.ok {i j : Int} (h : CMul i j) : IntMulOk i j := by
  rcases h with ⟨h1, h2⟩ | ⟨h1, h2⟩
  · exact .of_left (intBits_le_64 h1 h2)
  · exact .of_right (intBits_le_64 h1 h2)
theorem op_add : OpR X (binaryOp .Add) (rI0 fun i j => .int (i + j)) := opI0 fun _ _ _ _ _ _ _ q => add_int q
theorem op_sub : OpR X (binaryOp .Sub) (rI0 fun i j => .int (i - j)) := opI0 fun _ _ _ _ _ _ _ q => sub_int q
theorem op_mul : OpR X (binaryOp .Mult) (rI CMul fun i j => .int (i * j)) := opI fun _ _ _ _ _ _ _ hc q => mul_int q hc.ok
theorem op_fdiv : OpR X (binaryOp .FloorDiv) (rI CDiv fun i j => .int (i / j)) := opI fun i j _ _ _ _ _ hc q => by
  have h1 : (0 : Int) < j := hc.1
  have h2 : j < 1073741824 := hc.2
  exact floordiv_int (by omega) (by rw [Int.fdiv_eq_ediv_of_nonneg i (by omega)]; exact q) (.inl (PyProof.noPylong_small (by omega)))
theorem op_mod : OpR X (binaryOp .Mod) (rI (fun _ j => 0 < j) fun i j => .int (i % j)) := opI fun i j _ _ _ _ _ hc q => by
  have h1 : (0 : Int) < j := hc
  exact mod_int' (by omega) (by rw [Int.fmod_eq_emod_of_nonneg i (by omega)]; exact q)
end
def scal : V → V → Bool
  | .non, .non => true | .non, .int _ => true | .int _, .non => true | .non, .bl _ => true | .bl _, .non => true | .non, .str _ => true | .str _, .non => true
  | .int _, .int _ => true | .bl _, .bl _ => true | .str _, .str _ => true | .byt _, .byt _ => true
  | .int _, .str _ => true | .str _, .int _ => true | .bl _, .str _ => true | .str _, .bl _ => true
  | _, _ => false
def rEq : R2 := fun x y H Q => scal x y = true ∧ Q (.bl (decide (x = y))) H
def rNe : R2 := fun x y H Q => scal x y = true ∧ Q (.bl (!decide (x = y))) H
theorem dec_int {i j : Int} : decide (V.int i = V.int j) = (i == j) := by
  rw [Bool.eq_iff_iff]
  simp
theorem dec_bl {i j : Bool} : decide (V.bl i = V.bl j) = (i == j) := by
  rw [Bool.eq_iff_iff]
  simp
theorem dec_str {i j : Str} : decide (V.str i = V.str j) = (i == j) := by
  rw [Bool.eq_iff_iff]
  simp
theorem dec_byt {i j : Array UInt8} : decide (V.byt i = V.byt j) = (i.toList == j.toList) := by
  rw [Bool.eq_iff_iff]
  cases i
  cases j
  simp
section
variable {X : Cx} {a b c : Expr} {ta tb tc : TE} {pos : Pos}
theorem fin_bl {pins : List (Addr × Obj)} {σ : St} {H : Hp} {s : Shared} {Q : VK} {k k' : Bool} (I : Inv X pins σ H s) (q : Q (.bl k) H) (e : k = k') : EP X pins σ Q (.bool k') s := by
  subst e
  exact ⟨.bl k, H, I, rfl, q⟩
theorem op_eq : OpR X (compareOp .Eq) rEq := by
  intro pins s σ H x y v u Q I rx ry h
  obtain ⟨hs, q⟩ := h
  cases x with
  | non =>
    cases rx
    cases y with
    | non => cases ry; exact PySem.EqNone.eq_none_none (fin_bl I q (by simp))
    | bl j => cases ry; exact PySem.EqNone.eq_none_bool (fin_bl I q (by simp))
    | int j => obtain ⟨t', rfl⟩ := ry; exact PySem.EqNone.eq_none_int (fin_bl I q (by simp))
    | str j => obtain ⟨t', rfl⟩ := ry; exact PySem.EqNone.eq_none_str (fin_bl I q (by simp))
    | _ => exact absurd (show false = true from hs) Bool.false_ne_true
  | bl i =>
    cases rx
    cases y with
    | non => cases ry; exact PySem.EqNone.eq_bool_none (fin_bl I q (by simp))
    | bl j => cases ry; exact eq_bool (fin_bl I q dec_bl)
    | str j => obtain ⟨t', rfl⟩ := ry; exact PySem.EqMixed.eq_bool_str (fin_bl I q (by simp))
    | _ => exact absurd (show false = true from hs) Bool.false_ne_true
  | int i =>
    obtain ⟨t, rfl⟩ := rx
    cases y with
    | non => cases ry; exact PySem.EqNone.eq_int_none (fin_bl I q (by simp))
    | int j => obtain ⟨t', rfl⟩ := ry; exact eq_int (fin_bl I q dec_int)
    | str j => obtain ⟨t', rfl⟩ := ry; exact PySem.EqMixed.eq_int_str (fin_bl I q (by simp))
    | _ => exact absurd (show false = true from hs) Bool.false_ne_true
  | str i =>
    obtain ⟨t, rfl⟩ := rx
    cases y with
    | non => cases ry; exact PySem.EqNone.eq_str_none (fin_bl I q (by simp))
    | bl j => cases ry; exact PySem.EqMixed.eq_str_bool (fin_bl I q (by simp))
    | int j => obtain ⟨t', rfl⟩ := ry; exact PySem.EqMixed.eq_str_int (fin_bl I q (by simp))
    | str j => obtain ⟨t', rfl⟩ := ry; exact eq_str (fin_bl I q dec_str)
    | _ => exact absurd (show false = true from hs) Bool.false_ne_true
  | byt i =>
    obtain ⟨t, rfl⟩ := rx
    cases y with
    | byt j => obtain ⟨t', rfl⟩ := ry; exact PySem.W.eq_bytes (fin_bl I q dec_byt)
    | _ => exact absurd (show false = true from hs) Bool.false_ne_true
  | _ => cases y <;> exact absurd (show false = true from hs) Bool.false_ne_true
theorem op_ne : OpR X (compareOp .NotEq) rNe := by
  intro pins s σ H x y v u Q I rx ry h
  obtain ⟨hs, q⟩ := h
  cases x with
  | non =>
    cases rx
    cases y with
    | non => cases ry; exact PySem.EqNone.ne_none_none (fin_bl I q (by simp))
    | bl j => cases ry; exact PySem.EqNone.ne_none_bool (fin_bl I q (by simp))
    | int j => obtain ⟨t', rfl⟩ := ry; exact PySem.EqNone.ne_none_int (fin_bl I q (by simp))
    | str j => obtain ⟨t', rfl⟩ := ry; exact PySem.EqNone.ne_none_str (fin_bl I q (by simp))
    | _ => exact absurd (show false = true from hs) Bool.false_ne_true
  | bl i =>
    cases rx
    cases y with
    | non => cases ry; exact PySem.EqNone.ne_bool_none (fin_bl I q (by simp))
    | bl j => cases ry; exact ne_bool (fin_bl I q (congrArg not dec_bl))
    | str j => obtain ⟨t', rfl⟩ := ry; exact PySem.EqMixed.ne_bool_str (fin_bl I q (by simp))
    | _ => exact absurd (show false = true from hs) Bool.false_ne_true
  | int i =>
    obtain ⟨t, rfl⟩ := rx
    cases y with
    | non => cases ry; exact PySem.EqNone.ne_int_none (fin_bl I q (by simp))
    | int j => obtain ⟨t', rfl⟩ := ry; exact ne_int (fin_bl I q (congrArg not dec_int))
    | str j => obtain ⟨t', rfl⟩ := ry; exact PySem.EqMixed.ne_int_str (fin_bl I q (by simp))
    | _ => exact absurd (show false = true from hs) Bool.false_ne_true
  | str i =>
    obtain ⟨t, rfl⟩ := rx
    cases y with
    | non => cases ry; exact PySem.EqNone.ne_str_none (fin_bl I q (by simp))
    | bl j => cases ry; exact PySem.EqMixed.ne_str_bool (fin_bl I q (by simp))
    | int j => obtain ⟨t', rfl⟩ := ry; exact PySem.EqMixed.ne_str_int (fin_bl I q (by simp))
    | str j => obtain ⟨t', rfl⟩ := ry; exact ne_str (fin_bl I q (congrArg not dec_str))
    | _ => exact absurd (show false = true from hs) Bool.false_ne_true
  | byt i =>
    obtain ⟨t, rfl⟩ := rx
    cases y with
    | byt j => obtain ⟨t', rfl⟩ := ry; exact PySem.W.ne_bytes (fin_bl I q (congrArg not dec_byt))
    | _ => exact absurd (show false = true from hs) Bool.false_ne_true
  | _ => cases y <;> exact absurd (show false = true from hs) Bool.false_ne_true
theorem op_lt : OpR X (compareOp .Lt) (rI0 fun i j => .bl (decide (i < j))) := opB0 fun _ _ _ _ _ _ _ q => lt_int q
theorem op_le : OpR X (compareOp .LtE) (rI0 fun i j => .bl (decide (i ≤ j))) := opB0 fun _ _ _ _ _ _ _ q => le_int q
theorem op_gt : OpR X (compareOp .Gt) (rI0 fun i j => .bl (decide (j < i))) := opB0 fun _ _ _ _ _ _ _ q => gt_int q
theorem op_ge : OpR X (compareOp .GtE) (rI0 fun i j => .bl (decide (j ≤ i))) := opB0 fun _ _ _ _ _ _ _ q => ge_int q
theorem nomark (b : Expr) {op : CmpOp} (h : op ≠ .In := by decide) (h2 : op ≠ .NotIn := by decide) : behindInMarks op b = false := by
  have e1 : (op == CmpOp.In) = false := by cases op <;> first | rfl | exact absurd rfl h
  have e2 : (op == CmpOp.NotIn) = false := by cases op <;> first | rfl | exact absurd rfl h2
  cases b <;> simp [behindInMarks, e1, e2]
theorem pe_cmpR {op : CmpOp} {r : R2} (ho : OpR X (compareOp op) r) (ha : PE X a ta) (hb : PE X b tb) (hm : behindInMarks op b = false) : PE X (.Compare a [op] [b] pos) (tOp r ta tb) := by
  intro pins s σ H Q I h
  exact wpAny_Compare1 (binT ha hb I h fun v u s2 x y H2 I2 rx ry q => ho pins s2 σ H2 x y v u Q I2 rx ry q) hm
def tTest (t : TE) : TT := fun σ H Q => t σ H fun x H' => ∃ k, x = .bl k ∧ Q k H'
theorem pt_cmpR {op : CmpOp} {r : R2} (ho : OpR X (compareOp op) r) (ha : PE X a ta) (hb : PE X b tb) (hm : behindInMarks op b = false) : PT X (.Compare a [op] [b] pos) (tTest (tOp r ta tb)) := by
  intro pins s σ H Q I h
  refine wpAny_isTrue_Compare1 (thn (ha pins s σ H _ I h) fun v s1 ⟨x, H1, I1, r1, q1⟩ => thn (hb pins s1 σ H1 _ I1 q1) fun u s2 ⟨y, H2, I2, r2, q2⟩ =>
    thn (ho pins s2 σ H2 x y v u _ I2 r1 r2 q2) fun c s3 ⟨z, H3, I3, r3, k, e, q3⟩ => ?_) hm
  subst e
  cases r3
  exact wpAny_truthy_bool ⟨H3, I3, q3⟩
def tChain (r r' : R2) (ta tb tc : TE) : TE := fun σ H Q => ta σ H fun x H1 => tb σ H1 fun y H2 => r x y H2 fun z H3 => ∃ k, z = .bl k ∧
  (if k = true then tc σ H3 fun w' H4 => r' y w' H4 Q else Q (.bl false) H3)
theorem pe_chain {op op' : CmpOp} {r r' : R2} (ho : OpR X (compareOp op) r) (ho' : OpR X (compareOp op') r') (ha : PE X a ta) (hb : PE X b tb) (hc : PE X c tc)
    (hm : lastMarks [op, op'] [b, c] = false := by with_unfolding_all rfl) : PE X (.Compare a [op, op'] [b, c] pos) (tChain r r' ta tb tc) := by
  intro pins s σ H Q I h
  refine Compare_chain (thn (ha pins s σ H _ I h) fun v s1 ⟨x, H1, I1, r1, q1⟩ => chain_link (thn (hb pins s1 σ H1 _ I1 q1) fun u s2 ⟨y, H2, I2, r2, q2⟩ =>
    thn (ho pins s2 σ H2 x y v u _ I2 r1 r2 q2) fun d s3 ⟨z, H3, I3, r3, k, e, q3⟩ => ?_)) hm
  subst e
  cases r3
  refine wpAny_truthy_bool ?_
  cases k with
  | false => exact ite_ff ⟨.bl false, H3, I3, rfl, q3⟩
  | true => exact ite_tt (chain_last (thn (hc pins s3 σ H3 _ I3 q3) fun w' s4 ⟨z', H4, I4, r4, q4⟩ => ho' pins s4 σ H4 y z' u w' Q I4 r2 r4 q4))
theorem line63 : (sizeLine : Nat) < 2 ^ 63 := by rw [sizeLine_eq]; decide
theorem vals1 {x : V} {us : List Value} (r : Vals [x] us) : ∃ u, us = [u] ∧ RelV x u := by
  cases r with
  | cons r1 r2 => cases r2; exact ⟨_, rfl, r1⟩
theorem vals2 {x y : V} {us : List Value} (r : Vals [x, y] us) : ∃ u w', us = [u, w'] ∧ RelV x u ∧ RelV y w' := by
  cases r with
  | cons r1 r2 =>
    cases r2 with
    | cons r3 r4 => cases r4; exact ⟨_, _, rfl, r1, r3⟩
theorem call_max2 (hc : X.calm = true) : CallR X (.builtin "max") (fun xs H Q => ∃ i j, xs = [.int i, .int j] ∧ Q (.int (if j > i then j else i)) H) := by
  intro pins s σ H xs us Q I r h
  obtain ⟨i, j, rfl, q⟩ := h
  obtain ⟨u, w', rfl, ⟨t, rfl⟩, ⟨t', rfl⟩⟩ := vals2 r
  refine max_two_ints (I.ok.hd hc) fun h' tk k => ⟨_, H, I.kept k, ?_, q⟩
  by_cases hj : j > i
  · rw [if_pos hj, if_pos hj]; exact ⟨_, rfl⟩
  · rw [if_neg hj, if_neg hj]; exact ⟨_, rfl⟩
theorem call_int1 : CallR X (.type "int") (fun xs H Q => (∃ i, xs = [.int i] ∧ Q (.int i) H) ∨ ∃ k, xs = [.bl k] ∧ Q (.int (if k then 1 else 0)) H) := by
  intro pins s σ H xs us Q I r h
  rcases h with ⟨i, rfl, q⟩ | ⟨k, rfl, q⟩
  · obtain ⟨u, rfl, t, rfl⟩ := vals1 r
    exact call_int_int ⟨.int i, H, I, ⟨_, rfl⟩, q⟩
  · obtain ⟨u, rfl, r1⟩ := vals1 r
    cases r1
    exact call_int_bool ⟨.int (if k then 1 else 0), H, I.tok _, ⟨_, rfl⟩, q⟩
end
end L2
namespace L2
open PySem PySem.Spec PyProof.Rows
structure ObjM (h : Heap) (x dx C : Addr) (mA : Str → Option Value) : Prop where
  obj : h.get? x = some (PySem.W.instObj C dx)
  ns : h.Ns1 dx mA
  ne : dx ≠ x
theorem lookIn_ns {h : Heap} {dx : Addr} {mA : Str → Option Value} (n : h.Ns1 dx mA) : ∃ od, h.get? dx = some od ∧ ∀ name, PySem.W.lookIn name od = some (mA name) := by
  obtain ⟨o, es, ep, ho, hd, hk, _, hm⟩ := n
  refine ⟨o, ho, fun name => ?_⟩
  have e := hm name
  unfold nsFind findBy at e
  rw [← Array.find?_toList] at e
  unfold PySem.W.lookIn
  rw [hd]
  dsimp only
  split
  · rename_i y q
    rw [q] at e
    exact congrArg some e
  · rename_i q
    rw [q] at e
    have a : es.toList.any (·.refKey) = false := by
      rw [List.any_eq_false]
      intro y hy
      obtain ⟨z, t, hkey⟩ := hk y (Array.mem_toList_iff.mp hy)
      simp [DictEntry.refKey, hkey]
    have a' : ¬ es.toList.any (·.refKey) = true := by rw [a]; exact Bool.false_ne_true
    rw [if_neg a']
    exact congrArg some e
theorem ObjM.look {h : Heap} {x dx C : Addr} {mA : Str → Option Value} (I : ObjM h x dx C mA) : ∃ od, PySem.W.InstAt h x (PySem.W.instObj C dx) C (some od) ∧ ∀ name, PySem.W.lookIn name od = some (mA name) :=
  let ⟨od, ho, hl⟩ := lookIn_ns I.ns
  ⟨od, ⟨I.obj, rfl, rfl, ho⟩, hl⟩
section
variable {prog : Program} {w : World} {A : Around} {E : Value → Shared → Prop} {s : Shared} {K : PySem.W.Frag} {x dx C f : Addr} {mA : Str → Option Value} {name : Str} {v : Value}
end
theorem RelO.some_of {v : V} {o : Option Value} (r : RelO (some v) o) : ∃ u, o = some u ∧ RelV v u := by
  cases o with
  | none => exact (show False from r).elim
  | some u => exact ⟨u, rfl, r⟩
section
variable {P : Program} {w : World} {H H' : Hp} {h h' : Heap} {a C dx : Addr} {fs fs' : List (Str × V)}
theorem ins_get (hok : HOk P w H h) (e : H a = some (.ins C dx fs)) : ∃ mA, ObjM h a dx C mA ∧ (∀ f, RelO (fs.lookup f) (mA f)) ∧ PySem.Within mA (fs.map (·.1)) ∧ fs.length ≤ 1000 ∧ H dx = some (.own a) := by
  obtain ⟨d, z, ne, ob, mA, n, r, q⟩ := (show ObjOk P w H h a (.ins C dx fs) from hok a _ e)
  exact ⟨mA, ⟨ob, n, ne⟩, r, q, z, d⟩
end
structure Cls (K : PySem.W.Frag) (C : Addr) : Prop where
  pg : PySem.W.plainGet K C Str.empty = true
  hd : PySem.W.hasDictIn K C = true
  po : PySem.W.plainOver K C = true
  sa : PySem.W.findIn K (.ref C) "__setattr__" = some (some (.builtin "object.__setattr__"))
theorem Cls.get {K : PySem.W.Frag} {C : Addr} (c : Cls K C) (f : Str) : PySem.W.plainGet K C f = true := c.pg
structure Con (K : PySem.W.Frag) (C : Addr) (f : Str) (v : V) (u : Value) : Prop where
  at_ : PySem.W.findIn K (.ref C) f = some (some u)
  rel : RelV v u
  get : PySem.W.specialIn K u "__get__" = some none
  cp : PySem.W.copiedNames.contains f = false
structure Meth (K : PySem.W.Frag) (C : Addr) (m : Str) (f : Addr) : Prop where
  at_ : PySem.W.findIn K (.ref C) m = some (some (.ref f))
  fn : PySem.W.isFn K (.ref f) = true
  kp : PySem.W.keepIn K (.ref f) = true
section
variable {X : Cx} {pins : List (Addr × Obj)} {σ : St} {H : Hp} {s : Shared} {a C dx : Addr} {fs : List (Str × V)} {f : Str} {v : V} {A : Around} {E : Value → Shared → Prop}
theorem Inv.made (I : Inv X pins σ H s) : Inv X pins σ (upd (upd H s.heap.objs.size (.own (s.heap.objs.size + 1))) (s.heap.objs.size + 1) (.ins C s.heap.objs.size []))
    { s with heap := (s.heap.push PySem.W.emptyDict).push (PySem.W.instObj C s.heap.objs.size) } := by
  have e1 : (s.heap.push PySem.W.emptyDict).get? s.heap.objs.size = some PySem.W.emptyDict := Heap.get?_push_size s.heap rfl
  have e2 : ((s.heap.push PySem.W.emptyDict).push (PySem.W.instObj C s.heap.objs.size)).get? (s.heap.objs.size + 1) = some (PySem.W.instObj C s.heap.objs.size) := by
    have := Heap.get?_push_size (s.heap.push PySem.W.emptyDict) (o := PySem.W.instObj C s.heap.objs.size) rfl
    rwa [Heap.size_push] at this
  have e3 : (s.heap.push PySem.W.emptyDict).Ns s.heap.objs.size (fun _ => none) := ⟨PySem.W.emptyDict, #[], _, e1, rfl, (fun e he => absurd he (by simp)), fun _ => rfl⟩
  have I1 := I.laid (a := s.heap.objs.size) (o := .own (s.heap.objs.size + 1)) (h' := s.heap.push PySem.W.emptyDict) (t' := s.toks) (fun b u q => Heap.get?_push_of_some _ q) (Nat.le_refl _) ⟨_, e1⟩
  refine I1.laid (a := s.heap.objs.size + 1) (o := .ins C s.heap.objs.size []) (t' := s.toks) (fun b u q => Heap.get?_push_of_some _ q) (Nat.le_of_eq (Heap.size_push _ _)) ?_
  have ne : s.heap.objs.size ≠ s.heap.objs.size + 1 := Nat.ne_of_lt (Nat.lt_succ_self _)
  refine ⟨by rw [upd_ne ne, upd_same], Nat.zero_le _, ne, e2, fun _ => none, (Heap.Ns1.of_empty e3).at fun o q => Heap.get?_push_of_some _ q, fun _ => True.intro, fun y hy => absurd rfl hy⟩
end
section
variable {X : Cx} {o e value : Expr} {f : Str} {pos pos' tpos : Pos} {ta tv : TE}
end
section
variable {X : Cx} {pins : List (Addr × Obj)} {σ : St} {H : Hp} {s : Shared} {A : Around} {E : Value → Shared → Prop} {Q : Value → Shared → Prop} {c : Value} {b : Bool}
inductive TyOf (K : PySem.W.Frag) (H : Hp) : V → Value → Prop where
  | non : TyOf K H .non (.type "NoneType")
  | bl (x : Bool) : TyOf K H (.bl x) (.type "bool")
  | int (i : Int) : TyOf K H (.int i) (.type "int")
  | str (x : Str) : TyOf K H (.str x) (.type "str")
  | flt (x : UInt64) : TyOf K H (.flt x) (.type "float")
  | lst {a : Addr} {xs : List V} (e : H a = some (.lst xs)) : TyOf K H (.ref a) (.type "list")
  | frz {a : Addr} {o : Obj} {xs : List V} (e : H a = some (.frz o (.lst xs))) : TyOf K H (.ref a) (.type "list")
  | tup {a : Addr} {xs : List V} (e : H a = some (.tup xs)) : TyOf K H (.ref a) (.type "tuple")
  | dK {a : Addr} {kvs : List (Key × V)} (e : H a = some (.dK kvs)) : TyOf K H (.ref a) (.type "dict")
  | dT {a : Addr} {kvs : List (List Key × V)} (e : H a = some (.dT kvs)) : TyOf K H (.ref a) (.type "dict")
  | ins {a C dx : Addr} {fs : List (Str × V)} (e : H a = some (.ins C dx fs)) (cl : Cls K C) (ha : PySem.W.findIn K (.ref C) "__class__" = some (some (.builtin "object.__class__")))
      (hn : PySem.W.specialIn K (.builtin "object.__class__") "__get__" = some (some (.builtin "getset_descriptor.__get__"))) (htk : PySem.W.takesIn K (.builtin "object.__class__") = some true)
      (hm : PySem.W.mroIn K C (.type "object") = some true) : TyOf K H (.ref a) (.ref C)
theorem isinst_ok {x : V} {u t : Value} (I : Inv X pins σ H s) (rx : RelV x u) (ty : TyOf X.K H x t) (e : PySem.W.kitOne X.K t c = some b) (h : ∀ tk, Q (.bool b) { s with toks := tk }) :
    wpAny (model X.prog X.w) A (call (.builtin "isinstance") [u, c]) Q E s := by
  cases ty with
  | non => cases (show u = Value.none from rx); exact PySem.W.kia_one PySem.W.kitx_none I.kIn True.intro e (fun z => nomatch z) h
  | bl y => cases (show u = Value.bool y from rx); exact PySem.W.kia_one PySem.W.kitx_bool I.kIn True.intro e (fun z => nomatch z) h
  | int i => obtain ⟨t, q⟩ := (show ∃ t, u = Value.int i t from rx); cases q; exact PySem.W.kia_one PySem.W.kitx_int I.kIn True.intro e (fun z => nomatch z) h
  | str y => obtain ⟨t, q⟩ := (show ∃ t, u = Value.str y t from rx); cases q; exact PySem.W.kia_one PySem.W.kitx_str I.kIn True.intro e (fun z => nomatch z) h
  | flt y => obtain ⟨t, q⟩ := (show ∃ t, u = Value.float y t from rx); cases q; exact PySem.W.kia_one PySem.W.kitx_float I.kIn True.intro e (fun z => nomatch z) h
  | @lst a xs ea =>
    cases (show u = Value.ref a from rx)
    obtain ⟨_, _, n, _, h1⟩ := (show ObjOk X.prog X.w H s.heap a (.lst xs) from I.hok a _ ea)
    exact PySem.W.kia_one PySem.W.kitx_list I.kIn ⟨_, h1, rfl⟩ e (fun z => nomatch z) h
  | @frz a ob xs ea =>
    cases (show u = Value.ref a from rx)
    obtain ⟨_, _, _, n, _, h1⟩ := (show ObjOk X.prog X.w H s.heap a (.frz ob (.lst xs)) from I.hok a _ ea)
    exact PySem.W.kia_one PySem.W.kitx_list I.kIn ⟨_, h1, rfl⟩ e (fun z => nomatch z) h
  | @tup a xs ea =>
    cases (show u = Value.ref a from rx)
    obtain ⟨_, _, _, p⟩ := (show ObjOk X.prog X.w H s.heap a (.tup xs) from I.hok a _ ea)
    obtain ⟨o, h1, h2, _⟩ := p
    exact PySem.W.kia_one PySem.W.kitx_tuple I.kIn ⟨o, h1, h2⟩ e (fun z => nomatch z) h
  | @dK a kvs ea =>
    cases (show u = Value.ref a from rx)
    obtain ⟨_, _, vs, _, p⟩ := (show ObjOk X.prog X.w H s.heap a (.dK kvs) from I.hok a _ ea)
    obtain ⟨o, es, ep, h1, h2, _⟩ := p
    exact PySem.W.kia_one PySem.W.kitx_dict I.kIn ⟨o, h1, h2.1⟩ e (fun z => nomatch z) h
  | @dT a kvs ea =>
    cases (show u = Value.ref a from rx)
    obtain ⟨_, _, xs, _, o, es, ep, h1, h2, _⟩ := (show ObjOk X.prog X.w H s.heap a (.dT kvs) from I.hok a _ ea)
    exact PySem.W.kia_one PySem.W.kitx_dict I.kIn ⟨o, h1, h2.1⟩ e (fun z => nomatch z) h
  | @ins a C dx fs ea cl ha hn htk hm =>
    cases (show u = Value.ref a from rx)
    obtain ⟨mA, O, _⟩ := ins_get I.hok ea
    obtain ⟨od, J, _⟩ := O.look
    exact PySem.W.kia_one (PySem.W.kitx_own (cl.get _) cl.hd ha hn htk hm) I.kIn J e (fun z => nomatch z) h
end
end L2
namespace L2
open PySem PySem.Spec PyProof.Rows
structure Room (k : Nat) (A : Around) : Prop where
  hd : A.handled = none
  dp : A.depth + 3 * k + 5 < recursionLimit
  un : A.units + 16 * k + 200 < cLine
theorem Room.mono {j k : Nat} {A : Around} (r : Room k A) (h : j ≤ k) : Room j A := ⟨r.hd, by have := r.dp; omega, by have := r.un; omega⟩
theorem Room.deeper {k : Nat} {A : Around} (r : Room (k + 1) A) (env : Env) : Room k (A.deeper env) :=
  ⟨r.hd, by have := r.dp; show A.depth + 1 + 3 * k + 5 < _; omega, by have := r.un; show A.units + 3 + 16 * k + 200 < _; omega⟩
theorem Room.in1 {k : Nat} {A : Around} (r : Room (k + 1) A) : Room k A.in1 :=
  ⟨r.hd, by have := r.dp; show A.depth + 3 * k + 5 < _; omega, by have := r.un; show A.units + 1 + 16 * k + 200 < _; omega⟩
theorem Room.depth {k : Nat} {A : Around} (r : Room k A) : A.depth < recursionLimit := by have := r.dp; omega
theorem Room.units {k : Nat} {A : Around} (r : Room k A) : A.units + 64 < cLine := by have := r.un; omega
def tNil : TA := fun _ H Q => Q [] H
def tCons (ta : TE) (tr : TA) : TA := fun σ H Q => ta σ H fun x H1 => tr σ H1 fun xs H2 => Q (x :: xs) H2
section
variable {X : Cx} {e : Expr} {es : List Expr} {te : TE} {t : TA} {pos : Pos}
theorem pa_nil : PA X [] tNil := fun _ _ _ _ H Q I h => Calls.spliced_nil ⟨[], H, I, .nil, h⟩
theorem pa_cons (ha : PE X e te) (hr : PA X es t) (hs : starEach (e :: es) X.env = (false, eval e X.env) :: starEach es X.env := by rfl) : PA X (e :: es) (tCons te t) := by
  intro pos pins s σ H Q I h
  rw [hs]
  show wpAny _ _ (spliced ((false, eval e X.env) :: backTo pos (starEach es X.env))) _ _ s
  refine Calls.spliced_cons (thn (ha pins s σ H _ I h) fun u s1 ⟨x, H1, I1, r1, q1⟩ => ?_)
  exact thn (hr pos pins s1 σ H1 _ I1 q1) fun us s2 ⟨xs, H2, I2, r2, q2⟩ => ⟨x :: xs, H2, I2, .cons r1 r2, q2⟩
def tTup (t : TA) : TE := fun σ H Q => t σ H fun xs H1 => xs.length ≤ sizeLine ∧ ∀ p, H1 p = none → Q (.ref p) (upd H1 p (.tup xs))
def tLst (t : TA) : TE := fun σ H Q => t σ H fun xs H1 => xs.length ≤ sizeLine ∧ ∀ p, H1 p = none → Q (.ref p) (upd H1 p (.lst xs))
theorem pe_tup {x1} (h : PA X es t) : PE X (.Tuple es x1 pos) (tTup t) := by
  intro pins s σ H Q I hq
  refine wpAny_Tuple_spliced (thn (h pos pins s σ H _ I hq) fun us s1 ⟨xs, H1, I1, r, z, q⟩ => ⟨by rw [← r.length]; exact z, ?_⟩)
  have hf : H1 s1.heap.objs.size = none := I1.hok.fresh (Nat.le_refl _)
  refine ⟨.ref s1.heap.objs.size, upd H1 s1.heap.objs.size (.tup xs), I1.laid (t' := s1.toks) (fun b u e => Heap.get?_push_of_some _ e) (Nat.le_refl _) ?_, rfl, q _ hf⟩
  exact ⟨z, us, r, ⟨_, Heap.get?_push_size _ rfl, rfl, _, rfl⟩⟩
theorem pe_lst (h : PA X es t) : PE X (.List es pos) (tLst t) := by
  intro pins s σ H Q I hq
  refine wpAny_List_spliced (thn (h pos pins s σ H _ I hq) fun us s1 ⟨xs, H1, I1, r, z, q⟩ => ⟨by rw [← r.length]; exact z, ?_⟩)
  have hf : H1 s1.heap.objs.size = none := I1.hok.fresh (Nat.le_refl _)
  refine ⟨.ref s1.heap.objs.size, upd H1 s1.heap.objs.size (.lst xs), I1.laid (t' := s1.toks) (fun b u e => Heap.get?_push_of_some _ e) (Nat.le_refl _) ?_, rfl, q _ hf⟩
  exact ⟨z, us, 0, r, Heap.get?_push_size _ rfl⟩
end
abbrev Sp := List V → Hp → VK → XK → Prop
abbrev CXT := List Env → Hp → Shared → XK → Value → Shared → Prop
structure Env0 (P : Program) (w : World) (K : PySem.W.Frag) (mg : Str → Option Value) (base : Heap) (A : Around) (outer : List Env) (s : Shared) (H : Hp) : Prop where
  frames : A.frames = some outer
  mod : Mod K mg base
  bs : ∀ b o, base.get? b = some o → s.heap.get? b = some o ∧ H b = none
  bsz : base.objs.size ≤ s.heap.objs.size
  funs : s.heap.FunFrames base outer
  frf : ∀ b ∈ frs outer, H b = none
  hok : HOk P w H s.heap
  bare : AllBare s.gens
def CE (outer : List Env) (P : Program) (w : World) (H : Hp) (s : Shared) (Q : VK) (u : Value) (s' : Shared) : Prop :=
  ∃ v H', s'.os = s.os ∧ AllBare s'.gens ∧ Un (frs outer) [] H H' s.heap s'.heap ∧ HOk P w H' s'.heap ∧ RelV v u ∧ Q v H'
def CR (CX : CXT) (outer : List Env) (P : Program) (w : World) (H : Hp) (s : Shared) (Q : VK) (E : XK) (r : Result) (s' : Shared) : Prop :=
  match r with
  | .ok (.ret u) => CE outer P w H s Q u s'
  | .ok _ => False
  | .error e => CX outer H s E e s'
structure FnOk (P : Program) (w : World) (K : PySem.W.Frag) (mg : Str → Option Value) (base : Heap) (CX : CXT) (k : Nat) (f : Addr) (fd : FuncData) (ps : List Str) (sp : Sp) : Prop where
  len : ∀ vs H Q E, sp vs H Q E → vs.length = ps.length
  run : ∀ (A : Around) (outer : List Env) (s : Shared) (H : Hp) (args : Args) (us : List Value) (vs : List V) (Q : VK) (E : XK), Room k A → Env0 P w K mg base A outer s H → BindsTo s fd args (ps.zip us) → Vals vs us → sp vs H Q E →
    codeAny (model P w) A (.call (.ref f) args) (CR CX outer P w H s Q E) s
theorem FnOk.mono {P : Program} {w : World} {K : PySem.W.Frag} {mg : Str → Option Value} {base : Heap} {CX : CXT} {j k : Nat} {f : Addr} {fd : FuncData} {ps : List Str} {sp : Sp} (F : FnOk P w K mg base CX j f fd ps sp) (h : j ≤ k) :
    FnOk P w K mg base CX k f fd ps sp := ⟨F.len, fun A outer s H args us vs Q E hr => F.run A outer s H args us vs Q E (hr.mono h)⟩
theorem FnOk.imp {P : Program} {w : World} {K : PySem.W.Frag} {mg : Str → Option Value} {base : Heap} {CX : CXT} {k : Nat} {f : Addr} {fd : FuncData} {ps : List Str} {sp sp' : Sp} (F : FnOk P w K mg base CX k f fd ps sp)
    (h : ∀ vs H Q E, sp' vs H Q E → sp vs H Q E) : FnOk P w K mg base CX k f fd ps sp' :=
  ⟨fun vs H Q E q => F.len vs H Q E (h _ _ _ _ q), fun A outer s H args us vs Q E hr he hb hv hs => F.run A outer s H args us vs Q E hr he hb hv (h _ _ _ _ hs)⟩
theorem Env0.in1 {P : Program} {w : World} {K : PySem.W.Frag} {mg : Str → Option Value} {base : Heap} {A : Around} {outer : List Env} {s : Shared} {H : Hp} (e : Env0 P w K mg base A outer s H) :
    Env0 P w K mg base A.in1 outer s H := ⟨e.frames, e.mod, e.bs, e.bsz, e.funs, e.frf, e.hok, e.bare⟩
section
variable {X : Cx} {pins : List (Addr × Obj)} {σ : St} {H : Hp} {s s' : Shared}
theorem Inv.env0 (I : Inv X pins σ H s) : Env0 X.prog X.w X.K X.mg X.base X.A X.stack s H :=
  ⟨I.ok.frames, I.ok.mod, I.bs, Nat.le_trans I.ok.bsz I.sz, I.stack, I.stkFree, I.hok, I.bare⟩
theorem Inv.after {Q : VK} {u : Value} (I : Inv X pins σ H s) (h : CE X.stack X.prog X.w H s Q u s') : EP X pins σ Q u s' := by
  obtain ⟨v, H', os, bare, un, hok, r, q⟩ := h
  obtain ⟨hh, g, d, t, os'⟩ := s'
  obtain rfl : os' = s.os := os
  exact ⟨v, H', I.call (h' := hh) (g' := g) (d' := d) (t' := t) (ch := []) un hok bare (fun b z => absurd z (by simp)), r, q⟩
end
def tCall (sp : Sp) (dvs : List V) (E : XK) (t : TA) : TE := fun σ H Q => t σ H fun vs H1 => sp (vs ++ dvs) H1 Q E
def Binds (K : PySem.W.Frag) (fd : FuncData) (ps : List Str) (ds : List Value) : Prop :=
  ∀ (s : Shared) (us : List Value), K.In s.heap → (us ++ ds).length = ps.length → BindsTo s fd ⟨us, []⟩ (ps.zip (us ++ ds))
theorem Binds.all {K : PySem.W.Frag} {fd : FuncData} {ps : List Str} (h : ∀ us : List Value, us.length = ps.length → bindArgs fd ⟨us, []⟩ = pure (ps.zip us)) : Binds K fd ps [] := fun s us _ hl => by
  rw [List.append_nil] at hl ⊢
  exact .of_eq (h us hl)
def Passes (CX : CXT) (X : Cx) (E : XK) : Prop := ∀ (pins : List (Addr × Obj)) (σ : St) (H : Hp) (s : Shared) (e : Value) (s' : Shared), Inv X pins σ H s → CX X.stack H s E e s' → X.xe e s'
section
variable {X : Cx} {CX : CXT} {k : Nat} {f C : Addr} {fd : FuncData} {ps : List Str} {sp : Sp} {dvs : List V} {ds : List Value} {E : XK} {x m : Str} {p pos apos : Pos} {e o : Expr} {es : List Expr} {ta : TE} {t : TA}
theorem run_fn {pins : List (Addr × Obj)} {σ : St} {H : Hp} {s : Shared} {Q : VK} {us : List Value} {vs : List V} (F : FnOk X.prog X.w X.K X.mg X.base CX k f fd ps sp) (hr : Room k X.A) (hb : Binds X.K fd ps ds) (hd : Vals dvs ds) (hx : Passes CX X E)
    (I : Inv X pins σ H s) (r : Vals vs us) (h : sp (vs ++ dvs) H Q E) : wpAny (model X.prog X.w) X.A (call (.ref f) us) (EP X pins σ Q) X.xe s := by
  have r2 : Vals (vs ++ dvs) (us ++ ds) := r.append hd
  have hl : (us ++ ds).length = ps.length := by rw [← r2.length]; exact F.len _ _ _ _ h
  refine wpAny_call (codeAny_mono (F.run X.A X.stack s H ⟨us, []⟩ (us ++ ds) (vs ++ dvs) Q E hr I.env0 (hb s us I.kIn hl) r2 h) fun r s' hq => ?_)
  cases r with
  | error e => exact hx pins σ H s e s' I hq
  | ok fl =>
    cases fl with
    | ret u => exact I.after hq
    | next => exact False.elim hq
    | brk => exact False.elim hq
    | cont => exact False.elim hq
theorem pe_call (F : FnOk X.prog X.w X.K X.mg X.base CX k f fd ps sp) (hr : Room k X.A) (hg : Gl X x) (hm : X.mg x = some (.ref f)) (hk : PySem.W.keepIn X.K (.ref f) = true) (hb : Binds X.K fd ps ds) (hd : Vals dvs ds) (hx : Passes CX X E)
    (ha : PA X (e :: es) t) (hdb : (x == ("__debug__" : Str)) = false := by decide) (he : starEach (e :: es) X.env = (false, eval e X.env) :: starEach es X.env := by rfl) (hpl : (backTo pos (starEach es X.env)).any (·.1) = false := by rfl) :
    PE X (.Call (.Name x p) (e :: es) [] pos) (tCall sp dvs E t) := by
  intro pins s σ H Q I h
  refine wpAny_Call_Name_kw (ld_glob I hg hm ?_ hdb)
  refine PySem.W.callWith_K (h₀ := X.base) I.ok.mod.kin hk (thn (ha pos pins s σ H _ I h) fun us s1 ⟨vs, H1, I1, r, q⟩ => ⟨I1.kIn, ?_⟩) he hpl
  exact run_fn F hr hb hd hx I1 r q
structure Mk (K : PySem.W.Frag) (C f : Addr) : Prop where
  makes : PySem.W.makesIn K C = true
  init : PySem.W.findIn K (.ref C) "__init__" = some (some (.ref f))
  fn : PySem.W.isFn K (.ref f) = true
  kp : PySem.W.keepIn K (.ref C) = true
end
section
variable {X : Cx} {CX : CXT} {k : Nat} {f C : Addr} {fd : FuncData} {ps ks : List Str} {sp : Sp} {E : XK} {x m : Str} {p pos apos kpos : Pos} {e o : Expr} {es : List Expr} {kws : List Keyword} {te ta : TE} {t tk : TA} {nm : Option Str}
structure KBinds (K : PySem.W.Frag) (fd : FuncData) (ps ks : List Str) (g : List Value → List Value → List Value) (gV : List V → List V → List V) : Prop where
  to : ∀ (s : Shared) (us ws : List Value), K.In s.heap → (g us ws).length = ps.length → BindsTo s fd ⟨us, ks.zip ws⟩ (ps.zip (g us ws))
  rel : ∀ {vs : List V} {us : List Value} {zs : List V} {ws : List Value}, Vals vs us → Vals zs ws → Vals (gV vs zs) (g us ws)
variable {g : List Value → List Value → List Value} {gV : List V → List V → List V}
end
structure FnScope (N P : List Str) (sc : Scope) : Prop where
  kind : sc.kind = .function
  co : sc.isCoroutine = false
  gen : sc.isGenerator = false
  nd : N.Nodup
  pre : N.take P.length = P
  par : ∀ x ∈ P, sc.names.lookup x = some .local ∨ sc.names.lookup x = some .cell
  nofree : ∀ y ∈ sc.names, y.2 ≠ .free
theorem bindL_out {kindOf : Str → Option NameKind} {x : Str} : ∀ {binds : List (Str × Value)} {m : Str → Option Value}, (∀ v, (x, v) ∉ binds) → bindL kindOf binds m x = m x
  | [], _, _ => rfl
  | (n, v) :: r, m, h => by
    unfold bindL
    rw [bindL_out fun w hw => h w (List.mem_cons_of_mem _ hw)]
    split
    · have : x ≠ n := by rintro rfl; exact h v List.mem_cons_self
      simp [this]
    · rfl
theorem bindC_out {kindOf : Str → Option NameKind} {x : Str} : ∀ {binds : List (Str × Value)} {m : Str → Option Value}, (∀ v, (x, v) ∉ binds) → bindC kindOf binds m x = m x
  | [], _, _ => rfl
  | (n, v) :: r, m, h => by
    unfold bindC
    rw [bindC_out fun w hw => h w (List.mem_cons_of_mem _ hw)]
    split
    · rfl
    · have : x ≠ n := by rintro rfl; exact h v List.mem_cons_self
      simp [this]
theorem bindL_get {kindOf : Str → Option NameKind} {x : Str} {v : Value} : ∀ {P : List Str} {vs : List Value} {i : Nat} {m : Str → Option Value}, P.Nodup → P[i]? = some x → vs[i]? = some v → kindOf x = some .local →
    bindL kindOf (P.zip vs) m x = some v
  | [], _, _, _, _, h, _, _ => by simp at h
  | _ :: _, [], _, _, _, _, h, _ => by simp at h
  | p :: P, w :: vs, 0, m, nd, h1, h2, hk => by
    simp at h1 h2; subst h1; subst h2
    show bindL kindOf ((p, w) :: P.zip vs) m p = _
    unfold bindL
    rw [bindL_out fun v hv => (List.nodup_cons.mp nd).1 (List.of_mem_zip hv).1, if_pos hk]
    simp
  | p :: P, w :: vs, i + 1, m, nd, h1, h2, hk => by
    show bindL kindOf ((p, w) :: P.zip vs) m x = _
    unfold bindL
    exact bindL_get (i := i) (List.nodup_cons.mp nd).2 (by simpa using h1) (by simpa using h2) hk
theorem bindC_get {kindOf : Str → Option NameKind} {x : Str} {v : Value} : ∀ {P : List Str} {vs : List Value} {i : Nat} {m : Str → Option Value}, P.Nodup → P[i]? = some x → vs[i]? = some v → kindOf x ≠ some .local →
    bindC kindOf (P.zip vs) m x = some v
  | [], _, _, _, _, h, _, _ => by simp at h
  | _ :: _, [], _, _, _, _, h, _ => by simp at h
  | p :: P, w :: vs, 0, m, nd, h1, h2, hk => by
    simp at h1 h2; subst h1; subst h2
    show bindC kindOf ((p, w) :: P.zip vs) m p = _
    unfold bindC
    rw [bindC_out fun v hv => (List.nodup_cons.mp nd).1 (List.of_mem_zip hv).1, if_neg hk]
    simp
  | p :: P, w :: vs, i + 1, m, nd, h1, h2, hk => by
    show bindC kindOf ((p, w) :: P.zip vs) m x = _
    unfold bindC
    exact bindC_get (i := i) (List.nodup_cons.mp nd).2 (by simpa using h1) (by simpa using h2) hk
def start (N : List Str) (vs : List V) : St := vs.map some ++ List.replicate (N.length - vs.length) none
def cxOf (CX : CXT) (P : Program) (w : World) (K : PySem.W.Frag) (mg : Str → Option Value) (base : Heap) (N : List Str) (qual : Str) (scope : Scope) (f : Addr) (cd : Value) (A : Around) (outer : List Env) (s : Shared) (H : Hp) (E : XK) : Cx where
  prog := P
  w := w
  K := K
  mg := mg
  base := base
  A := A.deeper (envOfC qual scope s.heap.objs.size f cd)
  N := N
  s₀ := s
  H₀ := H
  env := envOfC qual scope s.heap.objs.size f cd
  outer := outer
  stack := envOfC qual scope s.heap.objs.size f cd :: outer
  ex := []
  calm := true
  fn := fun _ => true
  pn := []
  xe := fun e s' => wpAny (model P w) (A.deeper (envOfC qual scope s.heap.objs.size f cd)) (leaving (envOfC qual scope s.heap.objs.size f cd) e) (fun _ s'' => CX outer H s E e s'') (fun e' s'' => CX outer H s E e' s'') s'
theorem cell_has {sc : Scope} {n : Nat} {x : Str} (h : sc.names.lookup x = some .cell) : ∃ c, (cellsFrom n sc.names []).lookup x = some c := by
  have q := PySem.W.cellsFrom_some sc.names n [] (.inl h)
  exact Option.isSome_iff_exists.mp q
theorem inv_start {CX : CXT} {P : Program} {w : World} {K : PySem.W.Frag} {mg : Str → Option Value} {base : Heap} {N ps : List Str} {qual : Str} {scope : Scope} {f : Addr} {cd : Value} {A : Around} {outer : List Env} {s s1 : Shared} {H : Hp} {E : XK} {us : List Value} {vs : List V}
    (S : FnScope N ps scope) (hd : A.handled = none) (e0 : Env0 P w K mg base A outer s H) (hl : vs.length = ps.length) (r : Vals vs us)
    (x : InCallC s s.heap.objs.size (bindL (envOfC qual scope s.heap.objs.size f cd).kindOf (ps.zip us) fun _ => none) (cellsFrom (s.heap.objs.size + 1) scope.names []) (bindC (envOfC qual scope s.heap.objs.size f cd).kindOf (ps.zip us) fun _ => none) s1) :
    Inv (cxOf CX P w K mg base N qual scope f cd A outer s H E) [] (start N vs) H s1 := by
  have hpl : ps.length ≤ N.length := by have := congrArg List.length S.pre; rw [List.length_take] at this; omega
  obtain ⟨h1, tk, rfl, hk⟩ := x.done
  have noA : ∀ b : Addr, b ∉ (cxOf CX P w K mg base N qual scope f cd A outer s H E).ex := fun b z => absurd (show b ∈ ([] : List Addr) from z) (by simp)
  refine ⟨⟨e0.mod, S.kind, rfl, rfl, Nat.le_refl _, fun y z c h1 h2 => ?_, fun y hy => ?_, fun y c _ h => ?_, fun _ => hd, Around.frames_deeper e0.frames, .inr ⟨rfl, rfl⟩, fun b z => absurd z (noA b), e0.bs, e0.bsz, fun b _ _ => noA b, fun b z => absurd z (noA b), e0.funs, e0.frf⟩,
    rfl, e0.bare, Un.kept hk, ⟨_, x.toInCall.ns, fun i y v h1 h2 h3 => ?_⟩, fun y c h => ⟨_, x.cell y c h⟩, e0.hok.fresh (Nat.le_refl _), fun y c h => ?_, fun p hp => absurd (show p ∈ ([] : List (Addr × Obj)) from hp) (by simp), e0.hok.kept hk, ?_⟩
  · exact name_of_addr x.apart (PySem.mem_of_lookup h1) (PySem.mem_of_lookup h2)
  · have hy : scope.names.lookup y = some .cell ∨ scope.names.lookup y = some .free := hy
    rcases hy with hy | hy
    · exact cell_has hy
    · exact absurd rfl (S.nofree _ (PySem.mem_of_lookup hy))
  · exact Nat.le_of_lt (x.above y c (PySem.mem_of_lookup h))
  · have hi : i < vs.length := by
      unfold start at h2
      by_cases hi : i < vs.length
      · exact hi
      · rw [List.getElem?_append_right (by simpa using hi)] at h2
        rw [List.getElem?_replicate] at h2
        split at h2 <;> cases h2
    have ha : vs[i]? = some v := by
      unfold start at h2
      rw [List.getElem?_append_left (by simpa using hi), List.getElem?_map] at h2
      cases e : vs[i]? with
      | none => rw [e] at h2; cases h2
      | some a => rw [e] at h2; cases h2; rfl
    obtain ⟨u, hu, rv⟩ := r.get ha
    have hp : ps[i]? = some y := by
      rw [← S.pre, List.getElem?_take_of_lt (by omega)]; exact h1
    have ndP : ps.Nodup := by rw [← S.pre]; exact S.nd.sublist (List.take_sublist _ _)
    refine ⟨u, rv, ?_⟩
    rcases S.par y (List.mem_of_getElem? hp) with k | k
    · exact .inl ⟨k, bindL_get ndP hp hu k⟩
    · obtain ⟨c, e⟩ := cell_has (n := s.heap.objs.size + 1) k
      refine .inr ⟨.inl k, c, e, ?_⟩
      have q := x.cell y c e
      rw [bindC_get ndP hp hu (by show scope.names.lookup y ≠ _; rw [k]; decide)] at q
      exact q
  · exact e0.hok.fresh (Nat.le_of_lt (x.above y c (PySem.mem_of_lookup h)))
  · unfold start
    show _ = N.length
    rw [List.length_append, List.length_map, List.length_replicate]
    omega
theorem fn_of {CX : CXT} {P : Program} {w : World} {K : PySem.W.Frag} {mg : Str → Option Value} {base : Heap} {k : Nat} {f : Addr} {name qual : Str} {params : Arguments} {body : List Stmt} {scope : Scope} {dV kV doc pm cdv ct oc : Value} {an od : Option Addr}
    {osl : Array (Option Value)} {N ps : List Str} {sp : Sp} (lk : K.lookup f = some ⟨oc, od, .func (PySem.W.fnOf name qual params body scope dV kV doc pm an cdv ct), osl⟩) (hcd : PySem.W.codeIn K cdv qual = true) (S : FnScope N ps scope)
    (len : ∀ vs H Q E, sp vs H Q E → vs.length = ps.length)
    (hbody : ∀ (A : Around) (outer : List Env) (s : Shared) (H : Hp) (vs : List V) (Q : VK) (E : XK), Room k (A.deeper (envOfC qual scope s.heap.objs.size f cdv)) → sp vs H Q E →
      ∃ t, PSs (cxOf CX P w K mg base N qual scope f cdv A outer s H E) body t ∧ t { nx := fun _ H' => Q .non H', rt := Q } (start N vs) H) :
    FnOk P w K mg base CX (k + 1) f (PySem.W.fnOf name qual params body scope dV kV doc pm an cdv ct) ps sp := by
  refine ⟨len, fun A outer s H args us vs Q E hr e0 hb r hsp => ?_⟩
  have hl := len _ _ _ _ hsp
  have KX : K.In s.heap := e0.mod.kin.keeps fun b o e => (e0.bs b o e).1
  have lim : s.heap.NoLimit := e0.mod.nolimit.keeps fun b o e => (e0.bs b o e).1
  have hkind : ∀ y ∈ ps.zip us, scope.names.lookup y.1 = some .local ∨ (scope.names.lookup y.1 = some .cell ∧ ((cellsFrom (s.heap.objs.size + 1) scope.names []).lookup y.1).isSome = true) := fun ⟨n, v⟩ hy => by
    rcases S.par n (List.of_mem_zip hy).1 with q | q
    · exact .inl q
    · exact .inr ⟨q, PySem.W.cellsFrom_some _ _ _ (.inl q)⟩
  refine codeAny_call_function hr.depth (KX _ _ lk) rfl S.co S.gen rfl (PySem.W.codeRec_of KX hcd) (hb _ _ _ _ ?_)
  refine wpAny_newFunctionEnv_cells S.kind hkind fun env he s1 x => ?_
  subst he
  refine ⟨lim.keeps x.toInCall.keep, codeAny_func ?_⟩
  obtain ⟨t, ht, hq⟩ := hbody A outer s H vs Q E (hr.deeper _) hsp
  have I : Inv (cxOf CX P w K mg base N qual scope f cdv A outer s H E) [] (start N vs) H s1 := inv_start S hr.hd e0 hl r x
  refine wpAny_mono (ht [] s1 (start N vs) H _ I hq) (fun fl s' hs => ?_) fun e s' hs => hs
  have fin : ∀ {σ' : St} {H' : Hp} {v : V} {u : Value}, Inv (cxOf CX P w K mg base N qual scope f cdv A outer s H E) [] σ' H' s' → RelV v u → Q v H' → CE outer P w H s Q u s' :=
    fun {σ' H' v u} J rv q => ⟨v, H', J.os, J.bare, J.base, J.hok, rv, q⟩
  cases fl with
  | ret u =>
    obtain ⟨v, σ', H', J, rv, q⟩ := hs
    exact fin J rv q
  | next =>
    obtain ⟨σ', H', J, q⟩ := hs
    exact fin (v := V.non) (u := Value.none) J rfl q
  | brk =>
    obtain ⟨_, _, _, q⟩ := hs
    exact False.elim q
  | cont =>
    obtain ⟨_, _, _, q⟩ := hs
    exact False.elim q
end L2
namespace L2
open PySem PySem.Spec PyProof.Rows
section
variable {X : Cx} {x : Str} {p pos : Pos} {e : Expr} {es : List Expr} {t : TA} {id T : String} {r : List V → Hp → VK → Prop}
def tCB (r : List V → Hp → VK → Prop) (t : TA) : TE := fun σ H Q => t σ H fun vs H1 => r vs H1 Q
theorem pe_callB (hc : CallR X (.builtin id) r) (hg : Gl X x) (hm : X.mg x = none) (hv : bootBuiltins x = some (.builtin id)) (ha : PA X (e :: es) t) (hn : x ≠ "__name__" := by decide) (hdb : (x == ("__debug__" : Str)) = false := by decide)
    (he : starEach (e :: es) X.env = (false, eval e X.env) :: starEach es X.env := by rfl) (hpl : (backTo pos (starEach es X.env)).any (·.1) = false := by rfl) : PE X (.Call (.Name x p) (e :: es) [] pos) (tCB r t) := by
  intro pins s σ H Q I h
  refine wpAny_Call_Name_kw (ld_blt I hg hm hv ?_ hn hdb)
  exact PyProof.Rows.callWith_builtin1 (thn (ha pos pins s σ H _ I h) fun us s1 ⟨vs, H1, I1, r1, q1⟩ => hc pins s1 σ H1 vs us Q I1 r1 q1) he hpl
theorem pe_callTy (hc : CallR X (.type T) r) (hg : Gl X x) (hm : X.mg x = none) (hv : bootBuiltins x = some (.type T)) (ha : PA X (e :: es) t) (hn : x ≠ "__name__" := by decide) (hdb : (x == ("__debug__" : Str)) = false := by decide)
    (he : starEach (e :: es) X.env = (false, eval e X.env) :: starEach es X.env := by rfl) (hpl : (backTo pos (starEach es X.env)).any (·.1) = false := by rfl) : PE X (.Call (.Name x p) (e :: es) [] pos) (tCB r t) := by
  intro pins s σ H Q I h
  refine wpAny_Call_Name_kw (ld_blt I hg hm hv ?_ hn hdb)
  exact PyProof.Rows.callWith_type1 (thn (ha pos pins s σ H _ I h) fun us s1 ⟨vs, H1, I1, r1, q1⟩ => hc pins s1 σ H1 vs us Q I1 r1 q1) he hpl
end
end L2
namespace HT
open PySem PyProof.Rows
section
open PySem.SeqAt
open PySem.AutoSeq1 (wpAny_loadPart')
open PySem.MeetsSeq PySem.MeetsSeq2 PySem.MeetsSeq3
end
section
variable {prog : Program} {w : World} {A : Around} {E : Value → Shared → Prop} {s : Shared}
def sIx (n d : Nat) : Option Int → Nat
  | none => d
  | some v => if v < 0 then (v + (n : Int)).toNat else min v.toNat n
theorem sIx_nat (n d k : Nat) : sIx n d (some (k : Int)) = min k n := by
  show (if (k : Int) < 0 then ((k : Int) + (n : Int)).toNat else min (k : Int).toNat n) = min k n
  rw [if_neg (by omega), Int.toNat_natCast]
end
end HT
namespace L2
open PySem PySem.Spec PyProof.Rows
abbrev TO := St → Hp → (Option Int → Hp → Prop) → Prop
def PO (X : Cx) (e : Option Expr) (t : TO) : Prop :=
  ∀ (pins : List (Addr × Obj)) (s : Shared) (σ : St) (H : Hp) (Q : Option Int → Hp → Prop), Inv X pins σ H s → t σ H Q →
    wpAny (model X.prog X.w) X.A (evalPart e X.env) (fun u s' => ∃ o H', Inv X pins σ H' s' ∧ IsPart u o ∧ Q o H') X.xe s
def tNoPart : TO := fun _ H Q => Q none H
def tPart (t : TE) : TO := fun σ H Q => t σ H fun x H1 => ∃ i, x = .int i ∧ Q (some i) H1
theorem intsAre_of {ns : List Int} : ∀ {us : List Value}, Vals (ns.map V.int) us → IntsAre us ns := by
  induction ns with
  | nil => intro us r; rw [List.map_nil] at r; cases r; exact .nil
  | cons n ns ih =>
    intro us r
    rw [List.map_cons] at r
    cases r with
    | cons r1 r2 =>
      obtain ⟨t, e⟩ := r1
      subst e
      exact .cons n t (ih r2)
section
variable {X : Cx} {e : Expr} {te : TE} {lo hi : Option Expr} {tl th : TO} {pos p2 : Pos}
theorem po_none : PO X none tNoPart := by
  intro pins s σ H Q I h
  rw [evalPart_none]
  exact wpAny_pure ⟨none, H, I, .none, h⟩
theorem po_some (h : PE X e te) : PO X (some e) (tPart te) := by
  intro pins s σ H Q I hw
  rw [evalPart_some]
  refine thn (h pins s σ H _ I hw) fun u s1 ⟨x, H1, I1, r1, q1⟩ => ?_
  obtain ⟨i, rfl, q⟩ := q1
  obtain ⟨t, rfl⟩ := r1
  exact ⟨some i, H1, I1, .int i t, q⟩
def SlR (X : Cx) (r : V → Option Int → Option Int → Hp → VK → Prop) : Prop :=
  ∀ (pins : List (Addr × Obj)) (s : Shared) (σ : St) (H : Hp) (x : V) (v vl vu : Value) (lo hi : Option Int) (sl : Addr) (Q : VK), Inv X pins σ H s → RelV x v → s.heap.IsSliceOf sl vl vu .none → IsPart vl lo → IsPart vu hi → r x lo hi H Q →
    ∃ T id, typeLookup (.type T) "__getitem__" = pure (some (.builtin id)) ∧ s.TypeIs v T ∧ wpAny (model X.prog X.w) X.A (getItem v (.ref sl)) (EP X pins σ Q) X.xe s
def tSl (r : V → Option Int → Option Int → Hp → VK → Prop) (te : TE) (tl th : TO) : TE := fun σ H Q => te σ H fun x H1 => tl σ H1 fun l H2 => th σ H2 fun u H3 => r x l u H3 Q
theorem pe_slice {r : V → Option Int → Option Int → Hp → VK → Prop} (hr : SlR X r) (he : PE X e te) (hl : PO X lo tl) (hu : PO X hi th) : PE X (.Subscript e (.Slice lo hi none p2) pos) (tSl r te tl th) := by
  intro pins s σ H Q I h
  refine Subscript_ (thn (he pins s σ H _ I h) fun v s1 ⟨x, H1, I1, r1, q1⟩ => ?_)
  refine wpAny_Slice (thn (hl pins s1 σ H1 _ I1 q1) fun vl s2 ⟨l, H2, I2, pl, q2⟩ => thn (hu pins s2 σ H2 _ I2 q2) fun vu s3 ⟨u, H3, I3, pu, q3⟩ => ?_)
  rw [evalPart_none]
  refine wpAny_pure ?_
  have I4 : Inv X pins σ H3 { s3 with heap := s3.heap.push { cls := .type "slice", data := .fields #[vl, vu, .none] } } := I3.kept (t' := s3.toks) fun b ob q => Heap.get?_push_of_some _ q
  obtain ⟨T, id, hT, ht, hg⟩ := hr pins { s3 with heap := s3.heap.push { cls := .type "slice", data := .fields #[vl, vu, .none] } } σ H3 x v vl vu l u s3.heap.objs.size Q I4 r1 (Heap.IsSliceOf.new ..) pl pu q3
  show wpAny (model X.prog X.w) X.A (subscriptTail e (.Slice lo hi none p2) v (.ref s3.heap.objs.size)) (EP X pins σ Q) X.xe { s3 with heap := s3.heap.push { cls := .type "slice", data := .fields #[vl, vu, .none] } }
  exact tail_any (ops := [.ref s3.heap.objs.size, v]) ht hT hg (by with_unfolding_all rfl)
def cutV (xs : List V) (lo hi : Option Int) : List V := (xs.drop (HT.sIx xs.length 0 lo)).take (HT.sIx xs.length xs.length hi - HT.sIx xs.length 0 lo)
theorem cutV_length (xs : List V) (lo hi : Option Int) : (cutV xs lo hi).length ≤ xs.length := by
  unfold cutV
  rw [List.length_take, List.length_drop]
  omega
end
end L2
namespace L2
open PySem PySem.Spec PyProof.Rows
def ixN (n : Nat) (i : Int) : Option Nat := if 0 ≤ i then (if i < n then some i.toNat else none) else if -(n : Int) ≤ i then some (i + n).toNat else none
def atI {α : Type} (xs : List α) (i : Int) : Option α := (ixN xs.length i).bind fun j => xs[j]?
theorem ixN_seq {n : Nat} {i : Int} {j : Nat} (h : ixN n i = some j) : seqIndex? i n = some j ∧ j < n ∧ -(n : Int) ≤ i ∧ i < n := by
  unfold ixN at h
  by_cases h0 : 0 ≤ i
  · rw [if_pos h0] at h
    by_cases h1 : i < n
    · rw [if_pos h1] at h
      have e : i.toNat = j := Option.some.inj h
      exact ⟨by rw [seqIndex_of h0 h1, e], by omega, by omega, h1⟩
    · rw [if_neg h1] at h; cases h
  · rw [if_neg h0] at h
    by_cases h1 : -(n : Int) ≤ i
    · rw [if_pos h1] at h
      have e : (i + n).toNat = j := Option.some.inj h
      exact ⟨by rw [seqIndex_neg (by omega) h1, e], by omega, h1, by omega⟩
    · rw [if_neg h1] at h; cases h
theorem atI_get {α : Type} {xs : List α} {i : Int} {v : α} (h : atI xs i = some v) : ∃ j, seqIndex? i xs.length = some j ∧ xs[j]? = some v ∧ j < xs.length ∧ -(xs.length : Int) ≤ i ∧ i < xs.length := by
  unfold atI at h
  cases e : ixN xs.length i with
  | none => rw [e] at h; cases h
  | some j =>
    rw [e] at h
    obtain ⟨h1, h2, h3, h4⟩ := ixN_seq e
    exact ⟨j, h1, h, h2, h3, h4⟩
theorem atI_nat {α : Type} {xs : List α} {j : Nat} {v : α} (h : xs[j]? = some v) : atI xs (j : Int) = some v := by
  have hj : j < xs.length := (List.getElem?_eq_some_iff.mp h).1
  have e : ixN xs.length (j : Int) = some j := by
    unfold ixN
    rw [if_pos (by omega), if_pos (by omega)]; simp
  unfold atI; rw [e]; exact h
def PlainIx (b : Expr) : Prop := ∀ o i, subscripted b false o i = operate [o, i] (getItem o i)
def IxR (X : Cx) (r : R2) : Prop :=
  ∀ (value slice : Expr) (pins : List (Addr × Obj)) (s : Shared) (σ : St) (H : Hp) (x y : V) (v u : Value) (Q : VK), Inv X pins σ H s → RelV x v → RelV y u → r x y H Q →
    subscripted slice false v u = operate [v, u] (getItem v u) → wpAny (model X.prog X.w) X.A (subscriptTail value slice v u) (EP X pins σ Q) X.xe s
def MtR (X : Cx) (id : String) (r : V → List V → Hp → VK → Prop) : Prop :=
  ∀ (pins : List (Addr × Obj)) (s : Shared) (σ : St) (H : Hp) (x : V) (xs : List V) (v : Value) (us : List Value) (Q : VK), Inv X pins σ H s → RelV x v → Vals xs us → r x xs H Q →
    wpAny (model X.prog X.w) X.A (call (.builtin id) (v :: us)) (EP X pins σ Q) X.xe s
section
variable {X : Cx} {a b : Expr} {ta tb : TE} {pos : Pos}
theorem pe_ix {r : R2} (hr : IxR X r) (ha : PE X a ta) (hb : PE X b tb) (hs : PlainIx b) : PE X (.Subscript a b pos) (tOp r ta tb) := by
  intro pins s σ H Q I h
  exact Subscript_ (binT ha hb I h fun v u s2 x y H2 I2 rx ry q => hr a b pins s2 σ H2 x y v u Q I2 rx ry q (hs _ _))
def rIxL (K : PySem.W.Frag) : R2 := fun x y H Q => ∃ p xs i v, x = .ref p ∧ y = .int i ∧ SqL K H p xs ∧ atI xs i = some v ∧ Q v H
def rIxT (K : PySem.W.Frag) : R2 := fun x y H Q => ∃ p xs i v, x = .ref p ∧ y = .int i ∧ SqT K H p xs ∧ atI xs i = some v ∧ Q v H
theorem ix_list : IxR X (rIxL X.K) := by
  intro value slice pins s σ H x y v u Q I rx ry h hs
  obtain ⟨p, xs, i, z, rfl, rfl, hq, he, q⟩ := h
  cases rx
  obtain ⟨t, rfl⟩ := ry
  obtain ⟨its, r, pl, hz⟩ := I.list hq
  obtain ⟨j, h1, h2, h3, h4, h5⟩ := atI_get he
  obtain ⟨w, ew, rw'⟩ := r.get h2
  have hl := r.length
  have hn := line63
  have fin : EP X pins σ Q w s := ⟨z, H, I, rw', q⟩
  by_cases h0 : 0 ≤ i
  · have hj : i.toNat = j := by
      rw [seqIndex_of h0 h5] at h1
      exact Option.some.inj h1
    exact item_listR pl.isList h0 (by omega) (by rw [hj]; simpa using ew) fin hs
  · have hj : (i + (its.toArray.size : Int)).toNat = j := by
      rw [seqIndex_neg (by omega) h4] at h1
      rw [List.size_toArray, ← hl]
      exact Option.some.inj h1
    exact subscriptTail_builtinR (x := w) pl.isList.typeIs slot_list_getitem.lookup
      (wpAny_getItem_list_neg (Q := fun r s' => r = w ∧ EP X pins σ Q r s') pl.isList (by omega) (by rw [List.size_toArray] <;> omega) (by omega) (by rw [hj]; simpa using ew) ⟨rfl, fin⟩) hs
theorem ix_tup : IxR X (rIxT X.K) := by
  intro value slice pins s σ H x y v u Q I rx ry h hs
  obtain ⟨p, xs, i, z, rfl, rfl, hq, he, q⟩ := h
  cases rx
  obtain ⟨t, rfl⟩ := ry
  obtain ⟨its, r, pl, hz⟩ := I.tuple hq
  obtain ⟨j, h1, h2, h3, h4, h5⟩ := atI_get he
  obtain ⟨w, ew, rw'⟩ := r.get h2
  have hl := r.length
  have hn := line63
  have fin : EP X pins σ Q w s := ⟨z, H, I, rw', q⟩
  exact subscriptTail_builtinR (x := w) pl.typeIs slot_tuple_getitem.lookup
    (getItem_tuple (j := j) (Q := fun r s' => r = w ∧ EP X pins σ Q r s') pl (by omega) (by omega) (by rw [List.size_toArray, ← hl]; exact h1) (by simpa using ew) ⟨rfl, fin⟩) hs
theorem mapSeq_set (its : List Value) (n j : Nat) (u : Value) : Obj.mapSeq (·.setIfInBounds j u) { cls := .type "list", data := .seq its.toArray n } = { cls := .type "list", data := .seq (its.set j u).toArray n } := by
  simp [Obj.mapSeq]
theorem Inv.lst {pins : List (Addr × Obj)} {σ : St} {H : Hp} {s : Shared} {p : Addr} {xs : List V} (I : Inv X pins σ H s) (h : H p = some (.lst xs)) :
    ∃ (its : List Value) (n : Nat), Vals xs its ∧ s.heap.get? p = some { cls := .type "list", data := .seq its.toArray n } ∧ xs.length ≤ sizeLine := by
  obtain ⟨z, its, n, r, e⟩ := I.hok p _ h
  exact ⟨its, n, r, e, z⟩
theorem Inv.lstUpd {pins : List (Addr × Obj)} {σ : St} {H : Hp} {s : Shared} {p : Addr} {xs ys : List V} {its its' : List Value} {n n' : Nat} {f : Obj → Obj} (I : Inv X pins σ H s) (h : H p = some (.lst xs))
    (ho : s.heap.get? p = some { cls := .type "list", data := .seq its.toArray n }) (hf : f { cls := .type "list", data := .seq its.toArray n } = { cls := .type "list", data := .seq its'.toArray n' }) (r : Vals ys its') (hz : ys.length ≤ sizeLine) (t : Nat) :
    Inv X pins σ (upd H p (.lst ys)) { s with heap := s.heap.update p f, toks := t } := by
  have e : (s.heap.update p f).get? p = some { cls := .type "list", data := .seq its'.toArray n' } := by
    rw [Heap.get?_update_self f ho (by rw [hf] <;> rfl), hf]
  refine I.write (x := p) (e := p) (by rw [h]; trivial) (.inl rfl) (fun b u hb q => (Heap.get?_update_other _ _ (Ne.symm hb)).trans q) ⟨_, e⟩ ?_
  exact ⟨hz, its', n', r, e⟩
def rSetL : V → V → V → Hp → (Hp → Prop) → Prop := fun o i v H Q => ∃ p xs k j, o = .ref p ∧ i = .int k ∧ H p = some (.lst xs) ∧ ixN xs.length k = some j ∧ Q (upd H p (.lst (xs.set j v)))
theorem set_list : PSet X rSetL := by
  intro pins s σ H o i v ov iv u Q I ro ri rv h
  obtain ⟨p, xs, k, j, rfl, rfl, hp, hj, q⟩ := h
  cases ro
  obtain ⟨t, rfl⟩ := ri
  obtain ⟨its, n, r, ho, hz⟩ := I.lst hp
  obtain ⟨h1, h2, h3, h4⟩ := ixN_seq hj
  have hl := r.length
  have hn := line63
  have I' : Inv X pins σ (upd H p (.lst (xs.set j v))) { s with heap := s.heap.update p (Obj.mapSeq (·.setIfInBounds j u)) } :=
    I.lstUpd hp ho (mapSeq_set its n j u) (r.set rv j) (by rw [List.length_set]; exact hz) s.toks
  by_cases h0 : 0 ≤ k
  · have hk : k.toNat = j := by
      rw [seqIndex_of h0 h4] at h1
      exact Option.some.inj h1
    exact PySem.W.ki_setAt ho h0 (by omega) (by rw [List.size_toArray, ← hl]; exact h4) (by rw [hk]; exact ⟨_, I', q⟩)
  · have hk : (k + (its.toArray.size : Int)).toNat = j := by
      rw [seqIndex_neg (by omega) h3] at h1
      rw [List.size_toArray, ← hl]
      exact Option.some.inj h1
    exact PySem.W.ki_setBack ho (by omega) (by rw [List.size_toArray, ← hl]; exact h3) (by omega) (by rw [hk]; exact ⟨_, I', q⟩)
theorem slice_bounds (lo hi : Option Int) (n : Nat) : (sliceBounds lo hi none n).1 = ((HT.sIx n 0 lo : Nat) : Int) ∧ (sliceBounds lo hi none n).2.1 = ((HT.sIx n n hi : Nat) : Int) ∧ (sliceBounds lo hi none n).2.2 = 1 := by
  refine ⟨?_, ?_, rfl⟩
  · cases lo with
    | none => simp [sliceBounds, HT.sIx]
    | some i =>
      simp only [sliceBounds, HT.sIx, Option.getD_none, show (1 : Int) > 0 by decide, if_true]
      by_cases h : i < 0
      · simp only [h, if_true] <;> omega
      · simp only [h, if_false] <;> omega
  · cases hi with
    | none => simp [sliceBounds, HT.sIx]
    | some i =>
      simp only [sliceBounds, HT.sIx, Option.getD_none, show (1 : Int) > 0 by decide, if_true]
      by_cases h : i < 0
      · simp only [h, if_true] <;> omega
      · simp only [h, if_false] <;> omega
theorem slicePick_cut (its : List Value) (lo hi : Option Int) : slicePick its.toArray lo hi none = ((its.drop (HT.sIx its.length 0 lo)).take (HT.sIx its.length its.length hi - HT.sIx its.length 0 lo)).toArray := by
  obtain ⟨h1, h2, h3⟩ := slice_bounds lo hi its.toArray.size
  unfold slicePick
  rw [h1, h2, h3]
  simp only [sliceRange_one, pick_run, List.size_toArray] <;> rfl
def rSlL (K : PySem.W.Frag) : V → Option Int → Option Int → Hp → VK → Prop := fun x lo hi H Q => ∃ a xs, x = .ref a ∧ SqL K H a xs ∧ ∀ p, H p = none → Q (.ref p) (upd H p (.lst (cutV xs lo hi)))
theorem sl_list : SlR X (rSlL X.K) := by
  intro pins s σ H x v vl vu lo hi sl Q I rx hs pl pu h
  obtain ⟨a, xs, rfl, hx, q⟩ := h
  cases rx
  obtain ⟨its, r, ht, hz⟩ := I.list hx
  have hlen := r.length
  refine ⟨"list", _, slot_list_getitem.lookup, ht.isList.typeIs, ?_⟩
  refine wpAny_getItem_list_slice ht.isList hs pl pu .none (by simp) ?_ (by rw [List.size_toArray] <;> omega)
  rw [slicePick_cut, ← hlen]
  refine ⟨.ref s.heap.objs.size, _, I.laid (t' := s.toks) (o := .lst (cutV xs lo hi)) (fun b ob q => Heap.get?_push_of_some _ q) (Nat.le_refl _) ?_, rfl, q _ (I.hok.fresh (Nat.le_refl _))⟩
  exact ⟨Nat.le_trans (cutV_length xs lo hi) hz, _, 0, (r.drop (HT.sIx xs.length 0 lo)).take (HT.sIx xs.length xs.length hi - HT.sIx xs.length 0 lo), Heap.get?_push_size _ rfl⟩
theorem call_len_seq : CallR X (.builtin "len") (fun xs H Q => ∃ p ys, xs = [.ref p] ∧ (SqL X.K H p ys ∨ SqT X.K H p ys) ∧ Q (.int ys.length) H) := by
  intro pins s σ H xs us Q I r h
  obtain ⟨p, ys, rfl, hq, q⟩ := h
  obtain ⟨u, rfl, rx⟩ := vals1 r
  cases rx
  have hn := line63
  rcases hq with hq | hq
  · obtain ⟨its, r', pl, hz⟩ := I.list hq
    have hlen := r'.length
    exact Calls.call_len_list pl.isList (by simp only [List.size_toArray] <;> omega) ⟨.int ys.length, H, I.tok _, ⟨s.toks + 1, by rw [List.size_toArray, hlen]⟩, q⟩
  · obtain ⟨its, r', pl, hz⟩ := I.tuple hq
    have hlen := r'.length
    exact len_tuple pl (by simp only [List.size_toArray] <;> omega) ⟨.int ys.length, H, I.tok _, ⟨s.toks + 1, by rw [List.size_toArray, hlen]⟩, q⟩
theorem call_list_of : CallR X (.type "list") (fun xs H Q => ∃ p ys, xs = [.ref p] ∧ (SqL X.K H p ys ∨ SqT X.K H p ys) ∧ ∀ l, H l = none → Q (.ref l) (upd H l (.lst ys))) := by
  intro pins s σ H xs us Q I r h
  obtain ⟨p, ys, rfl, hq, q⟩ := h
  obtain ⟨u, rfl, rx⟩ := vals1 r
  cases rx
  have fin : ∀ (its : List Value), Vals ys its → ys.length ≤ sizeLine → ∀ (h' : Heap) (c' : Nat), (∀ b o', s.heap.get? b = some o' → h'.get? b = some o') →
      h'.get? s.heap.objs.size = some { cls := .type "list", dict := none, data := .seq its.toArray c', slots := #[] } → EP X pins σ Q (.ref s.heap.objs.size) { s with heap := h' } := fun its r' hz h' c' kp e =>
    ⟨.ref s.heap.objs.size, _, I.laid (t' := s.toks) kp (Nat.le_refl _) (show ObjOk X.prog X.w _ h' _ (.lst ys) from ⟨hz, its, c', r', e⟩), rfl, q _ (I.hok.fresh (Nat.le_refl _))⟩
  rcases hq with hq | hq
  · obtain ⟨its, r', pl, hz⟩ := I.list hq
    have hlen := r'.length
    obtain ⟨o, ho, hc, n, hd⟩ := pl.isList
    exact call_list_seq p (.inl rfl) ho hc hd (fun h' c' kp e => fin its r' hz h' c' kp e) (by simp only [List.size_toArray] <;> omega)
  · obtain ⟨its, r', pl, hz⟩ := I.tuple hq
    have hlen := r'.length
    obtain ⟨o, ho, hc, n, hd⟩ := pl
    exact call_list_seq p (.inr rfl) ho hc hd (fun h' c' kp e => fin its r' hz h' c' kp e) (by simp only [List.size_toArray] <;> omega)
def tyV (K : PySem.W.Frag) (T : String) (x : V) (H : Hp) : Prop := match x with
  | .str _ => T = "str"
  | .int _ => T = "int"
  | .ref p => (T = "list" ∧ ∃ xs, SqL K H p xs) ∨ (T = "tuple" ∧ ∃ o, K.lookup p = some o ∧ o.cls = .type "tuple" ∧ o.dict = none) ∨
      (T = "dict" ∧ ((∃ kvs, H p = some (.dK kvs)) ∨ ∃ kvs, H p = some (.dT kvs))) ∨ (T = "set" ∧ ∃ S n, H p = some (.set S n))
  | _ => False
theorem tyV_is {pins : List (Addr × Obj)} {σ : St} {H : Hp} {s : Shared} {T : String} {x : V} {v : Value} (I : Inv X pins σ H s) (r : RelV x v) (ty : tyV X.K T x H) :
    s.TypeIs v T ∧ ∀ a, v = .ref a → ∃ ob, s.heap.get? a = some ob ∧ ob.dict = none := by
  cases x with
  | str z =>
    obtain ⟨t, rfl⟩ := r
    cases (show T = "str" from ty)
    exact ⟨typeIs_str s z t, fun _ e => nomatch e⟩
  | int i =>
    obtain ⟨t, rfl⟩ := r
    cases (show T = "int" from ty)
    exact ⟨typeIs_int s i t, fun _ e => nomatch e⟩
  | ref p =>
    cases r
    rcases ty with ⟨rfl, xs, hq⟩ | ⟨rfl, o, hk, hc, hd⟩ | ⟨rfl, hk⟩ | ⟨rfl, S, n, hk⟩
    · obtain ⟨its, _, pl, _⟩ := I.list hq
      refine ⟨pl.isList.typeIs, fun a e => ?_⟩
      cases e
      obtain ⟨o, n, e, c, hd, _⟩ := pl
      exact ⟨o, e, hd⟩
    · refine ⟨⟨o, I.kIn p o hk, hc⟩, fun a e => ?_⟩
      cases e
      exact ⟨o, I.kIn _ o hk, hd⟩
    · have z : ∃ o, s.heap.get? p = some o ∧ o.ExactDict := by
        rcases hk with ⟨kvs, hk⟩ | ⟨kvs, hk⟩
        · obtain ⟨_, _, _, _, o, _, _, e, ex, _⟩ := I.hok p _ hk
          exact ⟨o, e, ex⟩
        · obtain ⟨_, _, _, _, o, _, _, e, ex, _⟩ := I.hok p _ hk
          exact ⟨o, e, ex⟩
      obtain ⟨o, e, ex⟩ := z
      refine ⟨⟨o, e, ex.1⟩, fun a e2 => ?_⟩
      cases e2
      exact ⟨o, e, ex.2.1⟩
    · obtain ⟨o, _, _, _, e, ex, _⟩ := I.hok p _ hk
      refine ⟨⟨o, e, ex.1⟩, fun a e2 => ?_⟩
      cases e2
      exact ⟨o, e, ex.2.1⟩
  | _ => exact False.elim ty
def tBM (K : PySem.W.Frag) (T : String) (r : V → List V → Hp → VK → Prop) (to : TE) (t : TA) : TE := fun σ H Q => to σ H fun x H1 => tyV K T x H1 ∧ t σ H1 fun xs H2 => r x xs H2 Q
variable {o e : Expr} {es : List Expr} {to : TE} {t : TA} {name : Str} {apos cpos : Pos} {T id : String} {r : V → List V → Hp → VK → Prop}
theorem pe_bm (pa : PlainAttrs T) (slot : Slot T name id) (hty : typeOf (.builtin id) = pure (.type "method_descriptor")) (hm : MtR X id r) (ho : PE X o to) (ha : PA X (e :: es) t)
    (hbase : attributeBase o name X.env (eval o X.env) = eval o X.env := by rfl)
    (hfew : ((backTo cpos (starEach (e :: es) X.env)).all (fun x => !x.1) && (backToKw cpos (keywordEach [] X.env)).all (fun x => x.1.isSome)
      && decide ((e :: es).length + ([] : List Keyword).length + (if ([] : List Keyword).isEmpty then 0 else 1) < 30)) = true := by rfl)
    (hline : (apos.endLine == cpos.line) = true := by rfl) (hs : starEach (e :: es) X.env = (false, eval e X.env) :: starEach es X.env := by rfl) (hplain : (backTo cpos (starEach es X.env)).any (·.1) = false := by rfl) :
    PE X (.Call (.Attribute o name apos) (e :: es) [] cpos) (tBM X.K T r to t) := by
  intro pins s σ H Q I h
  refine wpAny_Call_method_late hbase hfew hline rfl (thn (ho pins s σ H _ I h) fun v s1 ⟨x, H1, I1, r1, ty, q1⟩ => ?_)
  obtain ⟨h1, h2⟩ := tyV_is I1 r1 ty
  refine ⟨T, id, pa, slot, hty, h1, h2, ?_⟩
  have hA := ha cpos pins s1 σ H1 _ I1 q1
  rw [hs] at hA ⊢
  refine Calls.callWith_builtin (by show (false || (backTo cpos (starEach es X.env)).any (·.1)) = false; rw [hplain] <;> rfl) (Calls.evalArgs_plain ?_)
  exact thn hA fun us s2 ⟨vs, H2, I2, r2, q2⟩ => hm pins s2 σ H2 x vs v us Q I2 r1 r2 q2
/- xs.append(e), list.index on a module's tuple .. are MtR facts of 06m -/
end
end L2
namespace L2
open PySem PySem.Spec PyProof.Rows
def MtM (X : Cx) (id : String) (r : V → List V → Hp → VK → Prop) : Prop :=
  ∀ (pins : List (Addr × Obj)) (s : Shared) (σ : St) (H : Hp) (x : V) (xs : List V) (v : Value) (us : List Value) (Q : VK), Inv X pins σ H s → RelV x v → Vals xs us → r x xs H Q →
    wpAny (model X.prog X.w) X.A (call (.builtin id) (v :: us)) (EP X pins σ Q) X.xe s
theorem Vals.one : ∀ {x : V} {us : List Value}, Vals [x] us → ∃ u, us = [u] ∧ RelV x u
  | _, _, .cons r .nil => ⟨_, rfl, r⟩
theorem Vals.two : ∀ {x y : V} {us : List Value}, Vals [x, y] us → ∃ u v, us = [u, v] ∧ RelV x u ∧ RelV y v
  | _, _, _, .cons r (.cons q .nil) => ⟨_, _, rfl, r, q⟩
theorem Vals.zero : ∀ {us : List Value}, Vals [] us → us = []
  | _, .nil => rfl
theorem Vals.eraseIdx : ∀ {xs : List V} {us : List Value} (i : Nat), Vals xs us → Vals (xs.eraseIdx i) (us.eraseIdx i)
  | _, _, _, .nil => .nil
  | _, _, 0, .cons _ t => t
  | _, _, i + 1, .cons r t => .cons r (Vals.eraseIdx i t)
theorem Vals.reverse {xs : List V} {us : List Value} (h : Vals xs us) : Vals xs.reverse us.reverse := by
  induction h with
  | nil => exact .nil
  | cons r t ih => rw [List.reverse_cons, List.reverse_cons]; exact Vals.append ih (.cons r .nil)
theorem Vals.rep {xs : List V} {us : List Value} (h : Vals xs us) : ∀ k : Nat, Vals (List.replicate k xs).flatten (List.replicate k us).flatten
  | 0 => .nil
  | k + 1 => by
    rw [List.replicate_succ, List.replicate_succ, List.flatten_cons, List.flatten_cons]
    exact Vals.append h (Vals.rep h k)
theorem foldl_rep (its : List Value) : ∀ (k : Nat) (acc : List Value),
    List.foldl (fun x1 x2 => x1 ++ x2) acc.toArray (List.replicate k its.toArray) = (acc ++ (List.replicate k its).flatten).toArray
  | 0, acc => by simp
  | k + 1, acc => by
    have e : acc.toArray ++ its.toArray = (acc ++ its).toArray := by simp
    have e2 : (acc ++ its) ++ (List.replicate k its).flatten = acc ++ (List.replicate (k + 1) its).flatten := by
      rw [List.replicate_succ, List.flatten_cons, List.append_assoc]
    rw [← e2, ← foldl_rep its k (acc ++ its), ← e, List.replicate_succ, List.foldl_cons]
section
variable {X : Cx} {pins : List (Addr × Obj)} {σ : St} {H : Hp} {s : Shared} {l b : Addr} {xs ys zs : List V}
theorem Inv.lset {its its' : List Value} {n : Nat} {f : Array Value → Array Value} {t' : Nat} (I : Inv X pins σ H s) (hH : H l = some (.lst xs))
    (e : s.heap.get? l = some { cls := .type "list", data := .seq its.toArray n }) (hf : f its.toArray = its'.toArray) (hv : Vals ys its') (hz : ys.length ≤ sizeLine) :
    Inv X pins σ (upd H l (.lst ys)) { s with heap := s.heap.update l (Obj.mapSeq f), toks := t' } := by
  have q := PySem.IsL.update e f
  rw [hf] at q
  refine I.write (x := l) (e := l) (by rw [hH]; exact trivial) (.inl rfl) (fun b' u hb hu => (Heap.get?_update_other s.heap (Obj.mapSeq f) (Ne.symm hb)).trans hu) ⟨_, q⟩ ?_
  exact ⟨hz, its', _, hv, q⟩
theorem Inv.lnew {its : List Value} {t' : Nat} (I : Inv X pins σ H s) (hv : Vals ys its) (hz : ys.length ≤ sizeLine) :
    Inv X pins σ (upd H s.heap.objs.size (.lst ys)) { s with heap := s.heap.push { cls := .type "list", data := .seq its.toArray }, toks := t' } :=
  I.laid (fun _ _ q => Heap.get?_push_of_some _ q) (Nat.le_refl _) ⟨hz, its, 0, hv, Heap.get?_push_size _ rfl⟩
theorem Inv.fresh (I : Inv X pins σ H s) : H s.heap.objs.size = none := I.hok.fresh (Nat.le_refl _)
theorem Inv.lstM (I : Inv X pins σ H s) (hH : H l = some (.lst xs)) : xs.length ≤ sizeLine ∧ ∃ (its : List Value) (n : Nat), Vals xs its ∧ xs.length = its.length ∧ s.heap.get? l = some { cls := .type "list", data := .seq its.toArray n } := by
  obtain ⟨z, its, n, r, e⟩ := I.hok l _ hH
  exact ⟨z, its, n, r, r.length, e⟩
theorem notLongL {n : Nat} (h : n ≤ sizeLine) : Builtin.List.listTooLong n = false := by
  unfold Builtin.List.listTooLong
  exact decide_eq_false (by omega)
end
section
variable {X : Cx}
def rAppend : V → List V → Hp → VK → Prop := fun x vs H Q => ∃ l xs y, x = .ref l ∧ vs = [y] ∧ H l = some (.lst xs) ∧ xs.length < sizeLine ∧ Q .non (upd H l (.lst (xs ++ [y])))
theorem mt_append : MtM X "list.append" rAppend := by
  intro pins s σ H x vs v us Q I rx rv h
  obtain ⟨l, xs, y, rfl, rfl, hH, hz, q⟩ := h
  cases rx
  obtain ⟨u, rfl, ru⟩ := rv.one
  obtain ⟨z, its, n, r, hl, e⟩ := I.lstM hH
  refine call_meets F.slot_list_append ⟨_, e, rfl⟩ F.entry_list_append (F.args_list_append_2 _ _) (PySem.list_append l its.toArray n u (by rw [List.size_toArray]; omega)) ⟨e, ?_⟩
  refine ⟨.non, _, I.lset (its' := its ++ [u]) hH e (by simp) (r.append (.cons ru .nil)) ?_, rfl, q⟩
  rw [List.length_append, List.length_singleton]
  omega
def rCat : R2 := fun x y H Q => ∃ l b xs zs, x = .ref l ∧ y = .ref b ∧ H l = some (.lst xs) ∧ H b = some (.lst zs) ∧ xs.length + zs.length ≤ sizeLine ∧ ∀ p, H p = none → Q (.ref p) (upd H p (.lst (xs ++ zs)))
theorem op_cat : OpR X (binaryOp .Add) rCat := by
  intro pins s σ H x y v u Q I rx ry h
  obtain ⟨l, b, xs, zs, rfl, rfl, hH, hB, hz, q⟩ := h
  cases rx
  cases ry
  obtain ⟨z, its, n, r, hl, e⟩ := I.lstM hH
  obtain ⟨z2, its2, n2, r2, hl2, e2⟩ := I.lstM hB
  refine PySem.P.add_list e e2 ?_ (by rw [List.size_toArray, List.size_toArray]; omega)
  have ea : its.toArray ++ its2.toArray = (its ++ its2).toArray := by simp
  rw [ea]
  exact ⟨.ref _, _, I.lnew (t' := s.toks) (r.append r2) (by rw [List.length_append]; omega), rfl, q _ I.fresh⟩
def rRep : R2 := fun x y H Q => ∃ l k xs, x = .ref l ∧ y = .int k ∧ H l = some (.lst xs) ∧ -(2 ^ 63) ≤ k ∧ k < 2 ^ 63 ∧ xs.length * k.toNat ≤ sizeLine ∧
  ∀ p, H p = none → Q (.ref p) (upd H p (.lst (List.replicate k.toNat xs).flatten))
theorem len_rep {α : Type} (xs : List α) (k : Nat) : (List.replicate k xs).flatten.length = k * xs.length := by
  induction k with
  | zero => simp
  | succ k ih => rw [List.replicate_succ, List.flatten_cons, List.length_append, ih, Nat.succ_mul, Nat.add_comm]
theorem op_rep : OpR X (binaryOp .Mult) rRep := by
  intro pins s σ H x y v u Q I rx ry h
  obtain ⟨l, k, xs, rfl, rfl, hH, h1, h2, hz, q⟩ := h
  cases rx
  obtain ⟨t, rfl⟩ := ry
  obtain ⟨z, its, n, r, hl, e⟩ := I.lstM hH
  have hlen : its.toArray.size * k.toNat ≤ sizeLine := by rw [List.size_toArray, ← hl]; exact hz
  have hcap : ¬ its.toArray.size * k.toNat > (2 ^ 63 - 1) / 8 := by
    have : (sizeLine : Nat) ≤ (2 ^ 63 - 1) / 8 := by decide
    omega
  have hfit : ¬ (!Builtin.List.listFitsIndex k) = true := by
    rw [fitsIndex_both h1 h2]
    exact Bool.false_ne_true
  have hlong : ¬ Builtin.List.listTooLong (its.toArray.size * k.toNat) = true := by
    rw [notLongL hlen]
    exact Bool.false_ne_true
  have hnew : List.foldl (fun x1 x2 => x1 ++ x2) #[] (List.replicate (if its.toArray.isEmpty = true then 0 else k.toNat) its.toArray) = (List.replicate k.toNat its).flatten.toArray := by
    have f0 : ∀ m : Nat, List.foldl (fun x1 x2 => x1 ++ x2) #[] (List.replicate m its.toArray) = (List.replicate m its).flatten.toArray := fun m => by
      have := foldl_rep its m []
      rw [List.nil_append] at this
      exact this
    rw [f0]
    cases its with
    | nil => simp
    | cons a r' => rw [if_neg (by simp)]
  refine wpAny_binaryOp_repeat_ref (T := "list") (U := "int") (by decide) ⟨_, e, rfl⟩ (fun s' => typeIs_int s' k t) noFill_list_mul F.fills_int_mul F.slot_int_rmul repeat_list F.slot_int_index.lookup
    (call_meets F.slot_int_rmul (typeIs_int s k t) F.entry_int_rmul (F.args_int_rmul_2 _ _) (int___rmul___int_list k t l its.toArray n)
      ⟨e, rfl, ⟨_, e, rfl⟩, call_meets F.slot_list_mul ⟨_, e, rfl⟩ F.entry_list_mul (F.args_list_mul_2 _ _) (AutoListH.list___mul___list_int_3 l its.toArray n k t hfit hcap hlong) ⟨e, ?_⟩⟩)
  rw [hnew]
  exact ⟨.ref _, _, I.lnew (t' := s.toks) (r.rep k.toNat) (by rw [len_rep, Nat.mul_comm]; exact hz), rfl, q _ I.fresh⟩
end
section
variable {prog : Program} {w : World} {A : Around} {E : Value → Shared → Prop} {s : Shared}
end
section
variable {X : Cx}
end
end L2
namespace L2
open PySem PySem.Spec PyProof.Rows
section
variable {κ : Type} [DecidableEq κ]
def valV (kvs : List (κ × V)) (k : κ) : Option V := (kvs.find? fun kv => decide (kv.1 = k)).map (·.2)
def putK (kvs : List (κ × V)) (k : κ) (v : V) : List (κ × V) :=
  if (kvs.any fun kv => decide (kv.1 = k)) = true then kvs.map (fun kv => if kv.1 = k then (kv.1, v) else kv) else kvs ++ [(k, v)]
def dropK (kvs : List (κ × V)) (k : κ) : List (κ × V) := kvs.filter fun kv => decide (kv.1 ≠ k)
theorem valV_pos {p : κ × V} {r : List (κ × V)} {k : κ} (e : p.1 = k) : valV (p :: r) k = some p.2 := by simp [valV, List.find?_cons, e]
theorem valV_neg {p : κ × V} {r : List (κ × V)} {k : κ} (e : ¬ p.1 = k) : valV (p :: r) k = valV r k := by simp [valV, List.find?_cons, e]
theorem valV_any (k : κ) : ∀ kvs : List (κ × V), (kvs.any fun kv => decide (kv.1 = k)) = (valV kvs k).isSome
  | [] => rfl
  | p :: r => by
    rw [List.any_cons]
    by_cases e : p.1 = k
    · simp only [valV_pos e, decide_eq_true e, Bool.true_or, Option.isSome_some]
    · rw [valV_neg e, decide_eq_false e, Bool.false_or]; exact valV_any k r
theorem length_putK (kvs : List (κ × V)) (k : κ) (v : V) : (putK kvs k v).length ≤ kvs.length + 1 := by
  unfold putK
  split
  · rw [List.length_map]; omega
  · rw [List.length_append, List.length_cons, List.length_nil]; omega
theorem putK_new {kvs : List (κ × V)} {k : κ} (v : V) (h : valV kvs k = none) : putK kvs k v = kvs ++ [(k, v)] := by
  unfold putK
  rw [valV_any, h]
  exact if_neg (by decide)
theorem RelO.isSome_eq {o : Option V} {u : Option Value} (r : RelO o u) : o.isSome = u.isSome := by
  cases o with
  | none => cases u with
    | none => rfl
    | some _ => exact (show False from r).elim
  | some _ => cases u with
    | none => exact (show False from r).elim
    | some _ => rfl
theorem RelO.getD {o : Option V} {u : Option Value} {d : V} {d' : Value} (r : RelO o u) (rd : RelV d d') : RelV (o.getD d) (u.getD d') := by
  cases o with
  | none => cases u with
    | none => exact rd
    | some _ => exact (show False from r).elim
  | some _ => cases u with
    | none => exact (show False from r).elim
    | some _ => exact r
theorem KV.val {kvs : List (κ × V)} {vs : List (κ × Value)} (r : KV kvs vs) (k : κ) : RelO (valV kvs k) (valueAt vs k) := by
  unfold KV at r
  induction r with
  | nil => exact True.intro
  | @cons p q ps qs h t ih =>
    obtain ⟨h1, h2⟩ := h
    by_cases e : p.1 = k
    · have e' : q.1 = k := h1.symm.trans e
      have b : valueAt (q :: qs) k = some q.2 := by simp [valueAt, List.find?_cons, e']
      rw [valV_pos e, b]; exact h2
    · have e' : ¬ q.1 = k := fun z => e (h1.trans z)
      have b : valueAt (q :: qs) k = valueAt qs k := by simp [valueAt, List.find?_cons, e']
      rw [valV_neg e, b]; exact ih
theorem KV.any {kvs : List (κ × V)} {vs : List (κ × Value)} (r : KV kvs vs) (k : κ) : (kvs.any fun kv => decide (kv.1 = k)) = vs.any fun kv => decide (kv.1 = k) := by
  unfold KV at r
  induction r with
  | nil => rfl
  | cons h t ih => rw [List.any_cons, List.any_cons, ih, h.1]
theorem KV.repl {kvs : List (κ × V)} {vs : List (κ × Value)} (r : KV kvs vs) (k : κ) {y : V} {u : Value} (ry : RelV y u) :
    KV (kvs.map fun kv => if kv.1 = k then (kv.1, y) else kv) (vs.map fun kv => if kv.1 = k then (kv.1, u) else kv) := by
  unfold KV at r ⊢
  induction r with
  | nil => exact .nil
  | @cons p q ps qs h t ih =>
    rw [List.map_cons, List.map_cons]
    refine .cons ?_ ih
    obtain ⟨h1, h2⟩ := h
    by_cases e : p.1 = k
    · rw [if_pos e, if_pos (h1.symm.trans e)]; exact ⟨h1, ry⟩
    · rw [if_neg e, if_neg (fun z => e (h1.trans z))]; exact ⟨h1, h2⟩
theorem KV.put {kvs : List (κ × V)} {vs : List (κ × Value)} (r : KV kvs vs) (k : κ) {y : V} {u : Value} (ry : RelV y u) : KV (putK kvs k y) (stored vs k u) := by
  unfold putK stored
  rw [r.any k]
  by_cases e : (vs.any fun kv => decide (kv.1 = k)) = true
  · rw [if_pos e, if_pos e]; exact r.repl k ry
  · rw [if_neg e, if_neg e]; exact Paired.snoc r ⟨rfl, ry⟩
theorem KV.drop {kvs : List (κ × V)} {vs : List (κ × Value)} (r : KV kvs vs) (k : κ) : KV (dropK kvs k) (without vs k) := by
  unfold KV at r ⊢
  unfold dropK without
  induction r with
  | nil => exact .nil
  | @cons p q ps qs h t ih =>
    obtain ⟨h1, h2⟩ := h
    rw [List.filter_cons, List.filter_cons]
    by_cases e : p.1 = k
    · have a : ¬ decide (p.1 ≠ k) = true := by simp [e]
      have b : ¬ decide (q.1 ≠ k) = true := by simp [h1.symm.trans e]
      rw [if_neg a, if_neg b]; exact ih
    · have e' : ¬ q.1 = k := fun z => e (h1.trans z)
      have a : decide (p.1 ≠ k) = true := by simp [e]
      have b : decide (q.1 ≠ k) = true := by simp [e']
      rw [if_pos a, if_pos b]; exact .cons ⟨h1, h2⟩ ih
theorem KV.keys {kvs : List (κ × V)} {vs : List (κ × Value)} (r : KV kvs vs) : kvs.map (·.1) = vs.map (·.1) := by
  unfold KV at r
  induction r with
  | nil => rfl
  | cons h t ih => rw [List.map_cons, List.map_cons, ih, h.1]
theorem KV.length {kvs : List (κ × V)} {vs : List (κ × Value)} (r : KV kvs vs) : kvs.length = vs.length := Paired.length r
end
theorem kV_is {P : Program} {w : World} {k : Key} {u : Value} (r : RelV (kV k) u) : (mixKind P w).is k u = true := by
  cases k with
  | inl i => obtain ⟨t, e⟩ := (show ∃ t, u = Value.int i t from r); subst e; exact mixKind_int P w i t
  | inr x => obtain ⟨t, e⟩ := (show ∃ t, u = Value.str x t from r); subst e; exact mixKind_str P w x t
theorem items_are {P : Program} {w : World} : ∀ {ks : List Key} {us : List Value}, Vals (ks.map kV) us → ItemsAre (mixKind P w) ks us
  | [], _, r => by rw [List.map_nil] at r; cases r; exact .nil
  | k :: ks, _, r => by
    rw [List.map_cons] at r
    cases r with
    | cons h t => exact .cons (kV_is h) (items_are t)
abbrev KT (H : Hp) : List (List Key × V) → List (List Key × Addr × Value) → Prop := Paired fun p q => p.1 = q.1 ∧ H q.2.1 = some (.tup (p.1.map kV)) ∧ RelV p.2 q.2.2
theorem KT.val {H : Hp} {kvs : List (List Key × V)} {xs : List (List Key × Addr × Value)} (r : KT H kvs xs) (k : List Key) : RelO (valV kvs k) ((atKey xs k).map (·.2)) := by
  induction r with
  | nil => exact True.intro
  | @cons p q ps qs h t ih =>
    obtain ⟨h1, _, h2⟩ := h
    by_cases e : p.1 = k
    · have e' : q.1 = k := h1.symm.trans e
      have b : atKey (q :: qs) k = some q.2 := by simp [atKey, List.find?_cons, e']
      rw [valV_pos e, b]; exact h2
    · have e' : ¬ q.1 = k := fun z => e (h1.trans z)
      have b : atKey (q :: qs) k = atKey qs k := by simp [atKey, List.find?_cons, e']
      rw [valV_neg e, b]; exact ih
theorem KT.repl {H : Hp} {kvs : List (List Key × V)} {xs : List (List Key × Addr × Value)} (r : KT H kvs xs) (k : List Key) {y : V} {u : Value} (ry : RelV y u) :
    KT H (kvs.map fun kv => if kv.1 = k then (kv.1, y) else kv) (xs.map (putAt k u)) := by
  induction r with
  | nil => exact .nil
  | @cons p q ps qs h t ih =>
    rw [List.map_cons, List.map_cons]
    refine .cons ?_ ih
    obtain ⟨h1, h2, h3⟩ := h
    unfold putAt
    by_cases e : p.1 = k
    · rw [if_pos e, if_pos (h1.symm.trans e)]; exact ⟨h1, h2, ry⟩
    · rw [if_neg e, if_neg (fun z => e (h1.trans z))]; exact ⟨h1, h2, h3⟩
theorem KT.put {H : Hp} {kvs : List (List Key × V)} {xs : List (List Key × Addr × Value)} (r : KT H kvs xs) (k : List Key) {b : Addr} {y : V} {u : Value} (hb : H b = some (.tup (k.map kV))) (ry : RelV y u) :
    KT H (putK kvs k y) (storedH xs k b u) := by
  have e : (kvs.any fun kv => decide (kv.1 = k)) = (atKey xs k).isSome := by
    rw [valV_any, (r.val k).isSome_eq, Option.isSome_map]
  unfold putK storedH
  rw [e]
  by_cases q : (atKey xs k).isSome = true
  · rw [if_pos q, if_pos q]; exact r.repl k ry
  · rw [if_neg q, if_neg q]; exact Paired.snoc r ⟨rfl, hb, ry⟩
theorem KT.keeps {H H' : Hp} {kvs : List (List Key × V)} {xs : List (List Key × Addr × Value)} (r : KT H kvs xs) (ht : ∀ b ys, H b = some (.tup ys) → H' b = some (.tup ys)) : KT H' kvs xs :=
  Paired.mapP r fun _ _ z => ⟨z.1, ht _ _ z.2.1, z.2.2⟩
section
variable {P : Program} {w : World} {H : Hp} {h : Heap} {a : Addr}
theorem rd_of {u : HO} (ok : HOk P w H h) (e : Rd H a u) : ObjOk P w H h a u := e.ok ok
theorem dk_rd {kvs : List (Key × V)} (ok : HOk P w H h) (e : Rd H a (.dK kvs)) : kvs.length ≤ sizeLine ∧ (a == sysModules) = false ∧ ∃ vs, KV kvs vs ∧ h.DictOf (mixKind P w) a vs :=
  show ObjOk P w H h a (.dK kvs) from rd_of ok e
theorem dk_of {kvs : List (Key × V)} (ok : HOk P w H h) (e : H a = some (.dK kvs)) : kvs.length ≤ sizeLine ∧ (a == sysModules) = false ∧ ∃ vs, KV kvs vs ∧ h.DictOf (mixKind P w) a vs := dk_rd ok (.inl e)
theorem key_of {ks : List Key} (ok : HOk P w H h) (e : H a = some (.tup (ks.map kV))) : (tupleKind (mixKind P w)).is h ks a := by
  obtain ⟨_, its, r, o, h1, h2, n, h3⟩ := (show ObjOk P w H h a (.tup (ks.map kV)) from ok a _ e)
  exact ⟨o, its.toArray, n, h1, h2, h3, by simpa using items_are r⟩
theorem dt_rd {kvs : List (List Key × V)} (ok : HOk P w H h) (e : Rd H a (.dT kvs)) : kvs.length ≤ sizeLine ∧ (a == sysModules) = false ∧
    ∃ xs, KT H kvs xs ∧ h.DictOfH (tupleKind (mixKind P w)) a xs := by
  obtain ⟨z, y, xs, r, o, es, ep, h1, h2, h3, h4, h5⟩ := (show ObjOk P w H h a (.dT kvs) from rd_of ok e)
  refine ⟨z, y, xs, r, o, es, ep, h1, h2, h3, h4, fun x hx => ?_, h5⟩
  have all : ∀ {l : List (List Key × V)} {m : List (List Key × Addr × Value)}, KT H l m → ∀ x ∈ m, (tupleKind (mixKind P w)).is h x.1 x.2.1 := by
    intro l m q
    induction q with
    | nil => intro x hx; exact nomatch hx
    | @cons p q ps qs hq t ih =>
      intro x hx
      rcases List.mem_cons.mp hx with e | hx
      · subst e
        exact key_of ok (by rw [← hq.1]; exact hq.2.1)
      · exact ih x hx
  exact all r x hx
theorem dt_of {kvs : List (List Key × V)} (ok : HOk P w H h) (e : H a = some (.dT kvs)) : kvs.length ≤ sizeLine ∧ (a == sysModules) = false ∧
    ∃ xs, KT H kvs xs ∧ h.DictOfH (tupleKind (mixKind P w)) a xs := dt_rd ok (.inl e)
end
def DGet (H : Hp) (a : Addr) (y : V) (r : Option V) : Prop :=
  (∃ kvs k, Rd H a (.dK kvs) ∧ y = kV k ∧ r = valV kvs k) ∨ ∃ kvs k b, Rd H a (.dT kvs) ∧ y = .ref b ∧ H b = some (.tup (k.map kV)) ∧ r = valV kvs k
def DPut (H : Hp) (a : Addr) (y v : V) (H' : Hp) : Prop :=
  (∃ kvs k, H a = some (.dK kvs) ∧ y = kV k ∧ kvs.length < sizeLine ∧ H' = upd H a (.dK (putK kvs k v))) ∨
  ∃ kvs k b, H a = some (.dT kvs) ∧ y = .ref b ∧ H b = some (.tup (k.map kV)) ∧ kvs.length < sizeLine ∧ H' = upd H a (.dT (putK kvs k v))
theorem DGet.k {H : Hp} {a : Addr} {kvs : List (Key × V)} {k : Key} (e : H a = some (.dK kvs)) : DGet H a (kV k) (valV kvs k) := .inl ⟨kvs, k, .inl e, rfl, rfl⟩
theorem DGet.t {H : Hp} {a b : Addr} {kvs : List (List Key × V)} {k : List Key} (e : H a = some (.dT kvs)) (eb : H b = some (.tup (k.map kV))) : DGet H a (.ref b) (valV kvs k) := .inr ⟨kvs, k, b, .inl e, rfl, eb, rfl⟩
theorem DPut.k {H : Hp} {a : Addr} {kvs : List (Key × V)} {k : Key} {v : V} (e : H a = some (.dK kvs)) (hl : kvs.length < sizeLine) : DPut H a (kV k) v (upd H a (.dK (putK kvs k v))) := .inl ⟨kvs, k, e, rfl, hl, rfl⟩
theorem DPut.t {H : Hp} {a b : Addr} {kvs : List (List Key × V)} {k : List Key} {v : V} (e : H a = some (.dT kvs)) (eb : H b = some (.tup (k.map kV))) (hl : kvs.length < sizeLine) :
    DPut H a (.ref b) v (upd H a (.dT (putK kvs k v))) := .inr ⟨kvs, k, b, e, rfl, eb, hl, rfl⟩
section
variable {X : Cx} {pins : List (Addr × Obj)} {σ : St} {H : Hp} {s : Shared} {a : Addr} {y v : V} {u r : Value} {o : Option V} {A : Around} {E : Value → Shared → Prop}
theorem Inv.big (I : Inv X pins σ H s) : sysModules < s.heap.objs.size := by
  have h : mainGlobals < s.heap.objs.size := (I.mod.glob.keeps I.bk).lt
  exact Nat.lt_trans (by decide) h
theorem d_getItem {Q : Value → Shared → Prop} (hu : A.units + 1 < cLine) (I : Inv X pins σ H s) (g : DGet H a y (some v)) (ry : RelV y u) (h : ∀ w' s', Inv X pins σ H s' → RelV v w' → Q w' s') :
    wpAny (model X.prog X.w) A (getItem (.ref a) u) Q E s := by
  rcases g with ⟨kvs, k, e, ey, l⟩ | ⟨kvs, k, b, e, ey, eb, l⟩
  · subst ey
    obtain ⟨z, hd, vs, rel, dd⟩ := dk_rd I.hok e
    obtain ⟨w', hw, rw'⟩ := RelO.some_of (v := v) (o := valueAt vs k) (by rw [l]; exact rel.val k)
    exact wpAny_getItem_of (kV_is ry) dd.mapOf hw (h w' _ (I.tok _) rw')
  · subst ey
    cases (show u = Value.ref b from ry)
    obtain ⟨z, hd, xs, rel, dd⟩ := dt_rd I.hok e
    obtain ⟨w', hw, rw'⟩ := RelO.some_of (v := v) (o := (atKey xs k).map (·.2)) (by rw [l]; exact rel.val k)
    obtain ⟨p, hp, hp2⟩ := Option.map_eq_some_iff.mp hw
    refine wpAny_getItem_heap (tupleKind_room_in1 hu) (key_of I.hok eb) dd hp ?_
    rw [hp2]
    exact h w' _ (I.tok _) rw'
theorem d_in {Q : Value → Shared → Prop} (hu : A.units + 1 < cLine) (I : Inv X pins σ H s) (g : DGet H a y o) (ry : RelV y u) (h : ∀ s', Inv X pins σ H s' → Q (.bool o.isSome) s') :
    wpAny (model X.prog X.w) A (compareOp .In u (.ref a)) Q E s := by
  rcases g with ⟨kvs, k, e, ey, l⟩ | ⟨kvs, k, b, e, ey, eb, l⟩
  · subst ey
    obtain ⟨z, hd, vs, rel, dd⟩ := dk_rd I.hok e
    refine wpAny_in_of (kV_is ry) hd dd.mapOf ?_
    rw [← (rel.val k).isSome_eq, ← l]
    exact h _ (I.tok _)
  · subst ey
    cases (show u = Value.ref b from ry)
    obtain ⟨z, hd, xs, rel, dd⟩ := dt_rd I.hok e
    refine wpAny_in_heap (tupleKind_room_in1 hu) (key_of I.hok eb) hd dd ?_
    have q := (rel.val k).isSome_eq
    rw [Option.isSome_map] at q
    rw [← q, ← l]
    exact h _ (I.tok _)
theorem d_notIn {Q : Value → Shared → Prop} (hu : A.units + 1 < cLine) (I : Inv X pins σ H s) (g : DGet H a y o) (ry : RelV y u) (h : ∀ s', Inv X pins σ H s' → Q (.bool (!o.isSome)) s') :
    wpAny (model X.prog X.w) A (compareOp .NotIn u (.ref a)) Q E s := by
  rcases g with ⟨kvs, k, e, ey, l⟩ | ⟨kvs, k, b, e, ey, eb, l⟩
  · subst ey
    obtain ⟨z, hd, vs, rel, dd⟩ := dk_rd I.hok e
    refine wpAny_notIn_of (kV_is ry) hd dd.mapOf ?_
    rw [← (rel.val k).isSome_eq, ← l]
    exact h _ (I.tok _)
  · subst ey
    cases (show u = Value.ref b from ry)
    obtain ⟨z, hd, xs, rel, dd⟩ := dt_rd I.hok e
    refine wpAny_notIn_heap (tupleKind_room_in1 hu) (key_of I.hok eb) hd dd ?_
    have q := (rel.val k).isSome_eq
    rw [Option.isSome_map] at q
    rw [← q, ← l]
    exact h _ (I.tok _)
theorem d_write {h' : Heap} {t' : Nat} {ob : HO} (I : Inv X pins σ H s) (mu : Mut (H a)) (hs : Heap.SameBut a s.heap h') (he : ∃ q, h'.get? a = some q) (new : ObjOk X.prog X.w (upd H a ob) h' a ob) :
    Inv X pins σ (upd H a ob) { s with heap := h', toks := t' } :=
  I.write (x := a) (e := a) mu (.inl rfl) (fun b q hb z => (hs.2 b hb).trans z) he new
theorem dk_new {P : Program} {w : World} {H' : Hp} {h' : Heap} {kvs : List (Key × V)} {vs : List (Key × Value)} (z : kvs.length ≤ sizeLine) (hd : (a == sysModules) = false) (rel : KV kvs vs) (dd : h'.DictOf (mixKind P w) a vs) :
    ObjOk P w H' h' a (.dK kvs) := ⟨z, hd, vs, rel, dd⟩
theorem d_setItem {H' : Hp} {Q : Unit → Shared → Prop} (hu : A.units + 1 < cLine) (I : Inv X pins σ H s) (g : DPut H a y v H') (ry : RelV y u) (rv : RelV v r) (h : ∀ s', Inv X pins σ H' s' → Q () s') :
    wpAny (model X.prog X.w) A (setItem (.ref a) u r) Q E s := by
  rcases g with ⟨kvs, k, e, ey, l, eH⟩ | ⟨kvs, k, b, e, ey, eb, l, eH⟩
  · subst ey eH
    obtain ⟨z, hd, vs, rel, dd⟩ := dk_of I.hok e
    have hz : vs.length ≤ sizeLine := by rw [← rel.length]; exact z
    have hl : (putK kvs k v).length ≤ sizeLine := by have := length_putK kvs k v; omega
    refine wpAny_setItem_pairs (hsz := hz) (kV_is ry) dd fun h' dd' hs => h _ ?_
    have he : ∃ q, h'.get? a = some q := let ⟨q, _, _, hq, _⟩ := dd'; ⟨q, hq⟩
    exact d_write I (by rw [e]; exact True.intro) hs he (dk_new hl hd (rel.put k rv) dd')
  · subst ey eH
    cases (show u = Value.ref b from ry)
    obtain ⟨z, hd, xs, rel, dd⟩ := dt_of I.hok e
    have hz : xs.length ≤ sizeLine := by rw [← Paired.length rel]; exact z
    have hl : (putK kvs k v).length ≤ sizeLine := by have := length_putK kvs k v; omega
    refine wpAny_setItem_heap (hsz := hz) (tupleKind_room_in1 hu) (key_of I.hok eb) dd fun h' dd' hs => h _ ?_
    obtain ⟨q, es, ep, hq, h2, h3, h4, _, h5⟩ := dd'
    refine d_write I (by rw [e]; exact True.intro) hs ⟨q, hq⟩ ⟨hl, hd, _, (rel.put k eb rv).keeps fun c ys ec => ?_, q, es, ep, hq, h2, h3, h4, h5⟩
    rw [upd_ne (ne_of ec e (fun z => nomatch z))]
    exact ec
end
section
variable {X : Cx} {pins : List (Addr × Obj)} {σ : St} {H : Hp} {s : Shared} {a : Addr} {kvs : List (Key × V)} {k : Key} {u : Value} {A : Around} {E : Value → Shared → Prop}
theorem d_len {Q : Value → Shared → Prop} (I : Inv X pins σ H s) (e : Rd H a (.dK kvs)) (h : ∀ t s', Inv X pins σ H s' → Q (.int kvs.length t) s') : wpAny (model X.prog X.w) A (call (.builtin "len") [.ref a]) Q E s := by
  obtain ⟨z, hd, vs, rel, dd⟩ := dk_rd I.hok e
  refine call_len_dict hd dd (by rw [← rel.length]; rw [sizeLine_eq] at z; omega) ?_
  rw [← rel.length]
  exact h _ _ (I.tok _)
end
def NoSl (i : Expr) : Prop := ∀ ov iv, subscripted i false ov iv = operate [ov, iv] (getItem ov iv)
theorem subD_of {prog : Program} {w : World} {A : Around} {E : Value → Shared → Prop} {s : Shared} {env : Env} {value slice : Expr} {pos : Pos} {T id : String} {Q : Value → Shared → Prop}
    (hl : typeLookup (.type T) "__getitem__" = pure (some (.builtin id))) (hs : NoSl slice)
    (h : wpAny (model prog w) A (eval value env) (fun o s₁ => wpAny (model prog w) A (eval slice env) (fun i s₂ => s₂.TypeIs o T ∧ wpAny (model prog w) A (getItem o i) Q E s₂) E s₁) E s) :
    wpAny (model prog w) A (eval (.Subscript value slice pos) env) Q E s := by
  refine Subscript_ (wpAny_mono h (fun o s₁ h₁ => wpAny_mono h₁ (fun i s₂ h₂ => ?_) fun _ _ x => x) fun _ _ x => x)
  obtain ⟨hT, h₂⟩ := h₂
  unfold subscriptTail
  refine wpAny_bind ?_
  rw [getitemInPython_of_ne hT.not_modules]
  refine wpAny_bind (wpAny_specialOf hT hl ?_)
  have fin : wpAny (model prog w) A (subscripted slice false o i) (fun r s₃ => wpAny (model prog w) A (letTemporaryGo value o r >>= fun _ => pure r) Q E s₃) E s₂ := by
    rw [hs o i]
    exact wpAny_operating (wpAny_mono h₂ (fun r s₃ h₃ => wpAny_bind (wpAny_letTemporaryGo (wpAny_pure h₃))) fun _ _ x => x)
  first
    | exact wpAny_pure (wpAny_bind fin)
    | exact wpAny_bind (wpAny_pure (wpAny_bind fin))
    | exact wpAny_bind fin
theorem dict_typeIs {X : Cx} {pins : List (Addr × Obj)} {σ : St} {H : Hp} {s : Shared} {a : Addr} {y : V} {o : Option V} (I : Inv X pins σ H s) (g : DGet H a y o) : s.TypeIs (.ref a) "dict" := by
  rcases g with ⟨kvs, k, e, _, _⟩ | ⟨kvs, k, b, e, _, _, _⟩
  · obtain ⟨_, _, vs, _, dd⟩ := dk_rd I.hok e
    exact dd.typeIs
  · obtain ⟨_, _, xs, _, dd⟩ := dt_rd I.hok e
    exact dd.typeIs
def tDGet (td ty : TE) : TE := fun σ H Q => td σ H fun x H1 => ty σ H1 fun y H2 => ∃ a v, x = .ref a ∧ DGet H2 a y (some v) ∧ Q v H2
def tDIn (ty td : TE) : TE := fun σ H Q => ty σ H fun y H1 => td σ H1 fun x H2 => ∃ a o, x = .ref a ∧ DGet H2 a y o ∧ Q (.bl o.isSome) H2
def tDNotIn (ty td : TE) : TE := fun σ H Q => ty σ H fun y H1 => td σ H1 fun x H2 => ∃ a o, x = .ref a ∧ DGet H2 a y o ∧ Q (.bl (!o.isSome)) H2
def sDPut (td ty tv : TE) : TS := fun D σ H => tv σ H fun v H1 => td σ H1 fun x H2 => ty σ H2 fun y H3 => ∃ a H4, x = .ref a ∧ DPut H3 a y v H4 ∧ D.nx σ H4
section
variable {X : Cx} {o i e value : Expr} {pos pos' tpos : Pos} {td ty tv : TE}
theorem pe_dget (hu : X.A.units + 1 < cLine) (ho : PE X o td) (hi : PE X i ty) (hs : NoSl i) : PE X (.Subscript o i pos) (tDGet td ty) := by
  intro pins s σ H Q I h
  refine subD_of PySem.F.slot_dict_getitem.lookup hs (thn (ho pins s σ H _ I h) fun u s1 ⟨x, H1, I1, rx, q1⟩ => thn (hi pins s1 σ H1 _ I1 q1) fun iv s2 ⟨y, H2, I2, ry, a, v, ex, g, q2⟩ => ?_)
  subst ex
  obtain rfl : u = Value.ref a := rx
  exact ⟨dict_typeIs I2 g, d_getItem hu I2 g ry fun w' s3 I3 rw' => ⟨v, H2, I3, rw', q2⟩⟩
theorem pc_din (hu : X.A.units + 1 < cLine) (hi : PE X i ty) (ho : PE X o td) : PC X .In i o (tDIn ty td) := by
  intro pins s σ H Q I h
  refine thn (hi pins s σ H _ I h) fun iv s1 ⟨y, H1, I1, ry, q1⟩ => thn (ho pins s1 σ H1 _ I1 q1) fun u s2 ⟨x, H2, I2, rx, a, ov, ex, g, q2⟩ => ?_
  subst ex
  obtain rfl : u = Value.ref a := rx
  exact d_in hu I2 g ry fun s3 I3 => ⟨.bl ov.isSome, H2, I3, rfl, q2⟩
theorem pc_dnotin (hu : X.A.units + 1 < cLine) (hi : PE X i ty) (ho : PE X o td) : PC X .NotIn i o (tDNotIn ty td) := by
  intro pins s σ H Q I h
  refine thn (hi pins s σ H _ I h) fun iv s1 ⟨y, H1, I1, ry, q1⟩ => thn (ho pins s1 σ H1 _ I1 q1) fun u s2 ⟨x, H2, I2, rx, a, ov, ex, g, q2⟩ => ?_
  subst ex
  obtain rfl : u = Value.ref a := rx
  exact d_notIn hu I2 g ry fun s3 I3 => ⟨.bl (!ov.isSome), H2, I3, rfl, q2⟩
theorem ps_dput (hu : X.A.units + 1 < cLine) (ho : PE X o td) (hi : PE X i ty) (hv : PE X value tv) (hs : swapsWith value (some (.Subscript o i pos')) pos.line X.env = pure false) :
    PS X (.Assign [.Subscript o i pos'] value pos) (sDPut td ty tv) := by
  intro pins s σ H D I h
  refine wpAny_Assign_Subscript (thn (hv pins s σ H _ I h) fun r s1 ⟨v, H1, I1, rv, q1⟩ => thn (ho pins s1 σ H1 _ I1 q1) fun u s2 ⟨x, H2, I2, rx, q2⟩ => thn (hi pins s2 σ H2 _ I2 q2) fun iv s3 ⟨y, H3, I3, ry, a, H4, ex, g, q3⟩ => ?_) hs
  subst ex
  obtain rfl : u = Value.ref a := rx
  exact d_setItem hu I3 g ry rv fun s4 I4 => ⟨σ, H4, I4, q3⟩
end
theorem dk_empty {P : Program} {w : World} {H : Hp} (h : Heap) (hb : sysModules < h.objs.size) : ObjOk P w H (h.push { cls := .type "dict", data := .dict #[] }) h.objs.size (.dK []) :=
  ⟨Nat.zero_le _, beq_eq_false_iff_ne.mpr (Ne.symm (Nat.ne_of_lt hb)), [], .nil, Heap.DictOf.new h⟩
def tDNewK : TE := fun _ H Q => ∀ p, H p = none → Q (.ref p) (upd H p (.dK []))
section
variable {X : Cx} {pos : Pos}
theorem pe_dnewK : PE X (.Dict [] [] pos) tDNewK := fun pins s σ H Q I h =>
  wpAny_Dict_empty ⟨.ref s.heap.objs.size, _, I.laid (a := s.heap.objs.size) (o := .dK []) (t' := s.toks) (fun _ _ q => Heap.get?_push_of_some _ q) (Nat.le_refl _) (dk_empty s.heap I.big), rfl, h _ (I.hok.fresh (Nat.le_refl _))⟩
end
def tPairs : List (TE × TE) → St → Hp → (List (V × V) → Hp → Prop) → Prop
  | [], _, H, Q => Q [] H
  | (tk, tv) :: r, σ, H, Q => tk σ H fun x H1 => tv σ H1 fun y H2 => tPairs r σ H2 fun ps H3 => Q ((x, y) :: ps) H3
abbrev VV : List (V × V) → List (Value × Value) → Prop := Paired fun p q => RelV p.1 q.1 ∧ RelV p.2 q.2
def PPs (X : Cx) (pos : Pos) (keys : List (Option Expr)) (values : List Expr) (trs : List (TE × TE)) : Prop :=
  ∀ (pins : List (Addr × Obj)) (s : Shared) (σ : St) (H : Hp) (Q : List (V × V) → Hp → Prop), Inv X pins σ H s → tPairs trs σ H Q →
    wpAny (model X.prog X.w) X.A (evalPairs (pairTrees keys values X.env pos)) (fun vs s' => ∃ ps H', Inv X pins σ H' s' ∧ VV ps vs ∧ Q ps H') X.xe s
theorem pps_nil {X : Cx} {pos : Pos} : PPs X pos [] [] [] := fun pins s σ H Q I h => pairTrees_nil_walk ⟨[], H, I, .nil, h⟩
theorem pps_cons {X : Cx} {pos : Pos} {k v : Expr} {ks : List (Option Expr)} {vs : List Expr} {tk tv : TE} {trs : List (TE × TE)} (hk : PE X k tk) (hv : PE X v tv) (hr : PPs X pos ks vs trs) :
    PPs X pos (some k :: ks) (v :: vs) ((tk, tv) :: trs) := fun pins s σ H Q I h =>
  pairTrees_cons_walk (thn (hk pins s σ H _ I h) fun u s1 ⟨x, H1, I1, rx, q1⟩ => thn (hv pins s1 σ H1 _ I1 q1) fun w2 s2 ⟨y, H2, I2, ry, q2⟩ =>
    thn (hr pins s2 σ H2 _ I2 q2) fun ws s3 ⟨ps, H3, I3, rel, q3⟩ => ⟨(x, y) :: ps, H3, I3, .cons ⟨rx, ry⟩ rel, q3⟩)
def mergeK (kvs more : List (Key × V)) : List (Key × V) := more.foldl (fun acc kv => putK acc kv.1 kv.2) kvs
theorem KV.merge : ∀ {more : List (Key × V)} {rs : List (Key × Value)} {kvs : List (Key × V)} {vs : List (Key × Value)}, KV more rs → KV kvs vs → KV (mergeK kvs more) (merged vs rs) := by
  intro more rs kvs vs r
  unfold KV at r
  induction r generalizing kvs vs with
  | nil => intro q; exact q
  | @cons p q ps qs h t ih =>
    intro r0
    have e : KV (putK kvs p.1 p.2) (stored vs q.1 q.2) := by
      have := r0.put p.1 h.2
      rw [← h.1]; exact this
    exact ih e
theorem length_mergeK : ∀ (more kvs : List (Key × V)), (mergeK kvs more).length ≤ kvs.length + more.length
  | [], kvs => by show kvs.length ≤ kvs.length + 0; omega
  | p :: r, kvs => by
    have h1 := length_mergeK r (putK kvs p.1 p.2)
    have h2 := length_putK kvs p.1 p.2
    show (mergeK (putK kvs p.1 p.2) r).length ≤ _
    rw [List.length_cons]; omega
theorem carries_of {P : Program} {w : World} : ∀ {kvs : List (Key × V)} {ws : List (Value × Value)}, VV (kvs.map fun kv => (kV kv.1, kv.2)) ws → ∃ rs, Carries (mixKind P w) ws rs ∧ KV kvs rs
  | [], _, r => by rw [List.map_nil] at r; cases r; exact ⟨[], True.intro, .nil⟩
  | p :: kvs, _, r => by
    rw [List.map_cons] at r
    cases r with
    | @cons a b as bs h t =>
      obtain ⟨rs, c, q⟩ := carries_of (P := P) (w := w) t
      obtain ⟨b1, b2⟩ := b
      exact ⟨(p.1, b2) :: rs, ⟨kV_is h.1, rfl, c⟩, .cons ⟨rfl, h.2⟩ q⟩
def tDisp (trs : List (TE × TE)) : TE := fun σ H Q => ∀ p, H p = none → tPairs trs σ (upd H p (.dK [])) fun ps H2 => H2 p = some (.dK []) ∧ ∃ kvs : List (Key × V), ps = kvs.map (fun kv => (kV kv.1, kv.2)) ∧ kvs.length ≤ 15 ∧ Q (.ref p) (upd H2 p (.dK (mergeK [] kvs)))
theorem pe_disp {X : Cx} {pos : Pos} {keys : List (Option Expr)} {values : List Expr} {trs : List (TE × TE)} (h : PPs X pos keys values trs) (hall : keys.all (·.isSome) = true) (hl : keys.length = values.length) (h0 : keys ≠ [])
    (h15 : keys.length ≤ 15) : PE X (.Dict keys values pos) (tDisp trs) := by
  intro pins s σ H Q I q
  have hn := I.hok.fresh (Nat.le_refl s.heap.objs.size)
  have I1 := I.laid (a := s.heap.objs.size) (o := .dK []) (h' := s.heap.push { cls := .type "dict", data := .dict #[] }) (t' := s.toks) (fun _ _ q => Heap.get?_push_of_some _ q) (Nat.le_refl _) (dk_empty s.heap I.big)
  refine wpAny_Dict_walk (knd := mixKind X.prog X.w) hall hl h0 h15 (thn (h pins _ σ _ _ I1 (q _ hn)) fun ws s2 ⟨ps, H2, I2, rel, e, kvs, ep, lk, q2⟩ => ?_)
  subst ep
  obtain ⟨rs, c, rk⟩ := carries_of (P := X.prog) (w := X.w) rel
  obtain ⟨z, hd, vs0, r0, dd⟩ := dk_of I2.hok e
  cases r0
  refine ⟨rs, c, dd, fun h' dd' hs => ⟨.ref s.heap.objs.size, _, ?_, rfl, q2⟩⟩
  have hz : (mergeK [] kvs).length ≤ sizeLine := by
    have h1 := length_mergeK kvs []
    rw [List.length_nil] at h1
    rw [sizeLine_eq]; omega
  have he : ∃ q, h'.get? s.heap.objs.size = some q := let ⟨q, _, _, hq, _⟩ := dd'; ⟨q, hq⟩
  exact d_write I2 (by rw [e]; exact True.intro) hs he (dk_new hz hd (rk.merge .nil) dd')
structure M1 (X : Cx) (o : Expr) (m : Str) (apos : Pos) (e : Expr) (cpos : Pos) : Prop where
  base : attributeBase o m X.env (eval o X.env) = eval o X.env
  few : ((backTo cpos (starEach [e] X.env)).all (fun x => !x.1) && (backToKw cpos (keywordEach [] X.env)).all (fun x => x.1.isSome)
    && decide (([e] : List Expr).length + ([] : List Keyword).length + (if ([] : List Keyword).isEmpty then 0 else 1) < 30)) = true
  line : (apos.endLine == cpos.line) = true
  trees : backTo cpos (starEach [e] X.env) = [(false, eval e X.env)]
structure M2 (X : Cx) (o : Expr) (m : Str) (apos : Pos) (e f : Expr) (cpos : Pos) : Prop where
  base : attributeBase o m X.env (eval o X.env) = eval o X.env
  few : ((backTo cpos (starEach [e, f] X.env)).all (fun x => !x.1) && (backToKw cpos (keywordEach [] X.env)).all (fun x => x.1.isSome)
    && decide (([e, f] : List Expr).length + ([] : List Keyword).length + (if ([] : List Keyword).isEmpty then 0 else 1) < 30)) = true
  line : (apos.endLine == cpos.line) = true
  trees : backTo cpos (starEach [e, f] X.env) = [(false, eval e X.env), (false, eval f X.env)]
def IsD (H : Hp) (a : Addr) : Prop := (∃ kvs, Rd H a (.dK kvs)) ∨ ∃ kvs, Rd H a (.dT kvs)
theorem isD_at {X : Cx} {pins : List (Addr × Obj)} {σ : St} {H : Hp} {s : Shared} {a : Addr} (I : Inv X pins σ H s) (d : IsD H a) :
    s.TypeIs (.ref a) "dict" ∧ (∀ b, Value.ref a = .ref b → ∃ ob, s.heap.get? b = some ob ∧ ob.dict = none) ∧ (a == sysModules) = false := by
  rcases d with ⟨kvs, e⟩ | ⟨kvs, e⟩
  · obtain ⟨_, hd, vs, _, dd⟩ := dk_rd I.hok e
    refine ⟨dd.typeIs, fun b q => ?_, hd⟩
    cases q
    obtain ⟨ob, _, _, h1, h2, _⟩ := dd
    exact ⟨ob, h1, h2.2.1⟩
  · obtain ⟨_, hd, xs, _, dd⟩ := dt_rd I.hok e
    refine ⟨dd.typeIs, fun b q => ?_, hd⟩
    cases q
    obtain ⟨ob, _, _, h1, h2, _⟩ := dd
    exact ⟨ob, h1, h2.2.1⟩
section
variable {X : Cx} {pins : List (Addr × Obj)} {σ : St} {H : Hp} {s : Shared} {a : Addr} {y d : V} {u r : Value} {o : Option V} {A : Around} {E : Value → Shared → Prop}
theorem d_get2 {Q : Value → Shared → Prop} (hu : A.units + 1 < cLine) (I : Inv X pins σ H s) (g : DGet H a y o) (ry : RelV y u) (rd : RelV d r) (h : ∀ w' s', Inv X pins σ H s' → RelV (o.getD d) w' → Q w' s') :
    wpAny (model X.prog X.w) A (call (.builtin "dict.get") [.ref a, u, r]) Q E s := by
  rcases g with ⟨kvs, k, e, ey, l⟩ | ⟨kvs, k, b, e, ey, eb, l⟩
  · subst ey
    obtain ⟨z, hd, vs, rel, dd⟩ := dk_rd I.hok e
    refine call_meetsIn PySem.F.slot_dict_get dd.typeIs PySem.F.entry_dict_get (PySem.F.args_dict_get_3 _ _ _) (meets_dict_get_default (mixKind X.prog X.w) a (kV_is ry) hd r) ⟨_, dd.mapOf, h _ _ (I.tok _) ?_⟩
    rw [l]
    exact (rel.val k).getD rd
  · subst ey
    cases (show u = Value.ref b from ry)
    obtain ⟨z, hd, xs, rel, dd⟩ := dt_rd I.hok e
    refine call_meetsIn PySem.F.slot_dict_get dd.typeIs PySem.F.entry_dict_get (PySem.F.args_dict_get_3 _ _ _) (meetsH_dict_get_default (tupleKind (mixKind X.prog X.w)) a b hd r) ⟨tupleKind_room_in1 hu, k, xs, key_of I.hok eb, dd, h _ _ (I.tok _) ?_⟩
    rw [l]
    exact (rel.val k).getD rd
end
def tDGet2 (td ty tx : TE) : TE := fun σ H Q => td σ H fun x H1 => ∃ a, x = .ref a ∧ IsD H1 a ∧ ty σ H1 fun y H2 => tx σ H2 fun z H3 => ∃ o, DGet H3 a y o ∧ Q (o.getD z) H3
section
variable {X : Cx} {o e f : Expr} {apos cpos : Pos} {td ty tx : TE}
theorem pe_dget2 (hu : X.A.units + 1 < cLine) (ho : PE X o td) (he : PE X e ty) (hf : PE X f tx) (m : M2 X o "get" apos e f cpos) : PE X (.Call (.Attribute o "get" apos) [e, f] [] cpos) (tDGet2 td ty tx) := by
  intro pins s σ H Q I h
  refine wpAny_Call_method m.base m.few m.line PySem.F.plainAttrs_dict PySem.F.slot_dict_get PySem.F.type_dict_get (thn (ho pins s σ H _ I h) fun u s1 ⟨x, H1, I1, rx, a, ex, d, q1⟩ => ?_)
  subst ex
  obtain rfl : u = Value.ref a := rx
  obtain ⟨t1, t2, _⟩ := isD_at I1 d
  refine ⟨t1, t2, ?_⟩
  rw [m.trees]
  refine Calls.callWith_builtin rfl (Calls.evalArgs_plain (Calls.spliced_cons (thn (he pins s1 σ H1 _ I1 q1) fun iv s2 ⟨y, H2, I2, ry, q2⟩ =>
    Calls.spliced_cons (thn (hf pins s2 σ H2 _ I2 q2) fun fv s3 ⟨z, H3, I3, rz, ov, g, q3⟩ => Calls.spliced_nil ?_))))
  exact d_get2 hu I3 g ry rz fun w' s4 I4 rw' => ⟨_, H3, I4, rw', q3⟩
end
section
variable {X : Cx} {pins : List (Addr × Obj)} {σ : St} {H : Hp} {s : Shared} {a : Addr} {kvs : List (Key × V)} {A : Around} {E : Value → Shared → Prop}
end
section
variable {X : Cx} {pins : List (Addr × Obj)} {σ : St} {H : Hp} {s : Shared} {a : Addr} {y : V} {u : Value} {A : Around} {E : Value → Shared → Prop}
end
end L2
namespace Att
open PySem PySem.W PySem.Calls PyProof.Rows
theorem ints_of_wellAll {P : Params} {h : Heap} : ∀ (ns : List Int) (vs : List Value), WellAll P h vs (ns.map WData.int) → IntsAre vs ns := by
  intro ns
  induction ns with
  | nil =>
    intro vs w
    rw [List.map_nil] at w
    cases w
    exact .nil
  | cons n ns ih =>
    intro vs w
    rw [List.map_cons] at w
    cases w with
    | cons a b =>
      cases a
      exact .cons _ _ (ih _ b)
theorem script_of {l : OpenLaw} {n : Nat} (hn : l.most = some n) {P : Params} {h : Heap} {args : List WData} {vals : List Value}
    (hpre : l.row.toRowW.claim.pre args = true) (hwl : WellAll P h vals args) :
    ∃ a vs ns, vals = [Value.ref a] ∧ args = [WData.list (ns.map WData.int)] ∧ h.get? a = some { cls := .type "list", data := .seq vs.toArray } ∧ IntsAre vs ns ∧ ns.length ≤ n := by
  have hsh : WShape.hasAll [] args [.list .int] = true := (pre_splitW hpre).1
  have hc : l.pre.holds [] { args := args } = true := (pre_splitW hpre).2
  obtain ⟨d, r, rfl, h1, h2⟩ := hasAllW_cons hsh
  obtain rfl := hasAllW_nil h2
  obtain ⟨xs, rfl, h3⟩ := hasW_list h1
  obtain ⟨ns, rfl⟩ := items_int h3
  have hlen : ns.length ≤ n := by
    unfold OpenLaw.pre at hc
    have h4 : (WTm.not (.lt (.lit (.int (n : Int))) (.len (.arg 0)))).holds [] { args := [.list (ns.map .int)] } = true := by
      have h4 := (holds_andW hc).1
      rw [hn] at h4
      exact h4
    have h5 := condW_of h4 (w_not (w_lt w_lit (w_len_list (w_arg rfl))))
    rw [List.length_map] at h5
    refine Nat.le_of_not_lt fun q => ?_
    have q' : (n : Int) < ((ns.length : Nat) : Int) := by omega
    first
      | (rw [decide_eq_true q'] at h5; exact absurd h5 (by decide))
      | (simp at h5; omega)
  cases hwl with
  | cons w1 w2 =>
    cases w2
    cases w1 with
    | list ho hall => exact ⟨_, _, ns, rfl, rfl, ho, ints_of_wellAll ns _ hall, hlen⟩
theorem post_true (l : OpenLaw) (args : List WData) : l.row.toRowW.claim.post args (.bool true) args = true :=
  postW_of (r := l.row.toRowW) (X := (true == true))
    (show WShape.has [] (.bool true) .bool = true by first | rfl | decide | simp [WShape.has, WShape.arms, WShape.armsAll])
    (show (WTm.eq .res (.lit (.bool true))).value [] { args := args, res := some (.bool true), after := args } = some (.bool (true == true)) from w_eq_bool (w_res rfl) w_lit) rfl
theorem attach_call {l : OpenLaw} {n : Nat} {q : Program} {loose : List Str} {XP : (Str → Option Value) → Heap → Prop} {YP : World → Heap → Prop} {d : DefRec}
    (hn : l.most = some n) (hdf : d.params.defaults = [])
    (call : ∀ (w : World) (s₀ s₁ : Shared) (mg mb : Str → Option Value) (fa : Addr) (o : Obj) (pm cd doc : Value) (a : Addr) (vs : List Value) (ns : List Int),
      Ground q loose [] XP w s₀ mg mb s₁.heap → YP w s₁.heap →
      s₁.heap.get? fa = some o → o.data = .func (docDef d.name d.params d.body d.scope pm cd doc) → s₁.heap.CodeRec cd d.name → mg d.name = some (.ref fa) →
      s₁.heap.get? a = some { cls := .type "list", data := .seq vs.toArray } → IntsAre vs ns → ns.length ≤ n → s₁.gens = #[] →
      codeAny (model l.prog w) callerA (.call (.ref fa) ⟨[.ref a], []⟩) (fun r s' => r = .ok (.ret (.bool true)) ∧ OldK s₁.heap s'.heap ∧ s'.os = s₁.os ∧ AllBare s'.gens) s₁) :
    WalkO q loose XP YP l.row.toRowW d [] (fun f vs => PySem.call f vs) := by
  intro w s₀ s₁ mg mb G Y fa o pm cd doc dV kV ho hd hcd hD hmg hg args vals as hpre hlay hrd hwl hlo
  obtain rfl : dV = .none := Dflts.none hD hdf
  obtain rfl : kV = .none := Dflts.noKw hD
  obtain ⟨a, vs, ns, rfl, rfl, hobj, hints, hlen⟩ := script_of hn hpre hwl
  refine enter_call (codeAny_mono (call w s₀ s₁ mg mb fa o pm cd doc a vs ns G Y ho (fd_plain hd) hcd hmg hobj hints hlen hg) fun r s' hq => ?_)
  obtain ⟨rfl, h2, h3, h4⟩ := hq
  exact ⟨.inl ⟨.bool true, .bool true, [], rfl, fun _ => rfl, .bool true, post_true l _, fun _ => ⟨List.Pairwise.nil, fun _ hm => (nomatch hm)⟩⟩, h2, h3, h4⟩
section
variable {prog : Program} {w : World} {A : Around} {E : Value → Shared → Prop} {s : Shared} {K : Frag}
def noObjs (h : Heap) : Heap := { h with objs := #[] }
theorem noObjs_get (h : Heap) (b : Addr) : (noObjs h).get? b = none := by
  cases e : (noObjs h).get? b with
  | none => rfl
  | some o => exact absurd (Heap.lt_size e) (Nat.not_lt_zero _)
def ledger (h : Heap) (L d : Addr) : List (Addr × Obj) := (List.range h.objs.size).filterMap fun a => if a = L ∨ a = d then none else (h.get? a).map fun o => (a, o)
theorem mem_ledger {h : Heap} {L d a : Addr} {o : Obj} : (a, o) ∈ ledger h L d ↔ a ≠ L ∧ a ≠ d ∧ h.get? a = some o := by
  unfold ledger
  rw [List.mem_filterMap]
  constructor
  · rintro ⟨b, _, e⟩
    split at e
    · cases e
    · rename_i hb
      obtain ⟨o', ho, e'⟩ := Option.map_eq_some_iff.mp e
      cases e'
      exact ⟨fun q => hb (.inl q), fun q => hb (.inr q), ho⟩
  · rintro ⟨n1, n2, ho⟩
    refine ⟨a, List.mem_range.mpr (Heap.lt_size ho), ?_⟩
    rw [if_neg (show ¬ (a = L ∨ a = d) from fun q => q.elim n1 n2), ho] <;> rfl
theorem fr_all {h : Heap} {L : Addr} {m : Str → Option Value} (n : h.Ns L m) : Fr (noObjs h) L h m :=
  ⟨n, fun b o e => (by rw [noObjs_get] at e; cases e), Nat.zero_le _⟩
end
end Att
namespace L2
open PySem PySem.Spec PyProof.Rows
theorem vals_ints : ∀ {vs : List Value} {ns : List Int}, IntsAre vs ns → Vals (ns.map V.int) vs
  | _, _, .nil => .nil
  | _, _, .cons n t h => .cons ⟨t, rfl⟩ (vals_ints h)
def Only (H : Hp) : Prop := ∀ b, H b = none ∨ ∃ o xs, H b = some (.frz o (.lst xs))
theorem law_call {P : Program} {w : World} {K : PySem.W.Frag} {mg mb : Str → Option Value} {CX : CXT} {k : Nat} {fa a : Addr} {fd : FuncData} {x : Str} {sp : Sp} {s₁ : Shared} {vs : List Value} {ns : List Int}
    (KX : K.In s₁.heap) (hns : s₁.heap.Ns mainGlobals mg) (hb : s₁.heap.Ns builtinsNs mb) (hbb : ∀ x : Str, x ≠ "__name__" → mb x = bootBuiltins x) (hlim : s₁.heap.NoLimit) (hg : s₁.gens = #[])
    (ha : s₁.heap.get? a = some { cls := .type "list", data := .seq vs.toArray }) (hi : IntsAre vs ns) (hl : ns.length ≤ sizeLine) (hr : Room k callerA)
    (F : ∀ base : Heap, K.In base → base.Ns mainGlobals mg → FnOk P w K mg base CX k fa fd [x] sp) (hbind : ∀ (s : Shared) (u : Value), BindsTo s fd ⟨[u], []⟩ [(x, u)])
    (hsp : ∀ H : Hp, Only H → SqL K H a (ns.map V.int) → sp [.ref a] H (fun v _ => v = .bl true) fun _ _ _ => False)
    (hCX : ∀ H e s', CX [] H s₁ (fun _ _ _ => False) e s' → False) :
    codeAny (model P w) callerA (.call (.ref fa) ⟨[.ref a], []⟩) (fun r s' => r = .ok (.ret (.bool true)) ∧ OldK s₁.heap s'.heap ∧ s'.os = s₁.os ∧ AllBare s'.gens) s₁ := by
  have rv := vals_ints hi
  have lenV := hi.length
  -- from an abstract heap in which nothing but the script may be tracked
  have core : ∀ H : Hp, Only H → SqL K H a (ns.map V.int) → HOk P w H s₁.heap → (∀ b, H b ≠ none → b = a) → (H a ≠ none → K.lookup a = none) →
      codeAny (model P w) callerA (.call (.ref fa) ⟨[.ref a], []⟩) (fun r s' => r = .ok (.ret (.bool true)) ∧ OldK s₁.heap s'.heap ∧ s'.os = s₁.os ∧ AllBare s'.gens) s₁ := by
    intro H hO hS hok hA hK
    have base_of : ∀ {b : Addr} {o : Obj}, s₁.heap.get? b = some o → H b = none → (hidT s₁.heap H).get? b = some o := fun e n => hidT_get e n
    have noA : ∀ {b : Addr} {o : Obj} {es : Array DictEntry} {ep : Nat}, s₁.heap.get? b = some o → o.data = .dict es ep → H b = none := fun {b o es ep} e d => by
      cases q : H b with
      | none => rfl
      | some u =>
        have e' : b = a := hA b (by rw [q]; simp)
        subst e'
        rw [ha] at e; cases e
        have d' : Data.seq vs.toArray _ = Data.dict es ep := d
        cases d'
    have nsK : ∀ {b : Addr} {m : Str → Option Value}, s₁.heap.Ns b m → (hidT s₁.heap H).Ns b m := fun {b m} ⟨o, es, ep, e, d, r⟩ => ⟨o, es, ep, base_of e (noA e d), d, r⟩
    have hKb : K.In (hidT s₁.heap H) := fun b o e => base_of (KX b o e) (by
      cases q : H b with
      | none => rfl
      | some u =>
        have e' : b = a := hA b (by rw [q]; simp)
        subst e'
        rw [hK (by rw [q]; simp)] at e; cases e)
    have hM : Mod K mg (hidT s₁.heap H) := ⟨hKb, nsK hns, ⟨mb, nsK hb, hbb⟩, let ⟨mc, h1, h2⟩ := hlim; ⟨mc, nsK h1, h2⟩⟩
    have e0 : Env0 P w K mg (hidT s₁.heap H) callerA [] s₁ H := ⟨rfl, hM, fun b o e => of_hidT e, Nat.le_of_eq (hidT_size _ _), trivial, fun b hb => absurd (show b ∈ ([] : List Addr) from hb) (by simp), hok, .of_eq hg⟩
    refine codeAny_mono ((F _ hKb (nsK hns)).run callerA [] s₁ H ⟨[.ref a], []⟩ [.ref a] [.ref a] _ _ hr e0 (hbind s₁ (.ref a)) (.cons rfl .nil) (hsp H hO hS)) fun r s' h => ?_
    cases r with
    | error e => exact (hCX H e s' h).elim
    | ok fl =>
      cases fl with
      | next => exact False.elim h
      | brk => exact False.elim h
      | cont => exact False.elim h
      | ret u =>
        obtain ⟨v, H', os, bare, un, hok', r', q⟩ := h
        have q' : v = .bl true := q
        subst q'
        obtain rfl : u = Value.bool true := r'
        refine ⟨rfl, OldK.of_keep fun b o e => ?_, os, bare⟩
        cases q : H b with
        | none => exact un.keep b o e q (by intro z; exact absurd (show b ∈ ([] : List Addr) from z) (by simp)) (by simp)
        | some u =>
          rcases hO b with z | ⟨ob, xs, z⟩
          · rw [q] at z; cases z
          · have z2 := un.frzs b ob _ z
            obtain ⟨e1, _⟩ := hok b _ z
            obtain ⟨e2, _⟩ := hok' b _ z2
            rw [e] at e1; cases e1
            exact e2
  cases hk : K.lookup a with
  | some o =>
    -- the script is one of the module's own objects
    have e := KX a o hk
    rw [ha] at e
    cases e
    refine core (fun _ => none) (fun _ => .inl rfl) (.inr ⟨_, vs.toArray, _, hk, rfl, rfl, rfl, by rw [List.size_toArray, lenV]; exact hl, by simpa using rv⟩) (fun b u z => by have z' : (none : Option HO) = some u := z; cases z') (fun b z => absurd rfl z) fun z => absurd rfl z
  | none =>
    refine core (fun b => if b = a then some (.frz { cls := .type "list", data := .seq vs.toArray } (.lst (ns.map V.int))) else none) (fun b => ?_) (.inl (.inr ⟨{ cls := .type "list", data := .seq vs.toArray }, if_pos rfl⟩)) (fun b u z => ?_) (fun b z => ?_) fun _ => hk
    · by_cases hb : b = a
      · exact .inr ⟨_, _, if_pos hb⟩
      · exact .inl (if_neg hb)
    · by_cases hb : b = a
      · have z' := (if_pos hb).symm.trans z
        cases z'
        subst hb
        exact ⟨ha, by rw [List.length_map]; exact hl, vs, _, rv, ha⟩
      · have z' := (if_neg hb).symm.trans z
        cases z'
    · by_cases hb : b = a
      · exact hb
      · exact absurd (if_neg hb) z
end L2
namespace L2
open PySem PySem.Spec PyProof.Rows
abbrev KOf {K : PySem.W.Frag} {h : Heap} (_ : K.In h) : PySem.W.Frag := K
theorem walk_of {l : PySem.W.OpenLaw} {n k : Nat} {q : Program} {loose : List Str} {XP : (Str → Option Value) → Heap → Prop} {YP : World → Heap → Prop} {d : DefRec} {K : Params → PySem.W.Frag} {CX : World → CXT} {sp : World → Sp} {x : Str}
    (hn : l.most = some n) (hn2 : n ≤ sizeLine) (hdf : d.params.defaults = []) (hr : Room k callerA)
    (hY : ∀ (w : World) (h : Heap), YP w h → (K w.params).In h)
    (F : ∀ (w : World) (mg : Str → Option Value) (fa : Addr) (h : Heap), (K w.params).In h → h.Ns mainGlobals mg → mg d.name = some (.ref fa) →
      ∃ fd : FuncData, (∀ (s : Shared) (u : Value), BindsTo s fd ⟨[u], []⟩ [(x, u)]) ∧
        ∀ base : Heap, (K w.params).In base → base.Ns mainGlobals mg → FnOk l.prog w (K w.params) mg base (CX w) k fa fd [x] (sp w))
    (hsp : ∀ (w : World) (H : Hp) (a : Addr) (ns : List Int), ns.length ≤ n → Only H → SqL (K w.params) H a (ns.map V.int) → sp w [.ref a] H (fun v _ => v = .bl true) fun _ _ _ => False)
    (hCX : ∀ (w : World) (H : Hp) (s : Shared) (e : Value) (s' : Shared), CX w [] H s (fun _ _ _ => False) e s' → False) :
    PySem.W.WalkO q loose XP YP l.row.toRowW d [] (fun f vs => PySem.call f vs) := by
  refine Att.attach_call hn hdf fun w s₀ s₁ mg mb fa o pm cd doc a vs ns G Y ho hd hcd hmg hobj hints hlen hg => ?_
  have KX := hY w _ Y
  obtain ⟨fd, hb, hF⟩ := F w mg fa _ KX G.T.g hmg
  exact law_call KX G.T.g G.T.b G.T.builtins G.T.nolimit hg hobj hints (Nat.le_trans hlen hn2) hr hF hb (fun H hO hS => hsp w H a ns hlen hO hS) fun H e s' => hCX w H s₁ e s'
end L2
/- THE LAST THEOREM (shape; LID, My.* are yours):
   My.Adr: a structure of the addresses that your layer names (classes, functions); My.Txt K t: a structure (Prop) of the equations over K;
   My.txt_mk : {K} {implicit addresses ..} (e1 : nsIn K mainGlobals "law" = some (some (.ref f))) (e2 : K.lookup f = some ⟨oc, od, .func (fnOf "law" "law" params body scope dV kV doc pm an cdv ct), sl⟩) (e3 : codeIn K cdv "law" = true) .. : ∃ t, My.Txt K t

set_option maxRecDepth 100000 in
set_option maxHeartbeats 0 in
theorem PySem.Challenge.cw_LID_holds : PySem.Challenge.rw_LID.Holds := by
  w_on; o_law; k_head; (case hw => w_witness2)
  k_fill
  refine L2.walk_of (l := PySem.Challenge.rw_LID) (n := 63) (k := 40) (x := "script") (CX := fun w => ..) (sp := fun _ => My.sp_law) rfl (by decide) rfl ⟨rfl, by decide, by decide⟩ (fun w h Y => PySem.W.kIn_of Y) ?F ?S ?C
  case F =>
    intro w mg fa h KX G hmg
    have T : ∃ t, My.Txt (L2.KOf KX) t := by
      dsimp only [L2.KOf]                          -- K must stand as «<heap const> w.params» for k_is
      refine' My.txt_mk ?e1 ?e2 ?e3 ..
      (case e1 => PySem.W.k_is)                    -- in the order: a name -> its address -> its object -> its parts
      (case e2 => PySem.W.k_is)
      ..
    obtain ⟨t, T⟩ := T
    have e0 := hmg.symm.trans (PySem.W.mg_of KX G T.law)
    cases e0                                       -- fa is the law's own address
    exact ⟨_, fun s u => .of_eq rfl, fun base kb nb => My.law_fn T kb nb⟩     -- if «.of_eq rfl» comes too early: refine' ⟨_, ?b, fun base kb nb => My.law_fn T kb nb⟩; exact fun s u => .of_eq rfl
  case S => exact fun w H a ns hl hO hS => ..
  case C => exact ..
(the tactic k_is has no namespace: write k_is) -/
namespace L2
open PySem PySem.Spec PyProof.Rows
def defArgs (s : Stmt) : Arguments := match s with
  | .FunctionDef _ a _ _ _ _ _ _ _ _ => a
  | _ => { posonlyargs := [], args := [], vararg := none, kwonlyargs := [], kw_defaults := [], kwarg := none, defaults := [] }
def defBody (s : Stmt) : List Stmt := match s with
  | .FunctionDef _ _ b _ _ _ _ _ _ _ => b
  | _ => []
def defScope (s : Stmt) : Scope := match s with
  | .FunctionDef _ _ _ _ _ _ sc _ _ _ => sc
  | _ => { kind := .function, names := [], isGenerator := false, isCoroutine := false }
abbrev CX0 : CXT := fun _ _ _ _ _ _ => False
abbrev E0 : XK := fun _ _ _ => False
theorem pass0 {X : Cx} : Passes CX0 X E0 := fun _ _ _ _ _ _ _ h => h.elim
structure Fun (K : PySem.W.Frag) (x qual : Str) (st : Stmt) (f : Addr) (fd : FuncData) : Prop where
  ex : ∃ (oc : Value) (od : Option Addr) (kV doc pm : Value) (an : Option Addr) (cdv ct : Value) (osl : Array (Option Value)),
    fd = PySem.W.fnOf x qual (defArgs st) (defBody st) (defScope st) .none kV doc pm an cdv ct ∧ K.lookup f = some ⟨oc, od, .func fd, osl⟩ ∧ PySem.W.codeIn K cdv qual = true
  kp : PySem.W.keepIn K (.ref f) = true
section
variable {P : Program} {w : World} {K : PySem.W.Frag} {mg : Str → Option Value} {base : Heap}
theorem Fun.ok {x qual : Str} {st : Stmt} {f : Addr} {fd : FuncData} {N ps : List Str} {k : Nat} {sp : Sp} (F : Fun K x qual st f fd) (S : FnScope N ps (defScope st)) (len : ∀ vs H Q E, sp vs H Q E → vs.length = ps.length)
    (hbody : ∀ (cdv : Value) (A : Around) (outer : List Env) (s : Shared) (H : Hp) (vs : List V) (Q : VK) (E : XK), Room k (A.deeper (envOfC qual (defScope st) s.heap.objs.size f cdv)) → sp vs H Q E →
      ∃ t, PSs (cxOf CX0 P w K mg base N qual (defScope st) f cdv A outer s H E).nox (defBody st) t ∧ t { nx := fun _ H' => Q .non H', rt := Q } (start N vs) H) : FnOk P w K mg base CX0 (k + 1) f fd ps sp := by
  obtain ⟨oc, od, kV, doc, pm, an, cdv, ct, osl, rfl, lk, hcd⟩ := F.ex
  refine fn_of lk hcd S len fun A outer s H vs Q E hr hsp => ?_
  obtain ⟨t, h, q⟩ := hbody cdv A outer s H vs Q E hr hsp
  exact ⟨t, h.nox, q⟩
theorem Fun.binds {x qual : Str} {st : Stmt} {f : Addr} {fd : FuncData} {ps : List Str} (F : Fun K x qual st f fd)
    (h : ∀ (kV doc pm : Value) (an : Option Addr) (cdv ct : Value) (us : List Value), us.length = ps.length → bindArgs (PySem.W.fnOf x qual (defArgs st) (defBody st) (defScope st) .none kV doc pm an cdv ct) ⟨us, []⟩ = pure (ps.zip us)) : Binds K fd ps [] := by
  obtain ⟨oc, od, kV, doc, pm, an, cdv, ct, osl, rfl, lk, hcd⟩ := F.ex
  exact .all (h kV doc pm an cdv ct)
theorem fun_mk {x qual : Str} {st : Stmt} {f : Addr} {oc : Value} {od an : Option Addr} {osl : Array (Option Value)} {kV doc pm cdv ct : Value} (l : K.lookup f = some ⟨oc, od, .func (PySem.W.fnOf x qual (defArgs st) (defBody st) (defScope st) .none kV doc pm an cdv ct), osl⟩)
    (c : PySem.W.codeIn K cdv qual = true) (k : PySem.W.keepIn K (.ref f) = true) : Fun K x qual st f (PySem.W.fnOf x qual (defArgs st) (defBody st) (defScope st) .none kV doc pm an cdv ct) := ⟨⟨oc, od, kV, doc, pm, an, cdv, ct, osl, rfl, l, c⟩, k⟩
end
theorem hu_of {A : Around} {k : Nat} (hr : Room k A) : A.units + 1 < cLine := Nat.lt_of_le_of_lt (Nat.add_le_add_left (by decide : 1 ≤ 64) _) hr.units
theorem small1000 {n : Nat} (h : n ≤ 1000) : n < sizeLine := Nat.lt_of_le_of_lt h (by decide)
section
variable {X : Cx}
theorem pv (i : Nat) {x : Str} {pos : Pos} (hN : X.N[i]? = some x := by rfl) (hv : Vis X.env.scope x := by first | exact Or.inl rfl | exact Or.inr (Or.inl rfl) | exact Or.inr (Or.inr rfl)) (hd : (x == ("__debug__" : Str)) = false := by decide)
    (hcd : (x == ("__classdict__" : Str)) = false := by decide) : PE X (.Name x pos) (tVar i) := pe_var hN hv hd hcd
theorem call_lenD : CallR X (.builtin "len") (fun xs H Q => ∃ a kvs, xs = [V.ref a] ∧ H a = some (.dK kvs) ∧ Q (.int kvs.length) H) := by
  intro pins s σ H xs us Q I r h
  obtain ⟨a, kvs, rfl, ha, q⟩ := h
  obtain ⟨u, rfl, ru⟩ := vals1 r
  cases ru
  exact d_len I (.inl ha) fun t s' I' => ⟨.int kvs.length, H, I', ⟨t, rfl⟩, q⟩
end
theorem iteF {A B : Prop} (h : B) : if false = true then A else B := by
  rw [if_neg Bool.false_ne_true]
  exact h
theorem iteT {A B : Prop} (h : A) : if true = true then A else B := by
  rw [if_pos rfl]
  exact h
theorem ite2 {c A B : Prop} [Decidable c] (h1 : c → A) (h2 : ¬ c → B) : if c then A else B := by
  by_cases h : c
  · rw [if_pos h]
    exact h1 h
  · rw [if_neg h]
    exact h2 h
theorem iteNS {c A B : Prop} [Decidable c] (hc : c) (h : B) : if (!decide c) = true then A else B := by
  rw [decide_eq_true hc]
  exact iteF h
def Same (H H' : Hp) : Prop := ∀ b o, H b = some o → H' b = some o
theorem Same.refl (H : Hp) : Same H H := fun _ _ h => h
theorem Same.trans {H H1 H2 : Hp} (a : Same H H1) (b : Same H1 H2) : Same H H2 := fun c o h => b c o (a c o h)
theorem Same.free {H H' : Hp} (e : Same H H') {l : Addr} (h : H' l = Option.none) : H l = Option.none := by
  cases q : H l with
  | none => rfl
  | some o =>
    rw [e l o q] at h
    cases h
theorem Same.seq {K : PySem.W.Frag} {H H' : Hp} {a : Addr} {xs : List V} (e : Same H H') (h : SqL K H a xs) : SqL K H' a xs := by
  rcases h with (h | ⟨o, h⟩) | h
  · exact .inl (.inl (e _ _ h))
  · exact .inl (.inr ⟨o, e _ _ h⟩)
  · exact .inr h
section
variable {κ : Type} [DecidableEq κ]
theorem valV_not {kvs : List (κ × V)} {k : κ} (h : valV kvs k = none) : ¬ k ∈ kvs.map (·.1) := by
  intro m
  obtain ⟨p, hp, e⟩ := List.mem_map.mp m
  have q : (kvs.any fun kv => decide (kv.1 = k)) = true := List.any_eq_true.mpr ⟨p, hp, decide_eq_true e⟩
  rw [valV_any, h] at q
  exact absurd q (by simp)
theorem nd_snoc : ∀ {l : List κ} {k : κ}, l.Nodup → ¬ k ∈ l → (l ++ [k]).Nodup
  | [], k, _, _ => by simp
  | a :: r, k, h, hk => by
    obtain ⟨h1, h2⟩ := List.nodup_cons.mp h
    show (a :: (r ++ [k])).Nodup
    refine List.nodup_cons.mpr ⟨fun m => ?_, nd_snoc h2 fun m => hk (List.mem_cons.mpr (Or.inr m))⟩
    rcases List.mem_append.mp m with q | q
    · exact h1 q
    · exact hk (List.mem_cons.mpr (Or.inl (List.mem_singleton.mp q).symm))
end
end L2
namespace Gra
theorem length_le_of_subset {α : Type} [DecidableEq α] : ∀ {l m : List α}, l.Nodup → (∀ x ∈ l, x ∈ m) → l.length ≤ m.length
  | [], _, _, _ => Nat.zero_le _
  | a :: l, m, h, s => by
    obtain ⟨h1, h2⟩ := List.nodup_cons.mp h
    have ha : a ∈ m := s a List.mem_cons_self
    have q := length_le_of_subset (m := m.erase a) h2 fun x hx => (List.mem_erase_of_ne (fun e : x = a => h1 (by rw [← e]; exact hx))).mpr (s x (List.mem_cons_of_mem _ hx))
    have e := List.length_erase_of_mem ha
    have : 0 < m.length := List.length_pos_of_mem ha
    rw [List.length_cons]
    omega
theorem nodup_places {l : List Int} {n : Int} (h : l.Nodup) (hr : ∀ x ∈ l, 0 ≤ x ∧ x < n) : (l.length : Int) ≤ n ∨ l = [] := by
  by_cases hn : 0 ≤ n
  · left
    have q := length_le_of_subset (m := (List.range n.toNat).map (fun (i : Nat) => (i : Int))) h fun x hx => by
      obtain ⟨h0, h1⟩ := hr x hx
      refine List.mem_map.mpr ⟨x.toNat, List.mem_range.mpr (by omega), by omega⟩
    rw [List.length_map, List.length_range] at q
    omega
  · right
    cases l with
    | nil => rfl
    | cons a l => have := hr a List.mem_cons_self; omega
abbrev Lanes := List (Int × Int)
abbrev PTree := List (Int × Option Int)
def keys (t : PTree) : List Int := t.map (·.1)
structure Reach (ls : Lanes) (start : Int) (t : PTree) : Prop where
  head : t[0]? = some (start, none)
  nd : (keys t).Nodup
  par : ∀ i k o, t[i]? = some (k, o) → 0 < i → ∃ p j o', o = some p ∧ j < i ∧ t[j]? = some (p, o') ∧ (p, k) ∈ ls
def Done (ls : Lanes) (t : PTree) (n : Nat) : Prop := ∀ i k o e, i < n → t[i]? = some (k, o) → (k, e) ∈ ls → e ∈ keys t
theorem mem_keys {t : PTree} {k : Int} : k ∈ keys t ↔ ∃ (i : Nat) (o : Option Int), t[i]? = some (k, o) := by
  constructor
  · intro h
    obtain ⟨p, hp, e⟩ := List.mem_map.mp h
    obtain ⟨i, hi⟩ := List.mem_iff_getElem?.mp hp
    exact ⟨i, p.2, by rw [hi, ← e]⟩
  · rintro ⟨i, o, h⟩
    exact List.mem_map.mpr ⟨(k, o), List.mem_of_getElem? h, rfl⟩
theorem keys_append (t u : PTree) : keys (t ++ u) = keys t ++ keys u := List.map_append
theorem reach_start (ls : Lanes) (start : Int) : Reach ls start [(start, none)] := by
  refine ⟨rfl, by simp [keys], fun i k o h hi => ?_⟩
  cases i with
  | zero => omega
  | succ i => simp at h
theorem Reach.push {ls : Lanes} {start : Int} {t : PTree} (r : Reach ls start t) {e p : Int} (he : e ∉ keys t) (hp : p ∈ keys t) (hl : (p, e) ∈ ls) : Reach ls start (t ++ [(e, some p)]) := by
  have h0 : 0 < t.length := (List.getElem?_eq_some_iff.mp r.head).1
  refine ⟨?_, ?_, fun i k o h hi => ?_⟩
  · rw [List.getElem?_append_left h0]; exact r.head
  · rw [keys_append]
    refine List.nodup_append.mpr ⟨r.nd, by simp [keys], fun a ha b hb => ?_⟩
    have hb' : b = e := by simpa [keys] using hb
    rw [hb']
    exact fun z => he (z ▸ ha)
  · rcases Nat.lt_trichotomy i t.length with c | c | c
    · rw [List.getElem?_append_left c] at h
      obtain ⟨p', j, o', e1, e2, e3, e4⟩ := r.par i k o h hi
      exact ⟨p', j, o', e1, e2, by rw [List.getElem?_append_left (by omega)]; exact e3, e4⟩
    · subst c
      rw [List.getElem?_append_right (Nat.le_refl _)] at h
      simp at h
      obtain ⟨rfl, rfl⟩ := h
      obtain ⟨j, o', hj⟩ := mem_keys.mp hp
      have hlt : j < t.length := (List.getElem?_eq_some_iff.mp hj).1
      exact ⟨p, j, o', rfl, hlt, by rw [List.getElem?_append_left hlt]; exact hj, hl⟩
    · rw [List.getElem?_eq_none (by rw [List.length_append, List.length_singleton]; omega)] at h
      cases h
theorem Done.mono {ls : Lanes} {t u : PTree} {n : Nat} (d : Done ls t n) (hn : n ≤ t.length) : Done ls (t ++ u) n := fun i k o e hi h hl => by
  rw [List.getElem?_append_left (by omega)] at h
  rw [keys_append]
  exact List.mem_append_left _ (d i k o e hi h hl)
theorem Done.succ {ls : Lanes} {t : PTree} {n : Nat} (d : Done ls t n) {k : Int} (hk : (keys t)[n]? = some k) (h : ∀ e, (k, e) ∈ ls → e ∈ keys t) : Done ls t (n + 1) := fun i k' o e hi hk' hl => by
  rcases Nat.lt_or_ge i n with c | c
  · exact d i k' o e c hk' hl
  · have : i = n := by omega
    subst this
    have e1 : (keys t)[i]? = some k' := by unfold keys; rw [List.getElem?_map, hk']; rfl
    rw [hk] at e1
    cases e1
    exact h e hl
theorem Done.closed {ls : Lanes} {t : PTree} (d : Done ls t t.length) {a b : Int} (h : (a, b) ∈ ls) (ha : a ∈ keys t) : b ∈ keys t := by
  obtain ⟨i, o, hi⟩ := mem_keys.mp ha
  exact d i a o b (List.getElem?_eq_some_iff.mp hi).1 hi h
theorem Reach.in_range {ls : Lanes} {start : Int} {t : PTree} {n : Int} (r : Reach ls start t) (hs : 0 ≤ start ∧ start < n) (hl : ∀ p ∈ ls, (0 ≤ p.1 ∧ p.1 < n) ∧ (0 ≤ p.2 ∧ p.2 < n)) : ∀ k ∈ keys t, 0 ≤ k ∧ k < n := fun k hk => by
  obtain ⟨i, o, hi⟩ := mem_keys.mp hk
  by_cases c : i = 0
  · subst c
    rw [r.head] at hi
    cases hi
    exact hs
  · obtain ⟨p, j, o', _, _, _, h⟩ := r.par i k o hi (by omega)
    exact (hl _ h).2
theorem Reach.len_le {ls : Lanes} {start : Int} {t : PTree} {n : Int} (r : Reach ls start t) (hs : 0 ≤ start ∧ start < n) (hl : ∀ p ∈ ls, (0 ≤ p.1 ∧ p.1 < n) ∧ (0 ≤ p.2 ∧ p.2 < n)) : (t.length : Int) ≤ n := by
  have q := nodup_places r.nd (r.in_range hs hl)
  have e : (keys t).length = t.length := List.length_map _
  rcases q with q | q
  · omega
  · rw [q] at e; simp at e; omega
theorem Reach.start_mem {ls : Lanes} {start : Int} {t : PTree} (r : Reach ls start t) : start ∈ keys t := mem_keys.mpr ⟨0, none, r.head⟩
def look (t : PTree) (k : Int) : Option (Option Int) := (t.find? fun p => decide (p.1 = k)).map (·.2)
theorem look_at {t : PTree} (nd : (keys t).Nodup) {i : Nat} {k : Int} {o : Option Int} (h : t[i]? = some (k, o)) : look t k = some o := by
  induction t generalizing i with
  | nil => simp at h
  | cons p r ih =>
    obtain ⟨n1, n2⟩ := List.nodup_cons.mp (show (p.1 :: keys r).Nodup from nd)
    unfold look
    rw [List.find?_cons]
    by_cases c : p.1 = k
    · rw [decide_eq_true c]
      cases i with
      | zero => simp at h; subst h; rfl
      | succ i =>
        rw [List.getElem?_cons_succ] at h
        exact absurd (mem_keys.mpr ⟨i, o, h⟩) (c ▸ n1)
    · rw [decide_eq_false c]
      cases i with
      | zero => simp at h; subst h; exact absurd rfl c
      | succ i =>
        rw [List.getElem?_cons_succ] at h
        exact ih n2 h
theorem look_none {t : PTree} {k : Int} (h : k ∉ keys t) : look t k = none := by
  unfold look
  rw [Option.map_eq_none_iff, List.find?_eq_none]
  intro p hp c
  exact h (List.mem_map.mpr ⟨p, hp, of_decide_eq_true c⟩)
theorem look_mem {t : PTree} {k : Int} : (look t k).isSome = decide (k ∈ keys t) := by
  by_cases h : k ∈ keys t
  · rw [decide_eq_true h]
    obtain ⟨p, hp, e⟩ := List.mem_map.mp h
    unfold look
    rw [Option.isSome_map, List.find?_isSome]
    exact ⟨p, hp, decide_eq_true e⟩
  · rw [decide_eq_false h, look_none h]; rfl
def Steps (ls : Lanes) : List Int → Prop
  | a :: b :: r => (a, b) ∈ ls ∧ Steps ls (b :: r)
  | _ => True
theorem Steps.at {ls : Lanes} : ∀ {r : List Int} {k : Nat} {a b : Int}, Steps ls r → r[k]? = some a → r[k + 1]? = some b → (a, b) ∈ ls
  | [], _, _, _, _, h, _ => by simp at h
  | [x], k, a, b, _, h, h2 => by simp at h2
  | x :: y :: r, 0, a, b, s, h, h2 => by simp at h h2; subst h h2; exact s.1
  | x :: y :: r, k + 1, a, b, s, h, h2 => Steps.at (k := k) s.2 (by simpa using h) (by simpa using h2)
structure Back (ls : Lanes) (t : PTree) (place : Int) (r : List Int) (i : Nat) : Prop where
  ix : ∃ c o, t[i]? = some (c, o) ∧ r.head? = some c
  ge : ∀ x ∈ r, ∃ j o, i ≤ j ∧ t[j]? = some (x, o)
  nd : r.Nodup
  ch : Steps ls r
  la : r.getLast? = some place
theorem ix_inj {t : PTree} (nd : (keys t).Nodup) {i j : Nat} {k : Int} {o o' : Option Int} (h : t[i]? = some (k, o)) (h' : t[j]? = some (k, o')) : i = j := by
  have hi : (keys t)[i]? = some k := by unfold keys; rw [List.getElem?_map, h]; rfl
  have hj : (keys t)[j]? = some k := by unfold keys; rw [List.getElem?_map, h']; rfl
  obtain ⟨h1, e1⟩ := List.getElem?_eq_some_iff.mp hi
  obtain ⟨h2, e2⟩ := List.getElem?_eq_some_iff.mp hj
  exact (List.getElem_inj nd).mp (e1.trans e2.symm)
theorem Back.more {ls : Lanes} {start : Int} {t : PTree} {place : Int} {r : List Int} {i : Nat} (R : Reach ls start t) (b : Back ls t place r i) {c p : Int} (hc : r.head? = some c) (hp : look t c = some (some p)) : ∃ j, j < i ∧ Back ls t place (p :: r) j := by
  obtain ⟨c', o, hi, hc'⟩ := b.ix
  rw [hc] at hc'
  have ec : c = c' := Option.some.inj hc'
  subst ec
  have eo := look_at R.nd hi
  rw [hp] at eo
  have e1 : o = some p := (Option.some.inj eo).symm
  subst e1
  have i0 : 0 < i := by
    rcases Nat.eq_zero_or_pos i with z | z
    · subst z
      rw [R.head] at hi
      have := congrArg (fun x => x.map (·.2)) hi
      simp at this
    · exact z
  obtain ⟨p', j, o', e2, hj, hp', hl⟩ := R.par i c (some p) hi i0
  cases e2
  refine ⟨j, hj, ⟨⟨p, o', hp', rfl⟩, fun x hx => ?_, ?_, ?_, ?_⟩⟩
  · rcases List.mem_cons.mp hx with e | e
    · exact ⟨j, o', Nat.le_refl _, by rw [e]; exact hp'⟩
    · obtain ⟨j', o2, h1, h2⟩ := b.ge x e
      exact ⟨j', o2, by omega, h2⟩
  · refine List.nodup_cons.mpr ⟨fun m => ?_, b.nd⟩
    obtain ⟨j', o2, h1, h2⟩ := b.ge p m
    have := ix_inj R.nd hp' h2
    omega
  · cases r with
    | nil => cases hc
    | cons x r =>
      have ex : x = c := Option.some.inj hc
      subst ex
      exact ⟨hl, b.ch⟩
  · cases r with
    | nil => cases hc
    | cons x r => rw [List.getLast?_cons_cons]; exact b.la
theorem Back.stop {ls : Lanes} {start : Int} {t : PTree} {place : Int} {r : List Int} {i : Nat} (R : Reach ls start t) (b : Back ls t place r i) {c : Int} (hc : r.head? = some c) (hp : look t c = some none) : c = start := by
  obtain ⟨c', o, hi, hc'⟩ := b.ix
  rw [hc] at hc'
  have ec : c = c' := Option.some.inj hc'
  subst ec
  have eo := look_at R.nd hi
  rw [hp] at eo
  have e1 : o = none := (Option.some.inj eo).symm
  subst e1
  rcases Nat.eq_zero_or_pos i with z | z
  · subst z
    rw [R.head] at hi
    exact (congrArg Prod.fst (Option.some.inj hi)).symm
  · obtain ⟨_, _, _, e2, _⟩ := R.par i c none hi z
    cases e2
structure WalkOk (ls : Lanes) (r : List Int) (one other : Int) : Prop where
  head : r.head? = some one
  last : r.getLast? = some other
  nd : r.Nodup
  steps : Steps ls r
structure WallOk (n : Int) (ls : Lanes) (r : List Int) (one other : Int) : Prop where
  up : r.Pairwise (· < ·)
  rg : ∀ x ∈ r, 0 ≤ x ∧ x < n
  one_in : one ∈ r
  other_out : other ∉ r
  shut : ∀ p ∈ ls, p.1 ∈ r → p.2 ∈ r
theorem strict_of {l : List Int} (h : l.Pairwise (· ≤ ·)) (nd : l.Nodup) : l.Pairwise (· < ·) := by
  have q := h.and nd
  exact q.imp fun {a b} ⟨h1, h2⟩ => by
    have : a ≠ b := h2
    omega
inductive Rch (ps : Lanes) (s : Int) : Int → Prop
  | here : Rch ps s s
  | step {a b : Int} : Rch ps s a → (a, b) ∈ ps → Rch ps s b
structure RSet (ps : Lanes) (s : Int) (ks : List Int) : Prop where
  nd : ks.Nodup
  st : s ∈ ks
  ok : ∀ k ∈ ks, Rch ps s k
  cl : ∀ a b, (a, b) ∈ ps → a ∈ ks → b ∈ ks
theorem RSet.all {ps : Lanes} {s : Int} {ks : List Int} (R : RSet ps s ks) {k : Int} (h : Rch ps s k) : k ∈ ks := by
  induction h with
  | here => exact R.st
  | step _ hl ih => exact R.cl _ _ hl ih
end Gra
namespace Gra
inductive Av (ps : Lanes) (s d : Int) : Int → Prop
  | here : s ≠ d → Av ps s d s
  | step {a b : Int} : Av ps s d a → (a, b) ∈ ps → b ≠ d → Av ps s d b
theorem Av.ne {ps : Lanes} {s d x : Int} (h : Av ps s d x) : x ≠ d := by
  cases h with
  | here h => exact h
  | step _ _ h => exact h
theorem Av.start_ne {ps : Lanes} {s d x : Int} (h : Av ps s d x) : s ≠ d := by
  induction h with
  | here h => exact h
  | step _ _ _ ih => exact ih
def Must (ps : Lanes) (s d x : Int) : Prop := Rch ps s x ∧ ¬ Av ps s d x
theorem Must.start {ps : Lanes} {s x : Int} (h : Rch ps s x) : Must ps s s x := ⟨h, fun a => a.start_ne rfl⟩
theorem Must.self {ps : Lanes} {s x : Int} (h : Rch ps s x) : Must ps s x x := ⟨h, fun a => a.ne rfl⟩
theorem av_or {ps : Lanes} {s d e x : Int} (h : Av ps s d x) : Av ps s e x ∨ Av ps s d e := by
  induction h with
  | here h =>
    by_cases c : s = e
    · right; rw [← c]; exact .here h
    · exact .inl (.here c)
  | @step a b h hl hb ih =>
    rcases ih with i | i
    · by_cases c : b = e
      · right; rw [← c]; exact .step h hl hb
      · exact .inl (.step i hl c)
    · exact .inr i
theorem Must.trans {ps : Lanes} {s d e x : Int} (h : Must ps s d e) (h' : Must ps s e x) : Must ps s d x :=
  ⟨h'.1, fun a => (av_or (e := e) a).elim h'.2 h.2⟩
theorem Must.antisymm {ps : Lanes} {s d e : Int} (h : Must ps s d e) (h' : Must ps s e d) : d = e := by
  by_cases ne : d = e
  · exact ne
  exfalso
  have key : ∀ x, Rch ps s x → (Av ps s d x ∧ Av ps s e x) ∨ Av ps s e d ∨ Av ps s d e := by
    intro x hx
    induction hx with
    | here =>
      by_cases c : s = d
      · right; left; rw [← c]; exact .here fun z => ne (c.symm.trans z)
      · by_cases c' : s = e
        · right; right; rw [← c']; exact .here c
        · exact .inl ⟨.here c, .here c'⟩
    | @step a b _ hl ih =>
      rcases ih with ⟨i, j⟩ | i
      · by_cases c : b = d
        · right; left; rw [← c]; exact .step j hl fun z => ne (c.symm.trans z)
        · by_cases c' : b = e
          · right; right; rw [← c']; exact .step i hl c
          · exact .inl ⟨.step i hl c, .step j hl c'⟩
      · exact .inr i
  rcases key d h'.1 with ⟨a, _⟩ | a | a
  · exact a.ne rfl
  · exact h'.2 a
  · exact h.2 a
structure Musts (ps : Lanes) (s x : Int) (ms : List Int) : Prop where
  nd : ms.Nodup
  mem : ∀ d, d ∈ ms ↔ Must ps s d x
theorem Musts.lt {ps : Lanes} {s d e : Int} {ms ns : List Int} (hm : Musts ps s d ms) (hn : Musts ps s e ns) (h : Must ps s d e) (ne : d ≠ e) : ms.length < ns.length := by
  have he : e ∉ ms := fun m => ne (Must.antisymm h ((hm.mem e).mp m))
  have q := length_le_of_subset (l := e :: ms) (m := ns) (List.nodup_cons.mpr ⟨he, hm.nd⟩) fun x hx => by
    rcases List.mem_cons.mp hx with c | c
    · rw [c]; exact (hn.mem e).mpr (Must.self h.1)
    · exact (hn.mem x).mpr (((hm.mem x).mp c).trans h)
  rw [List.length_cons] at q
  omega
structure MustRow (ps : Lanes) (s x : Int) (row : List Int) : Prop where
  nd : row.Nodup
  mem : ∀ d, d ∈ row ↔ Must ps s d x
  up : row.Pairwise (Must ps s)
theorem chain_unique {R : Int → Int → Prop} (anti : ∀ a b, R a b → R b a → a = b) : ∀ {l m : List Int}, l.Nodup → m.Nodup → (∀ x, x ∈ l ↔ x ∈ m) → l.Pairwise R → m.Pairwise R → l = m
  | [], [], _, _, _, _, _ => rfl
  | [], b :: m, _, _, h, _, _ => by have := (h b).mpr List.mem_cons_self; cases this
  | a :: l, [], _, _, h, _, _ => by have := (h a).mp List.mem_cons_self; cases this
  | a :: l, b :: m, n1, n2, h, p1, p2 => by
    obtain ⟨x1, x2⟩ := List.nodup_cons.mp n1
    obtain ⟨y1, y2⟩ := List.nodup_cons.mp n2
    obtain ⟨q1, q2⟩ := List.pairwise_cons.mp p1
    obtain ⟨r1, r2⟩ := List.pairwise_cons.mp p2
    have e : a = b := by
      rcases List.mem_cons.mp ((h a).mp List.mem_cons_self) with c | c
      · exact c
      rcases List.mem_cons.mp ((h b).mpr List.mem_cons_self) with c' | c'
      · exact c'.symm
      exact anti a b (q1 b c') (r1 a c)
    subst e
    refine congrArg (a :: ·) (chain_unique anti x2 y2 (fun x => ?_) q2 r2)
    constructor
    · intro hx
      rcases List.mem_cons.mp ((h x).mp (List.mem_cons_of_mem _ hx)) with c | c
      · exact absurd (c ▸ hx) x1
      · exact c
    · intro hx
      rcases List.mem_cons.mp ((h x).mpr (List.mem_cons_of_mem _ hx)) with c | c
      · exact absurd (c ▸ hx) y1
      · exact c
theorem MustRow.unique {ps : Lanes} {s x : Int} {r1 r2 : List Int} (h1 : MustRow ps s x r1) (h2 : MustRow ps s x r2) : r1 = r2 :=
  chain_unique (fun _ _ => Must.antisymm) h1.nd h2.nd (fun d => (h1.mem d).trans (h2.mem d).symm) h1.up h2.up
end Gra
namespace Gra
theorem rch_trans {ps : Lanes} {a b c : Int} (h : Rch ps a b) (h' : Rch ps b c) : Rch ps a c := by
  induction h' with
  | here => exact h
  | step _ hl ih => exact .step ih hl
theorem rch_one {ps : Lanes} {a b : Int} (h : (a, b) ∈ ps) : Rch ps a b := .step .here h
def swap (p : Int × Int) : Int × Int := (p.2, p.1)
end Gra
namespace Gra
theorem tree_rch {ps : Lanes} {s : Int} {t : PTree} (R : Reach ps s t) : ∀ (i : Nat) (x : Int) (o : Option Int), t[i]? = some (x, o) → Rch ps s x := by
  intro i
  induction i using Nat.strongRecOn with
  | ind i ih =>
    intro x o h
    by_cases c : 0 < i
    · obtain ⟨p, j, o', _, hj, hp, hl⟩ := R.par i x o h c
      exact .step (ih j hj p o' hp) hl
    · have e : i = 0 := by omega
      subst e
      rw [R.head] at h
      cases h
      exact .here
theorem tree_all {ps : Lanes} {s : Int} {t : PTree} (R : Reach ps s t) (D : Done ps t t.length) {x : Int} : x ∈ keys t ↔ Rch ps s x := by
  constructor
  · intro h
    obtain ⟨i, o, hi⟩ := mem_keys.mp h
    exact tree_rch R i x o hi
  · intro h
    induction h with
    | here => exact R.start_mem
    | step _ hl ih => exact D.closed hl ih
structure Lead (ps : Lanes) (s x d : Int) : Prop where
  ne : d ≠ x
  must : Must ps s d x
  last : ∀ e, Must ps s e x → e ≠ x → Must ps s e d
theorem Lead.unique {ps : Lanes} {s x d e : Int} (h : Lead ps s x d) (h' : Lead ps s x e) : d = e :=
  Must.antisymm (h'.last d h.must h.ne) (h.last e h'.must h'.ne)
theorem rch_range {n : Int} {ps : Lanes} {s d : Int} (hs : 0 ≤ s ∧ s < n) (hin : ∀ p ∈ ps, (0 ≤ p.1 ∧ p.1 < n) ∧ (0 ≤ p.2 ∧ p.2 < n)) (h : Rch ps s d) : 0 ≤ d ∧ d < n := by
  cases h with
  | here => exact hs
  | step _ hl => exact (hin _ hl).2
end Gra
namespace Gra
def places (n : Nat) : List Int := (List.range n).map fun k => ((k : Nat) : Int)
theorem mem_places {n : Nat} {x : Int} : x ∈ places n ↔ 0 ≤ x ∧ x < n := by
  unfold places
  rw [List.mem_map]
  constructor
  · rintro ⟨k, hk, rfl⟩
    have := List.mem_range.mp hk
    omega
  · rintro ⟨h1, h2⟩
    exact ⟨x.toNat, List.mem_range.mpr (by omega), by omega⟩
theorem places_up (n : Nat) : (places n).Pairwise (· < ·) := by
  unfold places
  rw [List.pairwise_map]
  exact List.pairwise_lt_range.imp fun {a b} h => by omega
theorem places_nd (n : Nat) : (places n).Nodup := (places_up n).imp fun {a b} h => by
  have : a < b := h
  intro z; omega
theorem places_len (n : Nat) : (places n).length = n := by
  unfold places
  rw [List.length_map, List.length_range]
def RK (n : Nat) (ps : Lanes) (R : Int → List Int) : Prop := ∀ x : Int, 0 ≤ x → x < (n : Int) → (R x).Nodup ∧ ∀ y, y ∈ R x ↔ Rch ps x y
def scB (R : Int → List Int) (x y : Int) : Bool := decide (y ∈ R x) && decide (x ∈ R y)
def partOf (n : Nat) (R : Int → List Int) (x : Int) : List Int := (places n).filter (scB R x)
def least (n : Nat) (R : Int → List Int) (x : Int) : Bool := decide ((partOf n R x).head? = some x)
def once (n : Nat) (R : Int → List Int) : List (List Int) := ((places n).filter (least n R)).map (partOf n R)
section
variable {n : Nat} {ps : Lanes} {R : Int → List Int}
theorem mem_part (h : RK n ps R) {x y : Int} (hx : 0 ≤ x ∧ x < n) : y ∈ partOf n R x ↔ (0 ≤ y ∧ y < n) ∧ Rch ps x y ∧ Rch ps y x := by
  unfold partOf scB
  rw [List.mem_filter, mem_places, Bool.and_eq_true, decide_eq_true_iff, decide_eq_true_iff]
  constructor
  · rintro ⟨h1, h2, h3⟩
    exact ⟨h1, ((h x hx.1 hx.2).2 y).mp h2, ((h y h1.1 h1.2).2 x).mp h3⟩
  · rintro ⟨h1, h2, h3⟩
    exact ⟨h1, ((h x hx.1 hx.2).2 y).mpr h2, ((h y h1.1 h1.2).2 x).mpr h3⟩
theorem part_self (h : RK n ps R) {x : Int} (hx : 0 ≤ x ∧ x < n) : x ∈ partOf n R x := (mem_part h hx).mpr ⟨hx, .here, .here⟩
theorem part_up (n : Nat) (R : Int → List Int) (x : Int) : (partOf n R x).Pairwise (· < ·) := (places_up n).sublist List.filter_sublist
theorem part_eq (h : RK n ps R) {x y : Int} (hx : 0 ≤ x ∧ x < n) (hy : y ∈ partOf n R x) : partOf n R y = partOf n R x := by
  obtain ⟨hy0, h1, h2⟩ := (mem_part h hx).mp hy
  unfold partOf
  refine List.filter_congr fun z hz => ?_
  have hz0 := mem_places.mp hz
  have e : ∀ {u : Int} (_ : 0 ≤ u ∧ u < n), scB R u z = true ↔ Rch ps u z ∧ Rch ps z u := fun {u} hu => by
    unfold scB
    rw [Bool.and_eq_true, decide_eq_true_iff, decide_eq_true_iff, (h u hu.1 hu.2).2 z, (h z hz0.1 hz0.2).2 u]
  have : scB R y z = true ↔ scB R x z = true := by
    rw [e hy0, e hx]
    exact ⟨fun q => ⟨rch_trans h1 q.1, rch_trans q.2 h2⟩, fun q => ⟨rch_trans h2 q.1, rch_trans q.2 h1⟩⟩
  cases c : scB R x z with
  | true => exact this.mpr c
  | false =>
    cases c' : scB R y z with
    | false => rfl
    | true => rw [this.mp c'] at c; cases c
theorem part_head (h : RK n ps R) {x : Int} (hx : 0 ≤ x ∧ x < n) : ∃ y, (partOf n R x).head? = some y ∧ y ∈ partOf n R x := by
  cases e : partOf n R x with
  | nil => have := part_self h hx; rw [e] at this; cases this
  | cons y l => exact ⟨y, rfl, List.mem_cons_self⟩
theorem mem_once (h : RK n ps R) {p : List Int} : p ∈ once n R ↔ ∃ x : Int, (0 ≤ x ∧ x < n) ∧ p = partOf n R x ∧ p.head? = some x := by
  unfold once least
  rw [List.mem_map]
  constructor
  · rintro ⟨x, hx, rfl⟩
    obtain ⟨h1, h2⟩ := List.mem_filter.mp hx
    exact ⟨x, mem_places.mp h1, rfl, of_decide_eq_true h2⟩
  · rintro ⟨x, hx, rfl, hh⟩
    exact ⟨x, List.mem_filter.mpr ⟨mem_places.mpr hx, decide_eq_true hh⟩, rfl⟩
theorem part_once (h : RK n ps R) {x : Int} (hx : 0 ≤ x ∧ x < n) : partOf n R x ∈ once n R := by
  obtain ⟨y, hy, hm⟩ := part_head h hx
  have hy0 := ((mem_part h hx).mp hm).1
  exact (mem_once h).mpr ⟨y, hy0, (part_eq h hx hm).symm, hy⟩
theorem once_apart (h : RK n ps R) : (once n R).Pairwise fun a b => ∀ x ∈ a, x ∉ b := by
  unfold once
  rw [List.pairwise_map]
  have nd : ((places n).filter (least n R)).Nodup := (places_nd n).sublist List.filter_sublist
  refine (List.Pairwise.and_mem.mp nd).imp fun {a b} ⟨ha, hb, ne⟩ x hxa hxb => ?_
  obtain ⟨a1, a2⟩ := List.mem_filter.mp ha
  obtain ⟨b1, b2⟩ := List.mem_filter.mp hb
  have e1 := part_eq h (mem_places.mp a1) hxa
  have e2 := part_eq h (mem_places.mp b1) hxb
  have q1 : (partOf n R a).head? = some a := of_decide_eq_true a2
  have q2 : (partOf n R b).head? = some b := of_decide_eq_true b2
  rw [← e1, e2, q2] at q1
  exact ne (Option.some.inj q1).symm
end
structure PartsOk (n : Nat) (ps : Lanes) (F : List (List Int)) : Prop where
  ne : ∀ p ∈ F, p ≠ []
  up : ∀ p ∈ F, p.Pairwise (· < ·)
  rg : ∀ p ∈ F, ∀ x ∈ p, 0 ≤ x ∧ x < n
  sc : ∀ p ∈ F, ∀ x ∈ p, ∀ y ∈ p, Rch ps x y
  nd : F.flatten.Nodup
  all : ∀ x : Int, 0 ≤ x → x < n → x ∈ F.flatten
  ord : ∀ a b, (a, b) ∈ ps → ∀ (i j : Nat) (p q : List Int), F[i]? = some p → F[j]? = some q → a ∈ p → b ∈ q → i ≤ j
  wide : ∀ p ∈ F, ∀ x ∈ p, ∀ y : Int, 0 ≤ y → y < n → Rch ps x y → Rch ps y x → y ∈ p
theorem flat_apart {α : Type} : ∀ {F : List (List α)} {i j : Nat} {p q : List α} {x : α}, F.flatten.Nodup → F[i]? = some p → F[j]? = some q → x ∈ p → x ∈ q → i = j
  | [], i, _, _, _, _, _, h, _, _, _ => by simp at h
  | r :: F, 0, 0, _, _, _, _, _, _, _, _ => rfl
  | r :: F, 0, j + 1, p, q, x, nd, hi, hj, hp, hq => by
    rw [List.flatten_cons, List.nodup_append] at nd
    have e : r = p := by simpa using hi
    subst e
    exact absurd rfl (nd.2.2 x hp x (List.mem_flatten.mpr ⟨q, List.mem_of_getElem? (by simpa using hj), hq⟩))
  | r :: F, i + 1, 0, p, q, x, nd, hi, hj, hp, hq => by
    rw [List.flatten_cons, List.nodup_append] at nd
    have e : r = q := by simpa using hj
    subst e
    exact absurd rfl (nd.2.2 x hq x (List.mem_flatten.mpr ⟨p, List.mem_of_getElem? (by simpa using hi), hp⟩))
  | r :: F, i + 1, j + 1, p, q, x, nd, hi, hj, hp, hq => by
    rw [List.flatten_cons, List.nodup_append] at nd
    rw [flat_apart (F := F) (i := i) (j := j) nd.2.1 (by simpa using hi) (by simpa using hj) hp hq]
theorem parts_ok {n : Nat} {ps : Lanes} {R : Int → List Int} {F : List (List Int)} (h : RK n ps R) (hin : ∀ p ∈ ps, (0 ≤ p.1 ∧ p.1 < n) ∧ (0 ≤ p.2 ∧ p.2 < n)) (hp : F.Perm (once n R)) (hs : F.Pairwise fun p q => ∀ x y, p.head? = some x → q.head? = some y → (R y).length ≤ (R x).length) : PartsOk n ps F := by
  have form : ∀ p ∈ F, ∃ x : Int, (0 ≤ x ∧ x < n) ∧ p = partOf n R x ∧ p.head? = some x := fun p hp' => (mem_once h).mp (hp.mem_iff.mp hp')
  have nd : F.flatten.Nodup := by
    have e : F.flatten.Perm (once n R).flatten := hp.flatten
    rw [e.nodup_iff]
    show List.Pairwise _ _
    rw [List.pairwise_flatten]
    have ap : (once n R).Pairwise fun a b => ∀ x ∈ a, ∀ y ∈ b, x ≠ y := (once_apart h).imp fun {a b} q x hx y hy z => q x hx (by rw [z]; exact hy)
    refine ⟨fun l hl => ?_, ap⟩
    obtain ⟨x, _, rfl, _⟩ := (mem_once h).mp hl
    exact (part_up n R x).imp fun {a b} q => by
      have : a < b := q
      intro z; omega
  refine ⟨fun p hp' z => ?_, fun p hp' => ?_, fun p hp' x hx => ?_, fun p hp' x hx y hy => ?_, nd, fun x h0 h1 => ?_, fun a b hab i j p q hi hj ha hb => ?_, fun p hp' x hx y h0 h1 r1 r2 => ?_⟩
  · obtain ⟨x, _, _, e⟩ := form p hp'
    rw [z] at e; cases e
  · obtain ⟨x, _, rfl, _⟩ := form p hp'
    exact part_up n R x
  · obtain ⟨u, hu, rfl, _⟩ := form p hp'
    exact ((mem_part h hu).mp hx).1
  · obtain ⟨u, hu, rfl, _⟩ := form p hp'
    exact rch_trans ((mem_part h hu).mp hx).2.2 ((mem_part h hu).mp hy).2.1
  · exact List.mem_flatten.mpr ⟨_, hp.mem_iff.mpr (part_once h ⟨h0, h1⟩), part_self h ⟨h0, h1⟩⟩
  · by_cases c : i ≤ j
    · exact c
    exfalso
    obtain ⟨u, hu, eu, hdu⟩ := form p (List.mem_of_getElem? hi)
    obtain ⟨v, hv, ev, hdv⟩ := form q (List.mem_of_getElem? hj)
    have hlt : j < i := by omega
    have hh := by
      have := List.pairwise_iff_getElem.mp hs j i (List.getElem?_eq_some_iff.mp hj).1 (List.getElem?_eq_some_iff.mp hi).1 hlt
      rw [(List.getElem?_eq_some_iff.mp hj).2, (List.getElem?_eq_some_iff.mp hi).2] at this
      exact this v u hdv hdu
    have ma := (mem_part h hu).mp (eu ▸ ha)
    have mb := (mem_part h hv).mp (ev ▸ hb)
    -- from u to v
    have huv : Rch ps u v := rch_trans ma.2.1 (rch_trans (rch_one hab) mb.2.2)
    have sub : ∀ x ∈ R v, x ∈ R u := fun x hx => ((h u hu.1 hu.2).2 x).mpr (rch_trans huv (((h v hv.1 hv.2).2 x).mp hx))
    have hvu : u ∈ R v := by
      by_cases m : u ∈ R v
      · exact m
      exfalso
      have := length_le_of_subset (l := u :: R v) (m := R u) (List.nodup_cons.mpr ⟨m, (h v hv.1 hv.2).1⟩) fun x hx => by
        rcases List.mem_cons.mp hx with e | e
        · rw [e]; exact ((h u hu.1 hu.2).2 u).mpr .here
        · exact sub x e
      rw [List.length_cons] at this
      omega
    have r2 : Rch ps v u := ((h v hv.1 hv.2).2 u).mp hvu
    have : a ∈ q := by
      rw [ev]
      exact (mem_part h hv).mpr ⟨ma.1, rch_trans r2 ma.2.1, rch_trans ma.2.2 huv⟩
    have := flat_apart nd hi hj ha this
    omega
  · obtain ⟨u, hu, rfl, _⟩ := form p hp'
    have mx := (mem_part h hu).mp hx
    exact (mem_part h hu).mpr ⟨⟨h0, h1⟩, rch_trans mx.2.1 r1, rch_trans r2 mx.2.2⟩
def numsFrom (i : Nat) : List (List Int) → List (Int × Int)
  | [] => []
  | p :: F => p.map (fun x => (x, ((i : Nat) : Int))) ++ numsFrom (i + 1) F
theorem nums_snoc (p : List Int) : ∀ (F : List (List Int)) (i : Nat), numsFrom i (F ++ [p]) = numsFrom i F ++ p.map (fun x => (x, ((i + F.length : Nat) : Int)))
  | [], i => by simp [numsFrom]
  | q :: F, i => by
    show q.map _ ++ numsFrom (i + 1) (F ++ [p]) = (q.map _ ++ numsFrom (i + 1) F) ++ _
    rw [nums_snoc p F (i + 1), List.append_assoc, List.length_cons]
    have e : i + 1 + F.length = i + (F.length + 1) := by omega
    rw [e]
theorem nums_keys : ∀ (F : List (List Int)) (i : Nat), (numsFrom i F).map (·.1) = F.flatten
  | [], _ => rfl
  | p :: F, i => by
    show (p.map _ ++ numsFrom (i + 1) F).map _ = _
    rw [List.map_append, nums_keys F (i + 1), List.map_map, List.flatten_cons]
    congr 1
    exact (List.map_congr_left fun _ _ => rfl).trans (List.map_id _)
theorem mem_nums {x k : Int} : ∀ {F : List (List Int)} {i : Nat}, (x, k) ∈ numsFrom i F → ∃ j p, F[j]? = some p ∧ x ∈ p ∧ k = ((i + j : Nat) : Int)
  | [], _, h => by cases h
  | p :: F, i, h => by
    rcases List.mem_append.mp h with h | h
    · obtain ⟨y, hy, e⟩ := List.mem_map.mp h
      have e1 : y = x := congrArg Prod.fst e
      have e2 : ((i : Nat) : Int) = k := congrArg Prod.snd e
      exact ⟨0, p, rfl, e1 ▸ hy, e2.symm⟩
    · obtain ⟨j, q, h1, h2, h3⟩ := mem_nums h
      exact ⟨j + 1, q, by simpa using h1, h2, by rw [h3]; congr 1; omega⟩
theorem flat_len {n : Nat} {ps : Lanes} {F : List (List Int)} (h : PartsOk n ps F) : F.flatten.length = n := by
  have h1 := length_le_of_subset (m := places n) h.nd fun x hx => by
    obtain ⟨p, hp, hxp⟩ := List.mem_flatten.mp hx
    exact mem_places.mpr (h.rg p hp x hxp)
  have h2 := length_le_of_subset (m := F.flatten) (places_nd n) fun x hx => by
    have := mem_places.mp hx
    exact h.all x this.1 this.2
  rw [places_len] at h1 h2
  omega
theorem rch_swap {ps : Lanes} {a b : Int} (h : Rch (ps.map swap) a b) : Rch ps b a := by
  induction h with
  | here => exact .here
  | step _ hl ih =>
    obtain ⟨q, hq, e⟩ := List.mem_map.mp hl
    refine rch_trans (rch_one ?_) ih
    cases q
    simp only [swap, Prod.mk.injEq] at e
    rw [← e.1, ← e.2]; exact hq
theorem swap_swap (ps : Lanes) : (ps.map swap).map swap = ps := by
  rw [List.map_map]
  exact (List.map_congr_left fun _ _ => rfl).trans (List.map_id _)
theorem rch_swap' {ps : Lanes} {a b : Int} (h : Rch ps a b) : Rch (ps.map swap) b a := rch_swap (by rw [swap_swap]; exact h)
theorem asc_unique {l m : List Int} (hl : l.Pairwise (· < ·)) (hp : m.Perm l) (hm : m.Pairwise (· ≤ ·)) : m = l := by
  have nd : l.Nodup := hl.imp fun {a b} h => by
    have : a < b := h
    intro z; omega
  have hm' : m.Pairwise (· < ·) := strict_of hm (hp.nodup_iff.mpr nd)
  have key : ∀ {l m : List Int}, l.Pairwise (· < ·) → m.Pairwise (· < ·) → (∀ x, x ∈ l ↔ x ∈ m) → l = m := by
    intro l
    induction l with
    | nil =>
      intro m _ _ h
      cases m with
      | nil => rfl
      | cons b m => exact absurd ((h b).mpr List.mem_cons_self) (by simp)
    | cons a l ih =>
      intro m h1 h2 h
      cases m with
      | nil => exact absurd ((h a).mp List.mem_cons_self) (by simp)
      | cons b m =>
        obtain ⟨x1, x2⟩ := List.pairwise_cons.mp h1
        obtain ⟨y1, y2⟩ := List.pairwise_cons.mp h2
        have e : a = b := by
          rcases List.mem_cons.mp ((h a).mp List.mem_cons_self) with c | c
          · exact c
          rcases List.mem_cons.mp ((h b).mpr List.mem_cons_self) with c' | c'
          · exact c'.symm
          have z1 := x1 b c'
          have z2 := y1 a c
          omega
        subst e
        refine congrArg (a :: ·) (ih x2 y2 fun x => ⟨fun hx => ?_, fun hx => ?_⟩)
        · rcases List.mem_cons.mp ((h x).mp (List.mem_cons_of_mem _ hx)) with c | c
          · have := x1 x hx; omega
          · exact c
        · rcases List.mem_cons.mp ((h x).mpr (List.mem_cons_of_mem _ hx)) with c | c
          · have := y1 x hx; omega
          · exact c
  exact key hm' hl fun x => hp.mem_iff
end Gra
namespace Gra
abbrev Prs := List (Nat × Nat)
structure Depth (S : Prs) (D : Nat → Nat) : Prop where
  one : ∀ j, 1 ≤ D j
  ge : ∀ i j, (i, j) ∈ S → D i + 1 ≤ D j
  by_ : ∀ j, D j = 1 ∨ ∃ i, (i, j) ∈ S ∧ D j = D i + 1
theorem Depth.unique {S : Prs} {D E : Nat → Nat} (up : ∀ i j, (i, j) ∈ S → i < j) (d : Depth S D) (e : Depth S E) : ∀ j, D j = E j := by
  intro j
  induction j using Nat.strongRecOn with
  | ind j ih =>
    have f : ∀ {D E : Nat → Nat}, Depth S D → Depth S E → (∀ i, i < j → D i = E i) → D j ≤ E j := fun {D E} d e ih => by
      rcases d.by_ j with h | ⟨i, hi, h⟩
      · rw [h]; exact e.one j
      · have := e.ge i j hi
        rw [h, ih i (up i j hi)]; exact this
    exact Nat.le_antisymm (f d e ih) (f e d fun i hi => (ih i hi).symm)
theorem Depth.le {S : Prs} {D : Nat → Nat} (up : ∀ i j, (i, j) ∈ S → i < j) (d : Depth S D) : ∀ j, D j ≤ j + 1 := by
  intro j
  induction j using Nat.strongRecOn with
  | ind j ih =>
    rcases d.by_ j with h | ⟨i, hi, h⟩
    · rw [h]; omega
    · have h1 := up i j hi
      have h2 := ih i h1
      omega
def push1 (E : Nat → Nat) (p : Nat × Nat) : Nat → Nat := fun k => if k = p.2 then max (E p.2) (E p.1 + 1) else E k
structure Rnd (S : Prs) (D : Nat → Nat) (t : Nat) (done : Prs) (E : Nat → Nat) : Prop where
  le : ∀ j, E j ≤ D j
  one : ∀ j, 1 ≤ E j
  old : ∀ j, D j ≤ t + 1 → E j = D j
  new : ∀ i j, (i, j) ∈ done → D i ≤ t + 1 → D i + 1 ≤ E j
theorem rnd_start {S : Prs} {D : Nat → Nat} (d : Depth S D) : Rnd S D 0 [] (fun _ => 1) :=
  ⟨d.one, fun _ => Nat.le_refl _, fun j h => by have := d.one j; omega, fun _ _ h => by cases h⟩
theorem rnd_step {S : Prs} {D E : Nat → Nat} {t : Nat} {done : Prs} {p : Nat × Nat} (d : Depth S D) (hp : p ∈ S) (r : Rnd S D t done E) : Rnd S D t (done ++ [p]) (push1 E p) := by
  have hge : E p.1 + 1 ≤ D p.2 := Nat.le_trans (Nat.succ_le_succ (r.le p.1)) (d.ge p.1 p.2 hp)
  have mono : ∀ j, E j ≤ push1 E p j := fun j => by
    unfold push1
    split
    · rename_i e; rw [e]; exact Nat.le_max_left _ _
    · exact Nat.le_refl _
  have le : ∀ j, push1 E p j ≤ D j := fun j => by
    unfold push1
    split
    · rename_i e; rw [e]; exact Nat.max_le.mpr ⟨r.le p.2, hge⟩
    · exact r.le j
  refine ⟨le, fun j => Nat.le_trans (r.one j) (mono j), fun j hj => Nat.le_antisymm (le j) (by rw [← r.old j hj]; exact mono j), fun i j h hi => ?_⟩
  rcases List.mem_append.mp h with h | h
  · exact Nat.le_trans (r.new i j h hi) (mono j)
  · have e := List.mem_singleton.mp h
    subst e
    show D i + 1 ≤ push1 E (i, j) j
    unfold push1
    rw [if_pos rfl, ← r.old i hi]
    exact Nat.le_max_right _ _
theorem rnd_next {S : Prs} {D E : Nat → Nat} {t : Nat} (d : Depth S D) (r : Rnd S D t S E) : Rnd S D (t + 1) [] E := by
  refine ⟨r.le, r.one, fun j hj => ?_, fun _ _ h => by cases h⟩
  by_cases c : D j ≤ t + 1
  · exact r.old j c
  · refine Nat.le_antisymm (r.le j) ?_
    rcases d.by_ j with h | ⟨i, hi, h⟩
    · omega
    · rw [h]
      exact r.new i j hi (by omega)
structure Rws (S done : Prs) (m : Nat) (W : Nat → List Nat) : Prop where
  last : ∀ j, j < m → (W j).getLast? = some j
  chain : ∀ j, j < m → ∀ (k a b : Nat), (W j)[k]? = some a → (W j)[k + 1]? = some b → (a, b) ∈ S
  rng : ∀ j, j < m → ∀ x ∈ W j, x < m
  ge : ∀ i j, (i, j) ∈ done → (W i).length + 1 ≤ (W j).length
  by_ : ∀ j, j < m → (W j).length = 1 ∨ ∃ i, (i, j) ∈ done ∧ (W j).length = (W i).length + 1
theorem rws_start (S : Prs) (m : Nat) : Rws S [] m (fun j => [j]) :=
  ⟨fun _ _ => rfl, fun j _ k a b h h2 => by simp at h2, fun j hj x hx => by rw [List.mem_singleton.mp hx]; exact hj, fun _ _ h => (by cases h), fun _ _ => Or.inl rfl⟩
def setRow (W : Nat → List Nat) (p : Nat × Nat) : Nat → List Nat := if (W p.2).length ≤ (W p.1).length then fun k => if k = p.2 then W p.1 ++ [p.2] else W k else W
theorem rws_step {S done : Prs} {m : Nat} {W : Nat → List Nat} {p : Nat × Nat} (hp : p ∈ S) (hm : p.1 < m ∧ p.2 < m) (hlt : p.1 < p.2) (fin : ∀ i j, (i, j) ∈ done → i ≤ p.1) (up : ∀ i j, (i, j) ∈ done → i < j) (r : Rws S done m W) : Rws S (done ++ [p]) m (setRow W p) := by
  have ne1 : p.1 ≠ p.2 := by omega
  unfold setRow
  by_cases c : (W p.2).length ≤ (W p.1).length
  · rw [if_pos c]
    have e1 : ∀ k, k ≠ p.2 → (if k = p.2 then W p.1 ++ [p.2] else W k) = W k := fun k h => if_neg h
    have e2 : (if p.2 = p.2 then W p.1 ++ [p.2] else W p.2) = W p.1 ++ [p.2] := if_pos rfl
    -- the rows that stand in done at the left are not the row of p.2
    have nl : ∀ i j, (i, j) ∈ done → i ≠ p.2 := fun i j h => by have := fin i j h; omega
    have len2 : (W p.1 ++ [p.2]).length = (W p.1).length + 1 := by rw [List.length_append, List.length_singleton]
    refine ⟨fun j hj => ?_, fun j hj k a b h1 h2 => ?_, fun j hj x hx => ?_, fun i j h => ?_, fun j hj => ?_⟩
    · by_cases e : j = p.2
      · subst e; rw [e2]; simp
      · rw [e1 j e]; exact r.last j hj
    · by_cases e : j = p.2
      · subst e
        rw [e2] at h1 h2
        by_cases hk : k + 1 < (W p.1).length
        · rw [List.getElem?_append_left (by omega)] at h1
          rw [List.getElem?_append_left hk] at h2
          exact r.chain p.1 hm.1 k a b h1 h2
        · have hk2 : k + 1 < (W p.1).length + 1 := by
            have := (List.getElem?_eq_some_iff.mp h2).1
            rwa [len2] at this
          have hk3 : k + 1 = (W p.1).length := by omega
          rw [List.getElem?_append_left (by omega)] at h1
          rw [List.getElem?_append_right (by omega), hk3, Nat.sub_self] at h2
          have eb : p.2 = b := by simpa using h2
          have el := r.last p.1 hm.1
          rw [List.getLast?_eq_getElem?, ← hk3] at el
          have el' : (W p.1)[k]? = some p.1 := by simpa using el
          rw [el'] at h1
          have ea : p.1 = a := Option.some.inj h1
          rw [← ea, ← eb]
          exact hp
      · rw [e1 j e] at h1 h2; exact r.chain j hj k a b h1 h2
    · by_cases e : j = p.2
      · subst e
        rw [e2] at hx
        rcases List.mem_append.mp hx with h | h
        · exact r.rng p.1 hm.1 x h
        · rw [List.mem_singleton.mp h]; exact hm.2
      · rw [e1 j e] at hx; exact r.rng j hj x hx
    · rcases List.mem_append.mp h with h | h
      · rw [e1 i (nl i j h)]
        by_cases e : j = p.2
        · subst e
          rw [e2, len2]
          have := r.ge i p.2 h
          omega
        · rw [e1 j e]; exact r.ge i j h
      · have e := List.mem_singleton.mp h
        have ei : i = p.1 := congrArg Prod.fst e
        have ej : j = p.2 := congrArg Prod.snd e
        rw [ei, ej, e1 p.1 ne1, e2, len2]
        exact Nat.le_refl _
    · by_cases e : j = p.2
      · subst e
        refine .inr ⟨p.1, List.mem_append_right _ List.mem_cons_self, ?_⟩
        rw [e2, e1 p.1 ne1, len2]
      · rw [e1 j e]
        rcases r.by_ j hj with h | ⟨i, hi, h⟩
        · exact .inl h
        · exact .inr ⟨i, List.mem_append_left _ hi, by rw [e1 i (nl i j hi)]; exact h⟩
  · rw [if_neg c]
    refine ⟨r.last, r.chain, r.rng, fun i j h => ?_, fun j hj => ?_⟩
    · rcases List.mem_append.mp h with h | h
      · exact r.ge i j h
      · have e := List.mem_singleton.mp h
        have ei : i = p.1 := congrArg Prod.fst e
        have ej : j = p.2 := congrArg Prod.snd e
        rw [ei, ej]
        omega
    · rcases r.by_ j hj with h | ⟨i, hi, h⟩
      · exact .inl h
      · exact .inr ⟨i, List.mem_append_left _ hi, h⟩
theorem rws_depth {S done : Prs} {m : Nat} {W : Nat → List Nat} (same : ∀ p, p ∈ done ↔ p ∈ S) (hm : ∀ p ∈ S, p.1 < m ∧ p.2 < m) (r : Rws S done m W) : Depth S (fun j => if j < m then (W j).length else 1) := by
  have e : ∀ j, j < m → (if j < m then (W j).length else 1) = (W j).length := fun j h => if_pos h
  refine ⟨fun j => ?_, fun i j h => ?_, fun j => ?_⟩
  · by_cases c : j < m
    · show 1 ≤ (if j < m then (W j).length else 1)
      rw [e j c]
      have := r.last j c
      cases q : W j with
      | nil => rw [q] at this; cases this
      | cons a l => rw [List.length_cons]; omega
    · show 1 ≤ (if j < m then (W j).length else 1)
      rw [if_neg c]; exact Nat.le_refl _
  · show (if i < m then (W i).length else 1) + 1 ≤ (if j < m then (W j).length else 1)
    rw [e i (hm _ h).1, e j (hm _ h).2]
    exact r.ge i j ((same _).mpr h)
  · by_cases c : j < m
    · show (if j < m then (W j).length else 1) = 1 ∨ ∃ i, (i, j) ∈ S ∧ (if j < m then (W j).length else 1) = (if i < m then (W i).length else 1) + 1
      rw [e j c]
      rcases r.by_ j c with h | ⟨i, hi, h⟩
      · exact .inl h
      · have hi' := (same _).mp hi
        exact .inr ⟨i, hi', by rw [e i (hm _ hi').1]; exact h⟩
    · exact .inl (if_neg c)
end Gra
namespace Gra
def nm (F : List (List Int)) (x : Int) : Nat := F.findIdx fun p => decide (x ∈ p)
theorem nm_eq {F : List (List Int)} (nd : F.flatten.Nodup) {j : Nat} {p : List Int} {x : Int} (h : F[j]? = some p) (hx : x ∈ p) : nm F x = j := by
  have hlt : nm F x < F.length := List.findIdx_lt_length_of_exists ⟨p, List.mem_of_getElem? h, decide_eq_true hx⟩
  have e : decide (x ∈ F[nm F x]) = true := List.findIdx_getElem (p := fun p => decide (x ∈ p)) (xs := F) (w := hlt)
  exact flat_apart nd (List.getElem?_eq_getElem hlt) h (of_decide_eq_true e) hx
theorem nm_at {n : Nat} {ps : Lanes} {F : List (List Int)} (O : PartsOk n ps F) {x : Int} (h0 : 0 ≤ x) (h1 : x < n) : ∃ p, F[nm F x]? = some p ∧ x ∈ p := by
  obtain ⟨p, hp, hx⟩ := List.mem_flatten.mp (O.all x h0 h1)
  obtain ⟨j, hj⟩ := List.mem_iff_getElem?.mp hp
  rw [nm_eq O.nd hj hx]
  exact ⟨p, hj, hx⟩
theorem nm_lt {n : Nat} {ps : Lanes} {F : List (List Int)} (O : PartsOk n ps F) {x : Int} (h0 : 0 ≤ x) (h1 : x < n) : nm F x < F.length := by
  obtain ⟨p, hp, _⟩ := nm_at O h0 h1
  exact (List.getElem?_eq_some_iff.mp hp).1
def stp (F : List (List Int)) (p : Int × Int) : Nat × Nat := (nm F p.1, nm F p.2)
def stB (F : List (List Int)) (p : Int × Int) : Bool := decide (nm F p.1 ≠ nm F p.2)
def steps (F : List (List Int)) (ps : Lanes) : Prs := (ps.filter (stB F)).map (stp F)
theorem mem_steps {F : List (List Int)} {ps : Lanes} {k : Nat × Nat} : k ∈ steps F ps ↔ ∃ p ∈ ps, stp F p = k ∧ k.1 ≠ k.2 := by
  unfold steps
  rw [List.mem_map]
  constructor
  · rintro ⟨p, hp, rfl⟩
    obtain ⟨h1, h2⟩ := List.mem_filter.mp hp
    exact ⟨p, h1, rfl, of_decide_eq_true h2⟩
  · rintro ⟨p, hp, rfl, hne⟩
    exact ⟨p, List.mem_filter.mpr ⟨hp, decide_eq_true hne⟩, rfl⟩
section
variable {n : Nat} {ps : Lanes} {F : List (List Int)}
theorem steps_up (O : PartsOk n ps F) (hin : ∀ p ∈ ps, (0 ≤ p.1 ∧ p.1 < (n : Int)) ∧ (0 ≤ p.2 ∧ p.2 < (n : Int))) : ∀ i j, (i, j) ∈ steps F ps → i < j := by
  intro i j h
  obtain ⟨p, hp, e, hne⟩ := mem_steps.mp h
  obtain ⟨⟨a0, a1⟩, b0, b1⟩ := hin p hp
  obtain ⟨q1, c1, c2⟩ := nm_at O a0 a1
  obtain ⟨q2, d1, d2⟩ := nm_at O b0 b1
  have := O.ord p.1 p.2 hp _ _ q1 q2 c1 d1 c2 d2
  have e1 : nm F p.1 = i := congrArg Prod.fst e
  have e2 : nm F p.2 = j := congrArg Prod.snd e
  rw [e1, e2] at this
  have hne' : i ≠ j := hne
  omega
theorem steps_lt (O : PartsOk n ps F) (hin : ∀ p ∈ ps, (0 ≤ p.1 ∧ p.1 < (n : Int)) ∧ (0 ≤ p.2 ∧ p.2 < (n : Int))) : ∀ k ∈ steps F ps, k.1 < F.length ∧ k.2 < F.length := by
  intro k h
  obtain ⟨p, hp, rfl, _⟩ := mem_steps.mp h
  obtain ⟨⟨a0, a1⟩, b0, b1⟩ := hin p hp
  exact ⟨nm_lt O a0 a1, nm_lt O b0 b1⟩
theorem parts_len (O : PartsOk n ps F) : F.length ≤ n := by
  have : ∀ G : List (List Int), (∀ p ∈ G, p ≠ []) → G.length ≤ G.flatten.length := fun G => by
    induction G with
    | nil => exact fun _ => Nat.le_refl _
    | cons p G ih =>
      intro h
      have h1 := ih fun q hq => h q (List.mem_cons_of_mem _ hq)
      have h2 : 0 < p.length := List.length_pos_iff.mpr (h p List.mem_cons_self)
      rw [List.flatten_cons, List.length_append, List.length_cons]; omega
  have := this F O.ne
  have := flat_len O
  omega
theorem parts_pos (O : PartsOk n ps F) (h : 0 < n) : 0 < F.length := by
  have := flat_len O
  cases F with
  | nil => simp at this; omega
  | cons p F => rw [List.length_cons]; omega
end
def setAll {α : Type} (f : Int → α) (L : List α) (D : List (Int × Int)) : List α := D.foldl (fun L q => L.set q.1.toNat (f q.2)) L
section
variable {α : Type} {f : Int → α}
theorem setAll_snoc (L : List α) (D : List (Int × Int)) (q : Int × Int) : setAll f L (D ++ [q]) = (setAll f L D).set q.1.toNat (f q.2) := by
  unfold setAll
  rw [List.foldl_append]; rfl
theorem setAll_len : ∀ (D : List (Int × Int)) (L : List α), (setAll f L D).length = L.length
  | [], L => rfl
  | q :: D, L => by
    show (setAll f (L.set q.1.toNat (f q.2)) D).length = _
    rw [setAll_len D, List.length_set]
theorem setAll_other {x : Int} (h0 : 0 ≤ x) : ∀ (D : List (Int × Int)) (L : List α), (∀ q ∈ D, 0 ≤ q.1) → x ∉ D.map (·.1) → (setAll f L D)[x.toNat]? = L[x.toNat]?
  | [], L, _, _ => rfl
  | q :: D, L, hp, hx => by
    show (setAll f (L.set q.1.toNat (f q.2)) D)[x.toNat]? = _
    rw [setAll_other h0 D _ (fun r hr => hp r (List.mem_cons_of_mem _ hr)) (fun m => hx (List.mem_cons_of_mem _ m))]
    have h1 := hp q List.mem_cons_self
    have ne : q.1 ≠ x := fun e => hx (by rw [← e]; exact List.mem_cons_self)
    rw [List.getElem?_set_ne (by omega)]
theorem setAll_at {x k : Int} (h0 : 0 ≤ x) : ∀ (D : List (Int × Int)) (L : List α), (D.map (·.1)).Nodup → (∀ q ∈ D, 0 ≤ q.1) → (x, k) ∈ D → x.toNat < L.length → (setAll f L D)[x.toNat]? = some (f k)
  | [], L, _, _, h, _ => by cases h
  | q :: D, L, nd, hp, h, hl => by
    rw [List.map_cons] at nd
    obtain ⟨n1, n2⟩ := List.nodup_cons.mp nd
    show (setAll f (L.set q.1.toNat (f q.2)) D)[x.toNat]? = _
    rcases List.mem_cons.mp h with e | m
    · subst e
      rw [setAll_other h0 D _ (fun r hr => hp r (List.mem_cons_of_mem _ hr)) n1, List.getElem?_set_self hl]
    · exact setAll_at h0 D _ n2 (fun r hr => hp r (List.mem_cons_of_mem _ hr)) m (by rw [List.length_set]; exact hl)
theorem setAll_parts {n : Nat} {ps : Lanes} {F : List (List Int)} (O : PartsOk n ps F) {L : List α} (hl : L.length = n) : setAll f L (numsFrom 0 F) = (places n).map fun x => f (nm F x : Nat) := by
  refine List.ext_getElem? fun i => ?_
  by_cases hi : i < n
  · have hx := O.all (i : Int) (by omega) (by omega)
    rw [← nums_keys F 0] at hx
    obtain ⟨⟨x, k⟩, hm, e⟩ := List.mem_map.mp hx
    have e' : x = (i : Int) := e
    subst e'
    obtain ⟨j, p, g1, g2, g3⟩ := mem_nums hm
    have := setAll_at (f := f) (x := (i : Int)) (k := k) (by omega) (numsFrom 0 F) L (by rw [nums_keys]; exact O.nd) (fun q hq => by
      obtain ⟨j, p, g1, g2, _⟩ := mem_nums (x := q.1) (k := q.2) hq
      exact (O.rg p (List.mem_of_getElem? g1) q.1 g2).1) hm (by rw [hl]; omega)
    rw [Int.toNat_natCast] at this
    rw [this, List.getElem?_map]
    unfold places
    rw [List.getElem?_map, List.getElem?_range hi]
    show some (f k) = some (f (nm F (i : Int) : Nat))
    rw [nm_eq O.nd g1 g2, g3, Nat.zero_add]
  · rw [List.getElem?_eq_none (by rw [setAll_len, hl]; omega), List.getElem?_eq_none (by unfold places; rw [List.length_map, List.length_map, List.length_range]; omega)]
end
def numI (n : Nat) (F : List (List Int)) : List Int := (places n).map fun x => ((nm F x : Nat) : Int)
theorem numI_len (n : Nat) (F : List (List Int)) : (numI n F).length = n := by
  unfold numI places
  rw [List.length_map, List.length_map, List.length_range]
theorem numI_at {n : Nat} {F : List (List Int)} {i : Nat} (h : i < n) : (numI n F)[i]? = some ((nm F (i : Int) : Nat) : Int) := by
  unfold numI places
  rw [List.getElem?_map, List.getElem?_map, List.getElem?_range h]; rfl
theorem Depth.congr {S S' : Prs} {D : Nat → Nat} (same : ∀ p, p ∈ S ↔ p ∈ S') (d : Depth S D) : Depth S' D :=
  ⟨d.one, fun i j h => d.ge i j ((same _).mpr h), fun j => (d.by_ j).imp id fun ⟨i, h, e⟩ => ⟨i, (same _).mp h, e⟩⟩
theorem rws_len {S done : Prs} {m : Nat} {W : Nat → List Nat} (up : ∀ i j, (i, j) ∈ done → i < j) (hm : ∀ p ∈ done, p.1 < m ∧ p.2 < m) (r : Rws S done m W) : ∀ j, j < m → (W j).length ≤ j + 1 := by
  intro j
  induction j using Nat.strongRecOn with
  | ind j ih =>
    intro hj
    rcases r.by_ j hj with h | ⟨i, hi, h⟩
    · omega
    · have h1 := up i j hi
      have := ih i h1 (hm _ hi).1
      omega
theorem rws_all {S : Prs} {m : Nat} (hm : ∀ p ∈ S, p.1 < m ∧ p.2 < m) (up : ∀ i j, (i, j) ∈ S → i < j) (srt : S.Pairwise fun a b => a.1 ≤ b.1) : ∀ i, i ≤ S.length → ∃ W, Rws S (S.take i) m W
  | 0, _ => ⟨_, rws_start S m⟩
  | i + 1, hi => by
    obtain ⟨W, r⟩ := rws_all hm up srt i (by omega)
    have hp : S[i]? = some (S[i]'(by omega)) := List.getElem?_eq_getElem _
    have e : S.take (i + 1) = S.take i ++ [S[i]'(by omega)] := by rw [List.take_add_one, hp]; rfl
    rw [e]
    have hmem : S[i]'(by omega) ∈ S := List.getElem_mem _
    refine ⟨_, rws_step hmem (hm _ hmem) (up _ _ hmem) (fun a b h => ?_) (fun a b h => up a b (List.mem_of_mem_take h)) r⟩
    obtain ⟨k, hk⟩ := List.mem_iff_getElem?.mp h
    have hk1 := (List.getElem?_eq_some_iff.mp hk).1
    rw [List.length_take] at hk1
    rw [List.getElem?_take_of_lt (by omega)] at hk
    obtain ⟨hk2, hk3⟩ := List.getElem?_eq_some_iff.mp hk
    have := List.pairwise_iff_getElem.mp srt k i hk2 (by omega) (by omega)
    rw [hk3] at this
    exact this
theorem depth_is {S : Prs} {m : Nat} (hm : ∀ p ∈ S, p.1 < m ∧ p.2 < m) (up : ∀ i j, (i, j) ∈ S → i < j) (srt : S.Pairwise fun a b => a.1 ≤ b.1) : ∃ D, Depth S D := by
  obtain ⟨W, r⟩ := rws_all hm up srt S.length (Nat.le_refl _)
  rw [List.take_length] at r
  exact ⟨_, rws_depth (fun _ => Iff.rfl) hm r⟩
theorem rnd_end {S : Prs} {D E : Nat → Nat} {m : Nat} (up : ∀ i j, (i, j) ∈ S → i < j) (d : Depth S D) (r : Rnd S D m [] E) : ∀ j, j < m → E j = D j := fun j hj => r.old j (by have := d.le up j; omega)
theorem range_set {α : Type} (f : Nat → α) (m j : Nat) (v : α) : ((List.range m).map f).set j v = (List.range m).map fun k => if k = j then v else f k := by
  refine List.ext_getElem? fun i => ?_
  rw [List.getElem?_set, List.getElem?_map]
  by_cases hi : i < m
  · rw [List.getElem?_map, List.getElem?_range hi, List.length_map, List.length_range]
    by_cases e : j = i
    · subst e; rw [if_pos rfl, if_pos hi]; simp
    · rw [if_neg e]
      show some (f i) = some (if i = j then v else f i)
      rw [if_neg (Ne.symm e)]
  · rw [List.getElem?_map, List.getElem?_eq_none (l := List.range m) (by rw [List.length_range]; omega), List.length_map, List.length_range]
    by_cases e : j = i
    · subst e; rw [if_pos rfl, if_neg hi]; rfl
    · rw [if_neg e]; rfl
end Gra
namespace L2
open PySem PySem.Spec PyProof.Rows
def clStep (env : Env) (cs : List (Str × Addr)) (p : Str × NameKind) : List (Str × Addr) :=
  if p.2 == .free then (p.1, (env.cells.lookup p.1).getD 0) :: cs else cs
def clOf (scope : Scope) (env : Env) : List (Str × Addr) := scope.names.foldl (clStep env) []
theorem closure_loop {env : Env} : ∀ (l : List (Str × NameKind)) (cs : List (Str × Addr)), (∀ p ∈ l, p.2 = .free → ∃ c, env.cells.lookup p.1 = some c) →
    (forIn l cs fun (p : Str × NameKind) (r : List (Str × Addr)) => (match p with
      | (name, kind) => if (kind == NameKind.free) = true then do let c ← cellOf env name; pure (ForInStep.yield ((name, c) :: r)) else pure (ForInStep.yield r) : Sem (ForInStep (List (Str × Addr))))) = pure (l.foldl (clStep env) cs)
  | [], cs, _ => rfl
  | (n, k) :: r, cs, h => by
    rw [List.forIn_cons, List.foldl_cons]
    by_cases e : k = .free
    · obtain ⟨c, hc⟩ := h (n, k) List.mem_cons_self e
      subst e
      have e2 : clStep env cs (n, .free) = (n, c) :: cs := by
        show (if (NameKind.free == NameKind.free) = true then (n, (env.cells.lookup n).getD 0) :: cs else cs) = _
        rw [if_pos (beq_self_eq_true NameKind.free)]
        have hc' : env.cells.lookup n = some c := hc
        rw [hc']; rfl
      rw [e2]
      have e3 : cellOf env n = pure c := by
        have hc' : env.cells.lookup n = some c := hc
        unfold cellOf; rw [hc']
      simp only [e3, beq_self_eq_true, if_true, pure_bind]
      exact closure_loop r _ fun p hp => h p (List.mem_cons_of_mem _ hp)
    · have e1 : (k == NameKind.free) = false := by simpa using e
      have e2 : clStep env cs (n, k) = cs := by
        show (if (k == NameKind.free) = true then _ else cs) = _
        rw [e1]; rfl
      rw [e2]
      simp only [e1, Bool.false_eq_true, if_false, pure_bind]
      exact closure_loop r _ fun p hp => h p (List.mem_cons_of_mem _ hp)
theorem closure_eq {scope : Scope} {env : Env} (h : ∀ p ∈ scope.names, p.2 = .free → ∃ c, env.cells.lookup p.1 = some c) : closureFor scope env = pure (clOf scope env) := by
  have e := closure_loop (env := env) scope.names [] h
  unfold closureFor clOf
  simp only [pure_bind, bind_pure]
  exact e
theorem cl_fold {env : Env} {y : Str} {c : Addr} : ∀ (l : List (Str × NameKind)) (cs : List (Str × Addr)), (∀ p ∈ l, p.2 = .free → ∃ c, env.cells.lookup p.1 = some c) →
    (cs.lookup y = some c → env.cells.lookup y = some c) → (l.foldl (clStep env) cs).lookup y = some c → env.cells.lookup y = some c
  | [], cs, _, h, e => h e
  | (n, k) :: r, cs, hl, h, e => by
    rw [List.foldl_cons] at e
    refine cl_fold r _ (fun p hp => hl p (List.mem_cons_of_mem _ hp)) (fun q => ?_) e
    unfold clStep at q
    by_cases f : (k == NameKind.free) = true
    · rw [if_pos f] at q
      have fk : k = .free := by simpa using f
      obtain ⟨c', hc'⟩ := hl (n, k) List.mem_cons_self fk
      have hc'' : env.cells.lookup n = some c' := hc'
      rw [List.lookup_cons] at q
      cases hy : y == n with
      | true =>
        rw [hy] at q
        have yn : y = n := by simpa using hy
        subst yn
        simp only [hc'', Option.getD_some] at q
        rw [hc'']; exact q
      | false =>
        rw [hy] at q
        exact h q
    · rw [if_neg f] at q
      exact h q
theorem cl_has {env : Env} {y : Str} : ∀ (l : List (Str × NameKind)) (cs : List (Str × Addr)), ((y, NameKind.free) ∈ l ∨ ∃ c, cs.lookup y = some c) → ∃ c, (l.foldl (clStep env) cs).lookup y = some c
  | [], cs, h => by
    rcases h with h | h
    · cases h
    · exact h
  | (n, k) :: r, cs, h => by
    rw [List.foldl_cons]
    refine cl_has r _ ?_
    unfold clStep
    rcases h with h | ⟨c, h⟩
    · rcases List.mem_cons.mp h with e | e
      · cases e
        refine .inr ⟨(env.cells.lookup y).getD 0, ?_⟩
        rw [if_pos (beq_self_eq_true NameKind.free), List.lookup_cons]
        simp
      · exact .inl e
    · right
      by_cases f : (k == NameKind.free) = true
      · rw [if_pos f, List.lookup_cons]
        cases hy : y == n with
        | true => exact ⟨_, rfl⟩
        | false => exact ⟨c, h⟩
      · rw [if_neg f]
        exact ⟨c, h⟩
structure CompSc (outer scope : Scope) (N : List Str) (x : Str) (ys : List Str) (js : List Nat) : Prop where
  cell : ∀ y ∈ scope.names, y.2 ≠ .cell
  kind : scope.kind = .function
  names : ∀ y ∈ scope.names, y.2 = .local → scope.names.lookup y.1 = some .local
  xl : scope.names.lookup x = some .local
  free : ∀ y ∈ scope.names, y.2 = .free → (outer.names.lookup y.1 = some .cell ∨ outer.names.lookup y.1 = some .free)
  caps : ∀ p ∈ ys.zip js, N[p.2]? = some p.1 ∧ scope.names.lookup p.1 = some .free
  len : ys.length = js.length
  nd : (x :: ys).Nodup
theorem lookup_relabel_free {env : Env} : ∀ {names : List (Str × NameKind)} {x : Str}, names.lookup x = some .free →
    (names.map fun (n, k) => if (k == NameKind.free && env.scope.kind == .function && env.kindOf n == some .cell) then (n, NameKind.cell) else (n, k)).lookup x = some .cell ∨
    (names.map fun (n, k) => if (k == NameKind.free && env.scope.kind == .function && env.kindOf n == some .cell) then (n, NameKind.cell) else (n, k)).lookup x = some .free
  | [], _, h => by simp at h
  | (n, k) :: r, x, h => by
    have ih := @lookup_relabel_free env r x
    rw [List.map_cons]
    cases hx : x == n with
    | true =>
      simp only [List.lookup_cons, hx] at h
      cases h
      by_cases hc : (NameKind.free == NameKind.free && env.scope.kind == .function && env.kindOf n == some .cell) = true
      · left
        show List.lookup x ((if (NameKind.free == NameKind.free && env.scope.kind == .function && env.kindOf n == some .cell) = true then (n, NameKind.cell) else (n, NameKind.free)) :: _) = _
        rw [if_pos hc]; simp only [List.lookup_cons, hx]
      · right
        show List.lookup x ((if (NameKind.free == NameKind.free && env.scope.kind == .function && env.kindOf n == some .cell) = true then (n, NameKind.cell) else (n, NameKind.free)) :: _) = _
        rw [if_neg hc]; simp only [List.lookup_cons, hx]
    | false =>
      simp only [List.lookup_cons, hx] at h
      have e : ∀ t, List.lookup x ((if (k == NameKind.free && env.scope.kind == .function && env.kindOf n == some .cell) = true then (n, NameKind.cell) else (n, k)) :: t) = List.lookup x t := fun t => by
        by_cases hc : (k == NameKind.free && env.scope.kind == .function && env.kindOf n == some .cell) = true
        · rw [if_pos hc]; simp only [List.lookup_cons, hx]
        · rw [if_neg hc]; simp only [List.lookup_cons, hx]
      rcases ih h with q | q
      · exact .inl ((e _).trans q)
      · exact .inr ((e _).trans q)
theorem relabel_cell {scope : Scope} {env : Env} {y : Str} (hn : ∀ z ∈ scope.names, z.2 ≠ .cell) (h : (relabel scope env).names.lookup y = some .cell ∨ (relabel scope env).names.lookup y = some .free) : (y, NameKind.free) ∈ scope.names := by
  have h' : (y, NameKind.cell) ∈ (relabel scope env).names ∨ (y, NameKind.free) ∈ (relabel scope env).names := h.imp PySem.mem_of_lookup PySem.mem_of_lookup
  rcases h' with h' | h'
  · obtain ⟨⟨n, k⟩, hp, e⟩ := List.mem_map.mp h'
    have e' : (if (k == NameKind.free && env.scope.kind == .function && env.kindOf n == some .cell) = true then (n, NameKind.cell) else (n, k)) = (y, NameKind.cell) := e
    by_cases hc : (k == NameKind.free && env.scope.kind == .function && env.kindOf n == some .cell) = true
    · rw [if_pos hc] at e'
      have hk : k = .free := by
        simp only [Bool.and_eq_true, beq_iff_eq] at hc
        exact hc.1.1
      cases e'
      rw [← hk]; exact hp
    · rw [if_neg hc] at e'
      cases e'
      exact absurd rfl (hn _ hp)
  · obtain ⟨⟨n, k⟩, hp, e⟩ := List.mem_map.mp h'
    have e' : (if (k == NameKind.free && env.scope.kind == .function && env.kindOf n == some .cell) = true then (n, NameKind.cell) else (n, k)) = (y, NameKind.free) := e
    by_cases hc : (k == NameKind.free && env.scope.kind == .function && env.kindOf n == some .cell) = true
    · rw [if_pos hc] at e'
      cases e'
    · rw [if_neg hc] at e'
      cases e'
      exact hp
def cxComp (X : Cx) (scope : Scope) (C : Addr) (N' : List Str) (s₂ : Shared) (H₂ : Hp) (fp : List Addr) : Cx :=
  { X with N := N', s₀ := s₂, H₀ := H₂, env := compEnvC scope (clOf scope X.env) C X.env, outer := X.stack, stack := X.stack, ex := fp, fn := fun _ => false, calm := true, pn := [], xe := fun _ _ => False }
def innerO (js : List Nat) (σ : St) (o : Option V) : St := o :: js.map fun j => (σ[j]?).join
def PCs (X : Cx) (ifs : List Expr) (t : TT) : Prop :=
  ∀ (pins : List (Addr × Obj)) (s : Shared) (σ : St) (H : Hp) (Q : Bool → Hp → Prop), Inv X pins σ H s → t σ H Q →
    wpAny (model X.prog X.w) X.A (forIn ifs true fun c r => if r = true then do let ok ← isTrue c X.env (eval c X.env); pure (ForInStep.yield ok) else pure (ForInStep.yield r)) (TP X pins σ Q) X.xe s
def tYes : TT := fun _ H Q => Q true H
theorem yes_of {σ : St} {H : Hp} {Q : Bool → Hp → Prop} (h : Q true H) : tYes σ H Q := h
theorem pcs_nil {X : Cx} : PCs X [] tYes := fun _ _ _ H _ I h => wpAny_tests_nil ⟨H, I, h⟩
theorem pcs_one {X : Cx} {c : Expr} {t : TT} (h : PT X c t) : PCs X [c] t := fun pins s σ H Q I hw => wpAny_tests_one (h pins s σ H Q I hw)
theorem HOk.track {P : Program} {w : World} {H : Hp} {h : Heap} {a : Addr} {o : HO} (x : HOk P w H h) (hn : H a = none) (new : ObjOk P w (upd H a o) h a o) : HOk P w (upd H a o) h := fun b u e => by
  by_cases hb : b = a
  · subst hb; rw [upd_same] at e; cases e; exact new
  · rw [upd_ne hb] at e
    exact (x b u e).stay (fun c v _ q => q) (fun c q => by rw [upd_ne (ne_of_none q hn)]; exact q) fun c xs q => by rw [upd_ne (ne_of_none q hn)]; exact q
theorem Un.track {fs ex : List Addr} {H H1 : Hp} {h h1 : Heap} {a : Addr} {o : HO} (u : Un fs ex H H1 h h1) (hn : H1 a = none) (hp : h.objs.size ≤ a) : Un fs ex H (upd H1 a o) h h1 where
  keep := u.keep
  slot := u.slot
  free := fun b ob q n hx => by rw [upd_ne (Nat.ne_of_lt (Nat.lt_of_lt_of_le (Heap.lt_size q) hp))]; exact u.free b ob q n hx
  there := u.there
  tups := fun b xs q => by
    have q' := u.tups b xs q
    rw [upd_ne (ne_of_none q' hn)]; exact q'
  frzs := fun b ob xs q => by
    have q' := u.frzs b ob xs q
    rw [upd_ne (ne_of_none q' hn)]; exact q'
  tbls := fun b ps q => by
    obtain ⟨m, q'⟩ := u.tbls b ps q
    exact ⟨m, by rw [upd_ne (ne_of_none q' hn)]; exact q'⟩
section
variable {X : Cx} {pins : List (Addr × Obj)} {σ : St} {H : Hp} {s : Shared}
theorem comp_ok {scope : Scope} {C : Addr} {x : Str} {ys : List Str} {js : List Nat} {fp : List Addr} (I : Inv X pins σ H s) (S : CompSc X.env.scope scope X.N x ys js) (hc : X.calm = true) (hC : s.heap.objs.size ≤ C)
    (hf : ∀ b ∈ fp, FpOk X pins H b) (hl : ∀ b ∈ fp, b < s.heap.objs.size) : (cxComp X scope C (x :: ys) s H fp).Ok := by
  have hfree : ∀ p ∈ scope.names, p.2 = .free → ∃ c, X.env.cells.lookup p.1 = some c := fun p hp e => I.ok.has p.1 (S.free p hp e)
  have hcl : ∀ y c, (clOf scope X.env).lookup y = some c → X.env.cells.lookup y = some c := fun y c e => cl_fold scope.names [] hfree (fun z => by simp at z) e
  refine ⟨I.ok.mod, S.kind, I.ok.glob, I.ok.blt, hC, fun y z c h1 h2 => I.ok.inj y z c (hcl y c h1) (hcl z c h2), fun y hy => ?_, fun y c h _ => ?_, fun _ => I.ok.hd hc, I.ok.frames, .inl rfl, fun b hb => ?_, I.bs, Nat.le_trans I.ok.bsz I.sz, fun b o e hb => ?_, fun b hb hfs => ?_, I.stack, I.stkFree⟩
  · exact cl_has scope.names [] (.inl (relabel_cell S.cell hy))
  · exact absurd (show false = true from h) (by decide)
  · refine ⟨Nat.ne_of_lt (Nat.lt_of_lt_of_le (hl b hb) hC), fun y c e => ?_⟩
    exact (hf b hb).2.2.2.2.1 y c (hcl y c e)
  · rcases (hf b hb).2.2.2.1 with z | z
    · exact I.ok.noex b o e z
    · exact absurd (Nat.lt_of_lt_of_le (Heap.lt_size (I.ok.bs b o e).1) z) (Nat.lt_irrefl _)
  · rcases List.mem_cons.mp (I.stkSub b hfs) with e | e
    · exact (hf b hb).2.1 e
    · exact (hf b hb).2.2.1 e
theorem join_get {js : List Nat} {σ : St} {i : Nat} {v : V} (e : (js.map fun j => (σ[j]?).join)[i]? = some (some v)) : ∃ j, js[i]? = some j ∧ σ[j]? = some (some v) := by
  rw [List.getElem?_map] at e
  cases h : js[i]? with
  | none => rw [h] at e; cases e
  | some j =>
    rw [h] at e
    have e' : (σ[j]?).join = some v := Option.some.inj e
    refine ⟨j, rfl, ?_⟩
    cases h2 : σ[j]? with
    | none => rw [h2] at e'; cases e'
    | some o => rw [h2] at e'; cases o with
      | none => cases e'
      | some u => rw [show u = v from Option.some.inj e']
theorem comp_start {scope : Scope} {C : Addr} {x : Str} {ys : List Str} {js : List Nat} {fp : List Addr} {h₁ : Heap} {tk : Nat} {m : Str → Option Value} (I : Inv X pins σ H s) (S : CompSc X.env.scope scope X.N x ys js) (hc : X.calm = true) (hC : s.heap.objs.size ≤ C)
    (hf : ∀ b ∈ fp, FpOk X pins H b) (hl : ∀ b ∈ fp, b < s.heap.objs.size) (old : ∀ b o, s.heap.get? b = some o → h₁.get? b = some o) (hns : h₁.Ns C m) :
    Inv (cxComp X scope C (x :: ys) s H fp) [] (innerO js σ none) H { s with heap := h₁, toks := tk } := by
  have hfree : ∀ p ∈ scope.names, p.2 = .free → ∃ c, X.env.cells.lookup p.1 = some c := fun p hp e => I.ok.has p.1 (S.free p hp e)
  have hcl : ∀ y c, (clOf scope X.env).lookup y = some c → X.env.cells.lookup y = some c := fun y c e => cl_fold scope.names [] hfree (fun z => by simp at z) e
  refine ⟨comp_ok I S hc hC hf hl, rfl, I.bare, Un.kept old, ⟨m, hns, fun i y v h1 h2 h3 => ?_⟩, fun y c e => ?_, I.hok.fresh hC, fun y c e => I.freeC y c (hcl y c e), fun p hp => absurd (show p ∈ ([] : List (Addr × Obj)) from hp) (by simp), I.hok.kept old, ?_⟩
  · cases i with
    | zero => exact absurd (show some (none : Option V) = some (some v) from h2) (by simp)
    | succ i =>
      have h2' : (js.map fun j => (σ[j]?).join)[i]? = some (some v) := h2
      have h1' : ys[i]? = some y := h1
      obtain ⟨j, hj, hv⟩ := join_get h2'
      have hz : (y, j) ∈ ys.zip js := by
        refine List.mem_iff_getElem?.mpr ⟨i, ?_⟩
        rw [List.getElem?_zip_eq_some]
        exact ⟨h1', hj⟩
      obtain ⟨hN, hfr⟩ := S.caps (y, j) hz
      have hk : X.env.kindOf y = some .cell ∨ X.env.kindOf y = some .free := S.free (y, .free) (PySem.mem_of_lookup hfr) rfl
      obtain ⟨m0, _, hl0⟩ := I.loc
      obtain ⟨u, r, l⟩ := hl0 j y v hN hv (.inr hk)
      refine ⟨u, r, .inr ⟨lookup_relabel_free hfr, ?_⟩⟩
      rcases l with ⟨k, _⟩ | ⟨_, c, ec, z⟩
      · rcases hk with z | z
        · rw [z] at k; cases k
        · rw [z] at k; cases k
      · obtain ⟨c', hc'⟩ := cl_has (env := X.env) (y := y) scope.names [] (.inl (PySem.mem_of_lookup hfr))
        have ec' := hcl y c' hc'
        rw [ec] at ec'; cases ec'
        obtain ⟨o, ho, hd⟩ := z
        exact ⟨c, hc', o, old c o ho, hd⟩
  · obtain ⟨v, o, ho, hd⟩ := I.cell y c (hcl y c e)
    exact ⟨v, o, old c o ho, hd⟩
  · show (js.map _).length + 1 = ys.length + 1
    rw [List.length_map, S.len]
theorem comp_end {scope : Scope} {C D : Addr} {N' : List Str} {fp : List Addr} {pins' : List (Addr × Obj)} {σ' : St} {H' : Hp} {s' : Shared} {xs : List V} {its : List Value} {n : Nat} (I : Inv X pins σ H s) (hf : ∀ b ∈ fp, FpOk X pins H b)
    (J : Inv (cxComp X scope C N' s H fp) pins' σ' H' s') (hD : s.heap.objs.size ≤ D) (hn : H' D = none) (e : s'.heap.get? D = some { cls := .type "list", data := .seq its.toArray n }) (r : Vals xs its) (z : xs.length ≤ sizeLine) :
    Inv X pins σ (upd H' D (.lst xs)) s' := by
  refine I.call' (ch := fp) J.os (Un.track J.base hn hD) (HOk.track J.hok hn ⟨z, its, n, r, e⟩) J.bare fun b hb => ?_
  obtain ⟨_, f1, _, f3, f4, f5⟩ := hf b hb
  exact ⟨f3, f1, f4, f5⟩
end
section
variable {prog : Program} {w : World} {A : Around} {R : Result → Shared → Prop} {s : Shared}
theorem codeAny_compLoop_go {elt target iter : Expr} {ifs : List Expr} {scope : Scope} {pos : Pos} {it acc : Value} {env : Env} (I : Nat → Shared → Prop)
    (turn : ∀ n s, I n s → wpAny (model prog w) A (pyNext it) (fun r s₁ => match r with
      | none => R (.ok .next) s₁
      | some v => wpAny (model prog w) A (letOwnedTupleGo target it v) (fun _ s₁ => wpAny (model prog w) A (assign target env v) (fun _ s₂ =>
          wpAny (model prog w) A (forIn ifs true fun c r => if r = true then do let ok ← isTrue c env (eval c env); pure (ForInStep.yield ok) else pure (ForInStep.yield r)) (fun ok s₃ =>
            if ok = true then wpAny (model prog w) A (eval elt env) (fun x s₄ =>
              wpAny (model prog w) A (call (.builtin "list.append") [acc, x]) (fun _ s₅ => ∃ m, m < n ∧ I m s₅) (fun _ _ => False) s₄) (fun _ _ => False) s₃
            else ∃ m, m < n ∧ I m s₃) (fun _ _ => False) s₂) (fun _ _ => False) s₁) (fun _ _ => False) s₁) (fun _ _ => False) s)
    (n : Nat) (h : I n s) :
    codeAny (model prog w) A (.compLoop (.ListComp elt [⟨target, iter, ifs, 0⟩] scope pos) 0 it acc env) R s := by
  refine codeAny_loop rfl I (fun n s hI => ?_) n h
  show wpAny _ A ((compTurn (.ListComp elt [⟨target, iter, ifs, 0⟩] scope pos) 0 it acc env).onRaise (fun x => do noteFrame x env; theTreesLotGoes x)) _ _ s
  refine wpAny_noted ?_
  rw [compTurn_list]
  have F : ∀ {P : Value → Shared → Prop} (a : Value) (s : Shared), False → P a s := fun _ _ z => z.elim
  refine wpAny_bind (wpAny_standAt (wpAny_bind (wpAny_mono (turn n s hI) (fun r s₁ h₁ => ?_) F)))
  cases r with
  | none => exact wpAny_pure h₁
  | some v =>
    refine wpAny_bind (wpAny_mono h₁ (fun _ s₁' h₁' => ?_) F)
    refine wpAny_bind (wpAny_mono h₁' (fun _ s₂ h₂ => wpAny_bind (wpAny_mono h₂ (fun ok s₃ h₃ => ?_) F)) F)
    cases ok with
    | false => exact wpAny_pure ⟨rfl, h₃⟩
    | true =>
      simp only [if_true] at h₃ ⊢
      exact wpAny_bind (wpAny_bind (wpAny_mono h₃ (fun x s₄ h₄ => wpAny_bind (wpAny_mono h₄ (fun _ s₅ h₅ => wpAny_pure (wpAny_pure ⟨rfl, h₅⟩)) F)) F))
end
def LCw (js : List Nat) (σ : St) (tc : TT) (te : TE) (Q : VK) (J : It) (H1 : Hp) : Prop := ∃ W : Nat → Nat → List V → Hp → Prop, (∃ m, W 0 m [] H1) ∧ ∀ i m ys H, W i m ys H →
  (J.stop i H ∧ ys.length ≤ sizeLine ∧ ∀ p, H p = none → Q (.ref p) (upd H p (.lst ys))) ∨
  (J.go i H ∧ ys.length < sizeLine ∧ ∃ N : List V → Hp → Prop, (∀ ys' H', N ys' H' → ∃ m', m' < m ∧ W (i + 1) m' ys' H') ∧
    ∀ x H', J.yld i H x H' → tc (innerO js σ (some x)) H' fun b H2 => if b = true then te (innerO js σ (some x)) H2 fun y H3 => N (ys ++ [y]) H3 else N ys H2)
def tLC (js : List Nat) (wi : TI) (tc : TT) (te : TE) : TE := fun σ H Q => wi σ H (LCw js σ tc te Q)
section
variable {X : Cx} {elt iter : Expr} {x : Str} {px pos : Pos} {ifs : List Expr} {scope : Scope} {ys : List Str} {js : List Nat} {wi : TI} {tc : TT} {te : TE}
theorem comp_block {pins : List (Addr × Obj)} {σ : St} {H : Hp} {s : Shared} {it : Addr} {fp : List Addr} {tn : Nat → Heap → Prop} {J : It} {E : Value → Shared → Prop} {Q : VK} {RR : Value → Addr → Result → Shared → Prop}
    (S : CompSc X.env.scope scope X.N x ys js) (hc : X.calm = true) (hcs : ∀ C s H fp, PCs (cxComp X scope C (x :: ys) s H fp) ifs tc) (he : ∀ C s H fp, PE (cxComp X scope C (x :: ys) s H fp) elt te)
    (I : Inv X pins σ H s) (T : Turn X.prog X.w X.K (.Name x px) J fp it tn) (st : tn 0 s.heap) (hf : ∀ b ∈ fp, FpOk X pins H b)
    (hW : LCw js σ tc te Q J H)
    (hRR : ∀ (D C : Addr) (H' : Hp) (m : Str → Option Value) (s' : Shared), s.heap.objs.size ≤ C → H' C = none → Inv X pins σ H' s' → s'.heap.Ns C m → Q (.ref D) H' → RR (.ref D) C (.ok .next) s') :
    wpAny (model X.prog X.w) X.A (newList []) (fun acc s₃ => wpAny (model X.prog X.w) X.A (newFunctionEnv scope X.env.globals (clOf scope X.env) [] X.env.qual none .none (some X.env)) (fun cenv s₄ =>
      codeAny (model X.prog X.w) X.A (.compStart (.ListComp elt [⟨.Name x px, iter, ifs, 0⟩] scope pos) 0 (.ref it) acc { cenv with scope := relabel scope X.env }) (RR acc cenv.locals) s₄) E s₃) E s := by
  obtain ⟨W, ⟨m0, w0⟩, turn⟩ := hW
  have hl : ∀ b ∈ fp, b < s.heap.objs.size := fun b hb => let ⟨o, e, _⟩ := T.obj 0 _ st b hb; Heap.lt_size e
  refine wpAny_newObj_type (wpAny_newFunctionEnv S.cell (by intro y hy; simp at hy) (fun h₁ hns₁ hsb₁ => ?_) S.kind)
  dsimp only at hns₁ hsb₁ ⊢
  generalize hH2 : s.heap.push { cls := .type "list", dict := none, data := .seq ([] : List Value).toArray } = H2 at hns₁ hsb₁ ⊢
  have hC : H2.objs.size = s.heap.objs.size + 1 := by rw [← hH2, Heap.size_push]
  have hDC : s.heap.objs.size ≠ H2.objs.size := by rw [hC]; exact Nat.ne_of_lt (Nat.lt_succ_self _)
  have hCle : s.heap.objs.size ≤ H2.objs.size := by rw [hC]; exact Nat.le_succ _
  have old : ∀ b o, s.heap.get? b = some o → h₁.get? b = some o := fun b o e => hsb₁.extBut b o (by rw [hC]; exact Nat.ne_of_lt (Nat.lt_succ_of_lt (Heap.lt_size e))) (Heap.get?_push_of_some _ (hH2 ▸ Heap.get?_push_of_some _ e))
  have hacc : h₁.get? s.heap.objs.size = some { cls := .type "list", data := .seq ([] : List Value).toArray 0 } := hsb₁.extBut _ _ hDC (Heap.get?_push_of_some _ (hH2 ▸ Heap.get?_push_size _ rfl))
  have hDn : H s.heap.objs.size = none := I.hok.fresh (Nat.le_refl _)
  have J0 : Inv (cxComp X scope H2.objs.size (x :: ys) s H fp) [] (innerO js σ none) H { s with heap := h₁, toks := s.toks + ([] : List (Str × Value)).length } := comp_start I S hc hCle hf hl old hns₁
  have hDfs : s.heap.objs.size ∉ (cxComp X scope H2.objs.size (x :: ys) s H fp).fs := fun hb => by
    rcases List.mem_cons.mp (I.stkSub _ hb) with e | e
    · exact absurd I.lt (by rw [← e]; exact Nat.lt_irrefl _)
    · exact I.nofs (Nat.le_refl _) e
  have st1 : tn 0 h₁ := T.keep _ _ _ st fun b _ o e => old b o e
  -- the list's object as a pin
  let lob : List Value → Nat → Obj := fun its n => { cls := .type "list", data := .seq its.toArray n }
  have pinD : ∀ {σ' : St} {H' : Hp} {s' : Shared} {its : List Value} {n : Nat}, Inv (cxComp X scope H2.objs.size (x :: ys) s H fp) [] σ' H' s' → s'.heap.get? s.heap.objs.size = some (lob its n) → H' s.heap.objs.size = none →
      Inv (cxComp X scope H2.objs.size (x :: ys) s H fp) [(s.heap.objs.size, lob its n)] σ' H' s' := fun {σ' H' s' its n} K e hn => K.pins_of fun p hp => by
    have ep : p = (s.heap.objs.size, lob its n) := by simpa using hp
    subst ep
    exact ⟨e, hn, hDC, hDfs, fun v z => by cases z⟩
  have fpok : ∀ {H' : Hp} {pn : List (Addr × Obj)}, (∀ b ∈ fp, H' b = none) → (∀ p ∈ pn, p.1 = s.heap.objs.size) → ∀ b ∈ fp, FpOk (cxComp X scope H2.objs.size (x :: ys) s H fp) pn H' b := fun {H' pn} hn hp b hb => by
    refine ⟨hn b hb, Nat.ne_of_lt (Nat.lt_of_lt_of_le (hl b hb) hCle), (comp_ok I S hc hCle hf hl).exfs b hb, .inl hb, (comp_ok I S hc hCle hf hl).exf b hb |>.2, fun p hpp z => ?_⟩
    have := hp p hpp
    rw [this] at z
    exact absurd (hl b hb) (by rw [← z]; exact Nat.lt_irrefl _)
  have loop : ∀ s₃ : Shared, s₃ = { s with heap := h₁, toks := s.toks + ([] : List (Str × Value)).length } →
      codeAny (model X.prog X.w) X.A (.compLoop (.ListComp elt [⟨.Name x px, iter, ifs, 0⟩] scope pos) 0 (.ref it) (.ref s.heap.objs.size) (compEnvC scope (clOf scope X.env) H2.objs.size X.env)) (RR (.ref s.heap.objs.size) H2.objs.size) s₃ := by
    rintro s₃ rfl
    refine codeAny_compLoop_go (fun n s' => ∃ i o H' zs its k, Inv (cxComp X scope H2.objs.size (x :: ys) s H fp) [(s.heap.objs.size, lob its k)] (innerO js σ o) H' s' ∧ tn i s'.heap ∧ (∀ b ∈ fp, H' b = none) ∧ Vals zs its ∧ W i n zs H') ?_ m0
      ⟨0, none, H, [], [], 0, pinD J0 hacc hDn, st1, fun b hb => (hf b hb).1, .nil, w0⟩
    rintro n s3 ⟨i, o, H3, zs, its, k, I3, st3, fr3, rz, w3⟩
    have onlyD : ∀ p ∈ [(s.heap.objs.size, lob its k)], p.1 = s.heap.objs.size := fun p hp => by
      have ep : p = (s.heap.objs.size, lob its k) := by simpa using hp
      rw [ep]
    rcases turn i n zs H3 w3 with ⟨stop, hz, qn⟩ | ⟨go, hz, N, hN, step⟩
    · refine thn (T.done (cxComp X scope H2.objs.size (x :: ys) s H fp) rfl rfl rfl rfl i _ s3 _ H3 (fun _ _ => False) I3 (fpok fr3 onlyD) st3 stop) fun r s4 ⟨hr, I4⟩ => ?_
      subst hr
      obtain ⟨e4, n4, _⟩ := I4.pin (s.heap.objs.size, lob its k) (List.mem_append_right _ (by simp))
      obtain ⟨m4, hm4, _⟩ := I4.loc
      exact hRR _ _ _ _ s4 hCle (by rw [upd_ne (Ne.symm hDC)]; exact I4.free) (comp_end I hf I4 (Nat.le_refl _) n4 e4 rz hz) hm4 (qn _ n4)
    · refine thn (T.item (cxComp X scope H2.objs.size (x :: ys) s H fp) rfl rfl rfl rfl i _ s3 _ H3 (fun _ _ => False) I3 (fpok fr3 onlyD) st3 go) fun r s4 ⟨u, hr, h4⟩ => ?_
      subst hr
      refine thn h4 fun _ s5 ⟨v, H5, I5, r5, y5, st5, fr5⟩ => ?_
      have I5' := I5.pinned (fpok fr5 onlyD) (T.obj _ _ st5)
      have hx : Loc (cxComp X scope H2.objs.size (x :: ys) s H fp).env.scope x := .inl (lookup_relabel_local S.xl)
      refine thn (pg_name (i := 0) (X := cxComp X scope H2.objs.size (x :: ys) s H fp) S.nd rfl hx (.inr (lookup_relabel_local S.xl)) _ s5 _ H5 v u (fun σ6 H6 => σ6 = innerO js σ (some v) ∧ H6 = H5) I5' r5 ⟨rfl, rfl⟩) fun _ s6 ⟨σ6, H6, I6, e6, eH6⟩ => ?_
      subst e6 eH6
      refine thn (hcs _ _ _ _ _ s6 _ _ _ I6 (step v _ y5)) fun ok s7 ⟨H7, I7, q7⟩ => ?_
      have keepD : ∀ {σ' : St} {H' : Hp} {s' : Shared}, Inv (cxComp X scope H2.objs.size (x :: ys) s H fp) ([(s.heap.objs.size, lob its k)] ++ pinsAt fp s5.heap) σ' H' s' →
          (s'.heap.get? s.heap.objs.size = some (lob its k) ∧ H' s.heap.objs.size = none) ∧ tn (i + 1) s'.heap ∧ ∀ b ∈ fp, H' b = none := fun {σ' H' s'} K => by
        obtain ⟨e1, n1, _⟩ := K.pin (s.heap.objs.size, lob its k) (List.mem_append_right _ (by simp))
        refine ⟨⟨e1, n1⟩, T.keep _ _ _ st5 fun b hb o e => (K.pin (b, o) (List.mem_append_right _ (List.mem_append_right _ (mem_pinsAt hb e)))).1, fun b hb => ?_⟩
        obtain ⟨o, e, d⟩ := T.obj _ _ st5 b hb
        exact (K.pin (b, o) (List.mem_append_right _ (List.mem_append_right _ (mem_pinsAt hb e)))).2.1
      cases ok with
      | false =>
        obtain ⟨m', hm, w7⟩ := hN _ _ (show N zs H7 from q7)
        obtain ⟨⟨e1, n1⟩, tn7, fr7⟩ := keepD I7
        exact ⟨m', hm, i + 1, some v, H7, zs, its, k, I7.unpinned, tn7, fr7, rz, w7⟩
      | true =>
        simp only [if_true] at q7 ⊢
        refine thn (he _ _ _ _ _ s7 _ H7 _ I7 q7) fun y s8 ⟨yv, H8, I8, r8, q8⟩ => ?_
        obtain ⟨⟨e8, n8⟩, tn8, fr8⟩ := keepD I8
        refine wpAny_list_append_plain (items := its.toArray) ⟨k, e8⟩ (fun h9 hpl hsb => ?_) (by have := rz.length; simp only [List.size_toArray]; omega)
        obtain ⟨k9, e9⟩ := hpl
        have e9' : h9.get? s.heap.objs.size = some (lob (its ++ [y]) k9) := by rw [e9]; simp [lob]
        have I8' : Inv (cxComp X scope H2.objs.size (x :: ys) s H fp) [] (innerO js σ (some v)) H8 s8 := I8.pins_of fun p hp => absurd hp (by simp)
        have I9 : Inv (cxComp X scope H2.objs.size (x :: ys) s H fp) [] (innerO js σ (some v)) H8 { s8 with heap := h9 } :=
          I8'.turned (t' := s8.toks) (it := s.heap.objs.size) (fun b o hb e => hsb.extBut b o hb e) n8 hDC (.inr (Nat.le_refl _)) (fun y c e z => by
            have := I8'.freeC y c e
            obtain ⟨v', ob, ho, hd⟩ := I8'.cell y c e
            rw [z, e8] at ho
            cases ho
            cases hd) (fun p hp => absurd (show p ∈ ([] : List (Addr × Obj)) from hp) (by simp))
        obtain ⟨m', hm, w9⟩ := hN _ _ q8
        refine ⟨m', hm, i + 1, some v, H8, zs ++ [yv], its ++ [y], k9, pinD I9 e9' n8, ?_, fr8, rz.append (.cons r8 .nil), w9⟩
        exact T.keep _ _ _ tn8 fun b hb o e => hsb.extBut b o (Nat.ne_of_lt (hl b hb)) e
  exact codeAny_compStart_list (loop _ rfl) (T.self _ 0 _ _ _ st1 (loop _ rfl))
theorem pe_lc (S : CompSc X.env.scope scope X.N x ys js) (hc : X.calm = true) (hi : PI X (.Name x px) iter wi) (hcs : ∀ C s H fp, PCs (cxComp X scope C (x :: ys) s H fp) ifs tc) (he : ∀ C s H fp, PE (cxComp X scope C (x :: ys) s H fp) elt te)
    (hs : ∀ x, foldedSetIterable iter X.env x = pure x := by intro _; rfl) : PE X (.ListComp elt [⟨.Name x px, iter, ifs, 0⟩] scope pos) (tLC js wi tc te) := by
  intro pins s σ H Q I h
  have hclos : closureFor scope X.env = pure (clOf scope X.env) := closure_eq fun p hp e => I.ok.has p.1 (S.free p hp e)
  rw [eval_ListComp]
  refine wpAny_comprehension_free (use := none) rfl hs hclos S.kind S.names (thn (hi pins s σ H _ I h) fun xv s₁ h₁ => thn h₁ fun itv s₂ h₂ => ?_)
  obtain ⟨it, fp, tn, J, H2, e, I2, T, st2, f2, hW⟩ := h₂
  subst e
  refine comp_block (RR := fun acc C => compPost (model X.prog X.w) X.A X.xe none (EP X pins σ Q) acc C) S hc hcs he I2 T st2 f2 hW ?_
  intro D C H' m s' hC hCn I' hm q
  refine ⟨m, hm, fun h' hsb => ⟨.ref D, H', ?_, rfl, q⟩⟩
  exact I'.turned (t' := s'.toks) (it := C) (fun b o hb e => hsb.extBut b o hb e) hCn (Nat.ne_of_gt (Nat.lt_of_lt_of_le I2.lt hC)) (.inr (Nat.le_trans I2.sz hC)) (fun y c e z => by
    obtain ⟨v', q'⟩ := I2.cell y c e
    exact absurd (Nat.lt_of_lt_of_le q'.lt (by rw [z]; exact hC)) (Nat.lt_irrefl _)) (fun p hp z => absurd (Nat.lt_of_lt_of_le (Heap.lt_size (I2.pin p hp).1) (by rw [z]; exact hC)) (Nat.lt_irrefl _))
theorem ps_setlc {i : Nat} {y : Str} {py spos : Pos} (hN : X.N.Nodup) (hiy : X.N[i]? = some y) (hy : Loc X.env.scope y) (S : CompSc X.env.scope scope X.N x ys js) (hc : X.calm = true) (hi : PI X (.Name x px) iter wi) (hcs : ∀ C s H fp, PCs (cxComp X scope C (x :: ys) s H fp) ifs tc)
    (he : ∀ C s H fp, PE (cxComp X scope C (x :: ys) s H fp) elt te) (hsw : swapsWith (.ListComp elt [⟨.Name x px, iter, ifs, 0⟩] scope pos) (some (.Name y py)) spos.line X.env = pure true := by rfl)
    (hf : X.fn y = true ∨ X.env.scope.names.lookup y = some .local := by first | exact .inl rfl | exact .inr rfl | assumption) (hs : ∀ x, foldedSetIterable iter X.env x = pure x := by intro _; rfl) :
    PS X (.Assign [.Name y py] (.ListComp elt [⟨.Name x px, iter, ifs, 0⟩] scope pos) spos) (tAsg (tLC js wi tc te) (gName i)) := by
  intro pins s σ H D I h
  have hclos : closureFor scope X.env = pure (clOf scope X.env) := closure_eq fun p hp e => I.ok.has p.1 (S.free p hp e)
  rw [exec_Assign_Name_used _ _ _ _ hsw]
  refine wpAny_bind (wpAny_standAt (wpAny_bind ?_))
  show wpAny _ X.A (do let _ ← comprehension (.ListComp elt [⟨.Name x px, iter, ifs, 0⟩] scope pos) scope X.env _ (newList []) false (eval iter X.env) (some (assign (.Name y py) X.env))) _ _ s
  refine wpAny_bind (wpAny_mono (wpAny_comprehension_free (use := some (assign (.Name y py) X.env)) (Q := fun _ s' => SP X pins D .next s') rfl hs hclos S.kind S.names
    (thn (hi pins s σ H _ I h) fun xv s₁ h₁ => thn h₁ fun itv s₂ h₂ => ?_)) (fun _ s' hq => wpAny_pure (wpAny_pure hq)) fun _ _ e => e)
  obtain ⟨it, fp, tn, J, H2, e, I2, T, st2, f2, hW⟩ := h₂
  subst e
  refine comp_block (Q := fun v H' => gName i v σ H' D.nx) (RR := fun acc C => compPost (model X.prog X.w) X.A X.xe (some (assign (.Name y py) X.env)) (fun _ s' => SP X pins D .next s') acc C) S hc hcs he I2 T st2 f2 hW ?_
  intro Da C H' m s' hC hCn I' hm q
  have neC : ∀ z c, X.env.cells.lookup z = some c → c ≠ C := fun z c e w => by
    obtain ⟨v', q'⟩ := I2.cell z c e
    exact absurd (Nat.lt_of_lt_of_le q'.lt (by rw [w]; exact hC)) (Nat.lt_irrefl _)
  have neL : C ≠ X.env.locals := Nat.ne_of_gt (Nat.lt_of_lt_of_le I2.lt hC)
  show wpAny _ X.A (assign (.Name y py) X.env (.ref Da)) _ _ _
  refine wpAny_assign_Name (store_ok2 (v := .ref Da) I' hN hiy hy rfl (fun s'' I'' hch => ?_) hf)
  obtain ⟨a, hsa, ha⟩ := hch
  have aC : C ≠ a := by
    rcases ha with e | e
    · rw [e]; exact neL
    · exact fun w => neC _ _ e w.symm
  refine ⟨m, hm.sameBut hsa aC, fun h' hsb => ?_⟩
  refine ⟨_, H', I''.turned (t' := s''.toks) (it := C) (fun b o hb e => hsb.extBut b o hb e) hCn neL (.inr (Nat.le_trans I2.sz hC)) neC (fun p hp z => absurd (Nat.lt_of_lt_of_le (Heap.lt_size (I2.pin p hp).1) (by rw [z]; exact hC)) (Nat.lt_irrefl _)), q⟩
end
theorem lc_list {K : PySem.W.Frag} {a : Addr} {xs : List V} {js : List Nat} {tc : TT} {te : TE} {σ : St} {H : Hp} {Q : VK} (Pv : Nat → List V → Hp → Prop) (h0 : Pv 0 [] H) (hl : ∀ i ys H, i ≤ xs.length → Pv i ys H → SqL K H a xs ∧ ys.length ≤ i) (hz : xs.length ≤ sizeLine)
    (hs : ∀ i x ys H, xs[i]? = some x → Pv i ys H → tc (innerO js σ (some x)) H fun b H2 => if b = true then te (innerO js σ (some x)) H2 fun y H3 => Pv (i + 1) (ys ++ [y]) H3 else Pv (i + 1) ys H2)
    (hd : ∀ ys H, Pv xs.length ys H → ∀ p, H p = none → Q (.ref p) (upd H p (.lst ys))) :
    LCw js σ tc te Q (Itl K a) H := by
  refine ⟨fun i m ys H => m = xs.length - i ∧ i ≤ xs.length ∧ Pv i ys H, ⟨xs.length, by simp, Nat.zero_le _, h0⟩, ?_⟩
  rintro i m ys H ⟨rfl, hi, p⟩
  obtain ⟨q, hy⟩ := hl i ys H hi p
  by_cases hlt : i < xs.length
  · refine .inr ⟨⟨xs, xs[i], q, by simp [hlt]⟩, by omega, Pv (i + 1), fun ys' H' p' => ⟨xs.length - (i + 1), by omega, rfl, hlt, p'⟩, fun x H' y => ?_⟩
    obtain ⟨e, y⟩ := y
    subst e
    exact hs i x ys _ (y xs q) p
  · have e : i = xs.length := by omega
    subst e
    exact .inl ⟨⟨xs, q, Nat.le_refl _⟩, by omega, hd ys H p⟩
theorem lc_tup {K : PySem.W.Frag} {a : Addr} {xs : List V} {js : List Nat} {tc : TT} {te : TE} {σ : St} {H : Hp} {Q : VK} (Pv : Nat → List V → Hp → Prop) (h0 : Pv 0 [] H) (hl : ∀ i ys H, i ≤ xs.length → Pv i ys H → SqT K H a xs ∧ ys.length ≤ i) (hz : xs.length ≤ sizeLine)
    (hs : ∀ i x ys H, xs[i]? = some x → Pv i ys H → tc (innerO js σ (some x)) H fun b H2 => if b = true then te (innerO js σ (some x)) H2 fun y H3 => Pv (i + 1) (ys ++ [y]) H3 else Pv (i + 1) ys H2)
    (hd : ∀ ys H, Pv xs.length ys H → ∀ p, H p = none → Q (.ref p) (upd H p (.lst ys))) :
    LCw js σ tc te Q (Itt K a) H := by
  refine ⟨fun i m ys H => m = xs.length - i ∧ i ≤ xs.length ∧ Pv i ys H, ⟨xs.length, by simp, Nat.zero_le _, h0⟩, ?_⟩
  rintro i m ys H ⟨rfl, hi, p⟩
  obtain ⟨q, hy⟩ := hl i ys H hi p
  by_cases hlt : i < xs.length
  · refine .inr ⟨⟨xs, xs[i], q, by simp [hlt]⟩, by omega, Pv (i + 1), fun ys' H' p' => ⟨xs.length - (i + 1), by omega, rfl, hlt, p'⟩, fun x H' y => ?_⟩
    obtain ⟨e, y⟩ := y
    subst e
    exact hs i x ys _ (y xs q) p
  · have e : i = xs.length := by omega
    subst e
    exact .inl ⟨⟨xs, q, Nat.le_refl _⟩, by omega, hd ys H p⟩
end L2
namespace L2
open PySem PySem.Spec PyProof.Rows
section
variable {X : Cx}
theorem bt_len : bootBuiltins "len" = some (.builtin "len") := by decide +kernel
theorem bt_int : bootBuiltins "int" = some (.type "int") := by decide +kernel
theorem bt_bool : bootBuiltins "bool" = some (.type "bool") := by decide +kernel
theorem bt_list : bootBuiltins "list" = some (.type "list") := by decide +kernel
theorem bt_tuple : bootBuiltins "tuple" = some (.type "tuple") := by decide +kernel
theorem bt_set : bootBuiltins "set" = some (.type "set") := by decide +kernel
theorem bt_isinstance : bootBuiltins "isinstance" = some (.builtin "isinstance") := by decide +kernel
theorem bt_max : bootBuiltins "max" = some (.builtin "max") := by decide +kernel
theorem bt_sorted : bootBuiltins "sorted" = some (.builtin "sorted") := by decide +kernel
theorem bt_all : bootBuiltins "all" = some (.builtin "all") := by decide +kernel
def iSeq (K : PySem.W.Frag) (tl : TE) : TI := fun σ H R => tl σ H fun x H1 => ∃ a, x = .ref a ∧ (((∃ xs, SqL K H1 a xs) ∧ R (Itl K a) H1) ∨ ((∃ xs, SqT K H1 a xs) ∧ R (Itt K a) H1))
theorem pi_seq {tg l : Expr} {tl : TE} (hl : PE X l tl) : PI X tg l (iSeq X.K tl) := by
  intro pins s σ H R I h
  refine thn (hl pins s σ H _ I h) fun v s1 ⟨x, H1, I1, r1, q1⟩ => ?_
  obtain ⟨a, e, ⟨⟨xs, hq⟩, q⟩ | ⟨⟨xs, hq⟩, q⟩⟩ := q1
  · subst e
    cases r1
    obtain ⟨its, rv, p, hz⟩ := I1.list hq
    refine wpAny_pyIter_list p.isList ?_
    refine ⟨s1.heap.objs.size, [s1.heap.objs.size], _, _, H1, rfl, I1.kept (t' := s1.toks) fun b o e => Heap.get?_push_of_some _ e, turn_list a _, ⟨_, Heap.get?_push_size _ rfl, rfl, rfl⟩, fun b hb => ?_, q⟩
    have e : b = s1.heap.objs.size := by simpa using hb
    subst e
    exact I1.fpOk (Nat.le_refl _) (I1.hok.fresh (Nat.le_refl _))
  · subst e
    cases r1
    obtain ⟨its, rv, p, hz⟩ := I1.tuple hq
    refine wpAny_pyIter_tuple (show s1.heap.IsTuple a its.toArray from p) ?_
    refine ⟨s1.heap.objs.size, [s1.heap.objs.size], _, _, H1, rfl, I1.kept (t' := s1.toks) fun b o e => Heap.get?_push_of_some _ e, turn_tuple a _, ⟨_, Heap.get?_push_size _ rfl, rfl, rfl⟩, fun b hb => ?_, q⟩
    have e : b = s1.heap.objs.size := by simpa using hb
    subst e
    exact I1.fpOk (Nat.le_refl _) (I1.hok.fresh (Nat.le_refl _))
theorem ix_tupK {K : PySem.W.Frag} (h : X.K = K) : IxR X (rIxT K) := h ▸ ix_tup
theorem ix_listK {K : PySem.W.Frag} (h : X.K = K) : IxR X (rIxL K) := h ▸ ix_list
theorem all_at (bs : List Bool) (tr : Nat → Bool) (h : ∀ i b, bs[i]? = some b → tr i = b) : (List.range bs.length).all tr = bs.all id := by
  rw [Bool.eq_iff_iff, List.all_eq_true, List.all_eq_true]
  constructor
  · intro q b hb
    obtain ⟨i, hi⟩ := List.mem_iff_getElem?.mp hb
    have hl : i < bs.length := (List.getElem?_eq_some_iff.mp hi).1
    have e := q i (List.mem_range.mpr hl)
    rw [h i b hi] at e
    exact e
  · intro q i hi
    have hl := List.mem_range.mp hi
    have e : bs[i]? = some bs[i] := List.getElem?_eq_getElem hl
    rw [h i _ e]
    exact q _ (List.getElem_mem hl)
theorem call_all (hc : X.calm = true) : CallR X (.builtin "all") (fun xs H Q => ∃ (p : Addr) (bs : List Bool), xs = [.ref p] ∧ SqL X.K H p (bs.map V.bl) ∧ Q (.bl (bs.all id)) H) := by
  intro pins s σ H xs us Q I r h
  obtain ⟨p, bs, rfl, hq, q⟩ := h
  obtain ⟨u, rfl, rx⟩ := vals1 r
  cases rx
  obtain ⟨its, rv, pl, hz⟩ := I.list hq
  have hlen : bs.length = its.length := by have := rv.length; rwa [List.length_map] at this
  have hv : ∀ (i : Nat) (v : Value), its[i]? = some v → ∃ b, bs[i]? = some b ∧ v = .bool b := fun i v e => by
    have hi : i < bs.length := by rw [hlen]; exact (List.getElem?_eq_some_iff.mp e).1
    have e1 : (bs.map V.bl)[i]? = some (.bl bs[i]) := by rw [List.getElem?_map, List.getElem?_eq_getElem hi]; rfl
    obtain ⟨u, hu, ru⟩ := rv.get e1
    rw [e] at hu; cases hu
    exact ⟨bs[i], List.getElem?_eq_getElem hi, ru⟩
  have hp : p < s.heap.objs.size := let ⟨_, ho, _⟩ := pl.isList; Heap.lt_size ho
  refine call_all_walk (wpAny_pyIter_list pl.isList ?_)
  refine ⟨s.heap.objs.size, _, _, _, _, _, fun i => bs.getD i false, rfl, Walks.list (A := X.A.in1) (I.ok.hd hc) s.heap.objs.size p (Nat.ne_of_lt hp) its.toArray, ⟨⟨_, Heap.get?_push_size _ rfl, rfl, rfl⟩, pl.isList.at fun o e => Heap.get?_push_of_some _ e⟩, ?_, fun h' tk hk => ?_⟩
  · intro i v s Q E hP hQ
    have hP' : its[i]? = some v := by simpa using hP
    obtain ⟨b, hb, rfl⟩ := hv i v hP'
    have e : bs.getD i false = b := by rw [List.getD_eq_getElem?_getD, hb]; rfl
    have hQ' : Q (bs.getD i false) s := hQ
    rw [e] at hQ'
    exact wpAny_truthy_bool hQ'
  · have e : (List.range its.toArray.size).all (fun i => bs.getD i false) = bs.all id := by
      rw [List.size_toArray, ← hlen]
      exact all_at bs _ fun i b hb => by rw [List.getD_eq_getElem?_getD, hb]; rfl
    rw [e]
    refine ⟨.bl _, H, I.kept (h' := h') (t' := tk) fun b o hb => hk b o ?_ (Heap.get?_push_of_some _ hb), rfl, q⟩
    intro z
    have z' : b = s.heap.objs.size := by simpa using z
    exact absurd (Heap.lt_size hb) (by rw [z']; exact Nat.lt_irrefl _)
theorem call_isi : CallR X (.builtin "isinstance") (fun xs H Q => ∃ (x : V) (n : String) (t : Value) (b : Bool), xs = [x, .ty n] ∧ TyOf X.K H x t ∧ PySem.W.kitOne X.K t (.type n) = some b ∧ Q (.bl b) H) := by
  intro pins s σ H xs us Q I r h
  obtain ⟨x, n, t, b, rfl, ty, e, q⟩ := h
  obtain ⟨u, u2, rfl, rx, r2⟩ := vals2 r
  cases r2
  exact isinst_ok I rx ty e fun tk => ⟨.bl b, H, I.tok _, rfl, q⟩
theorem int_at {ns : List Int} {its : List Value} (r : Vals (ns.map V.int) its) {j : Nat} (h : j < its.length) : ∃ n t, ns[j]? = some n ∧ its[j] = .int n t := by
  have hl := r.length
  rw [List.length_map] at hl
  have hj : j < ns.length := by omega
  have e1 : (ns.map V.int)[j]? = some (.int ns[j]) := by rw [List.getElem?_map, List.getElem?_eq_getElem hj]; rfl
  obtain ⟨u, hu, t, rfl⟩ := r.get e1
  rw [List.getElem?_eq_getElem h] at hu
  exact ⟨ns[j], t, List.getElem?_eq_getElem hj, Option.some.inj hu⟩
theorem all_range_eq {ns ms : List Int} (hl : ns.length = ms.length) : (List.range ns.length).all (fun j => ns.getD j 0 == ms.getD j 0) = decide (ns = ms) := by
  rw [Bool.eq_iff_iff, List.all_eq_true, decide_eq_true_iff]
  constructor
  · intro q
    refine List.ext_getElem hl fun j h1 h2 => ?_
    have e := q j (List.mem_range.mpr h1)
    rw [beq_iff_eq, List.getD_eq_getElem?_getD, List.getD_eq_getElem?_getD, List.getElem?_eq_getElem h1, List.getElem?_eq_getElem h2] at e
    exact e
  · rintro rfl j _
    exact beq_self_eq_true _
def rEqL (K : PySem.W.Frag) (neg : Bool) : R2 := fun x y H Q => ∃ (p q : Addr) (ns ms : List Int), x = .ref p ∧ y = .ref q ∧ SqL K H p (ns.map V.int) ∧ SqL K H q (ms.map V.int) ∧ Q (.bl (if neg then !decide (ns = ms) else decide (ns = ms))) H
theorem eqAt_ints {A : Around} {s : Shared} {ns ms : List Int} {its its2 : List Value} (r : Vals (ns.map V.int) its) (r2 : Vals (ms.map V.int) its2) :
    ∀ j (h1 : j < its.toArray.size) (h2 : j < its2.toArray.size), SeqAt.EqAt A s its.toArray[j] its2.toArray[j] (ns.getD j 0 == ms.getD j 0) := fun j h1 h2 => by
  obtain ⟨n, t, e, e'⟩ := int_at r (j := j) (by simpa using h1)
  obtain ⟨m, t2, e2, e2'⟩ := int_at r2 (j := j) (by simpa using h2)
  rw [List.getElem_toArray, List.getElem_toArray, e', e2', List.getD_eq_getElem?_getD, List.getD_eq_getElem?_getD, e, e2]
  exact SeqAt.EqAt.int_int n t m t2
theorem op_eqL (hu : X.A.units < cLine) : OpR X (compareOp .Eq) (rEqL X.K false) := by
  intro pins s σ H x y v u Q I rx ry h
  obtain ⟨p, q, ns, ms, rfl, rfl, h1, h2, hQ⟩ := h
  cases rx; cases ry
  obtain ⟨its, r, pl, hz⟩ := I.list h1
  obtain ⟨its2, r2, pl2, hz2⟩ := I.list h2
  have l1 := r.length; rw [List.length_map] at l1
  have l2 := r2.length; rw [List.length_map] at l2
  by_cases hl : ns.length = ms.length
  · refine SeqAt.eq_listAt (e := fun j => ns.getD j 0 == ms.getD j 0) pl.isList pl2.isList (by rw [List.size_toArray, List.size_toArray]; omega) hu (eqAt_ints r r2) ⟨.bl _, H, I, rfl, ?_⟩
    rw [List.size_toArray, ← l1, all_range_eq hl]
    exact hQ
  · have e : decide (ns = ms) = false := decide_eq_false fun z => hl (by rw [z])
    refine SeqAt.eq_list_lengthsAt pl.isList pl2.isList (by rw [List.size_toArray, List.size_toArray, ← l1, ← l2]; simpa using hl) hu ⟨.bl false, H, I, rfl, ?_⟩
    rw [e] at hQ; exact hQ
theorem op_neL (hu : X.A.units < cLine) : OpR X (compareOp .NotEq) (rEqL X.K true) := by
  intro pins s σ H x y v u Q I rx ry h
  obtain ⟨p, q, ns, ms, rfl, rfl, h1, h2, hQ⟩ := h
  cases rx; cases ry
  obtain ⟨its, r, pl, hz⟩ := I.list h1
  obtain ⟨its2, r2, pl2, hz2⟩ := I.list h2
  have l1 := r.length; rw [List.length_map] at l1
  have l2 := r2.length; rw [List.length_map] at l2
  by_cases hl : ns.length = ms.length
  · refine SeqAt.RcNeAt.lists (e := fun j => ns.getD j 0 == ms.getD j 0) pl.isList pl2.isList (by rw [List.size_toArray, List.size_toArray]; omega) hu (eqAt_ints r r2) X.prog X.w X.xe _ ⟨.bl _, H, I, rfl, ?_⟩
    rw [List.size_toArray, ← l1, all_range_eq hl]
    exact hQ
  · have e : decide (ns = ms) = false := decide_eq_false fun z => hl (by rw [z])
    refine SeqAt.RcNeAt.lists_lengths pl.isList pl2.isList (by rw [List.size_toArray, List.size_toArray, ← l1, ← l2]; simpa using hl) hu X.prog X.w X.xe _ ⟨.bl true, H, I, rfl, ?_⟩
    rw [e] at hQ; exact hQ
def rEqT (K : PySem.W.Frag) (neg : Bool) : R2 := fun x y H Q => ∃ (p q : Addr) (ns ms : List Int), x = .ref p ∧ y = .ref q ∧ SqT K H p (ns.map V.int) ∧ SqT K H q (ms.map V.int) ∧ ns.length = ms.length ∧ Q (.bl (if neg then !decide (ns = ms) else decide (ns = ms))) H
theorem op_neT (hu : X.A.units < cLine) : OpR X (compareOp .NotEq) (rEqT X.K true) := by
  intro pins s σ H x y v u Q I rx ry h
  obtain ⟨p, q, ns, ms, rfl, rfl, h1, h2, hl, hQ⟩ := h
  cases rx; cases ry
  obtain ⟨its, r, pl, hz⟩ := I.tuple h1
  obtain ⟨its2, r2, pl2, hz2⟩ := I.tuple h2
  have l1 := r.length; rw [List.length_map] at l1
  have l2 := r2.length; rw [List.length_map] at l2
  refine SeqAt.RcNeAt.tuples (e := fun j => ns.getD j 0 == ms.getD j 0) pl pl2 hu (eqAt_ints r r2) X.prog X.w X.xe _ ⟨.bl _, H, I, rfl, ?_⟩
  have e1 : min its.toArray.size its2.toArray.size = ns.length := by rw [List.size_toArray, List.size_toArray]; omega
  have e2 : (its.toArray.size == its2.toArray.size) = true := by rw [List.size_toArray, List.size_toArray, beq_iff_eq]; omega
  rw [e1, e2, all_range_eq hl, Bool.and_true]
  exact hQ
abbrev Tups (H : Hp) : List Addr → List (List Int) → Prop := Paired fun a ks => H a = some (.tup (ks.map V.int))
theorem Tups.mono {H H' : Hp} (s : ∀ b o, H b = some o → H' b = some o) {as : List Addr} {kss : List (List Int)} (t : Tups H as kss) : Tups H' as kss := Paired.mapP t fun _ _ e => s _ _ e
def eqTu (H : Hp) (ks : List Int) : Value → Bool
  | .ref b => match H b with
    | some (.tup vs) => decide (vs = ks.map V.int)
    | _ => false
  | _ => false
theorem map_int_inj : ∀ {a b : List Int}, a.map V.int = b.map V.int → a = b
  | [], [], _ => rfl
  | [], _ :: _, h => by cases h
  | _ :: _, [], h => by cases h
  | x :: a, y :: b, h => by
    injection h with h1 h2
    injection h1 with h1
    rw [h1, map_int_inj h2]
theorem tups_any {H : Hp} {ks : List Int} : ∀ {as : List Addr} {kss : List (List Int)} {its : List Value}, Tups H as kss → Vals (as.map V.ref) its → its.any (eqTu H ks) = decide (ks ∈ kss)
  | _, _, _, .nil, .nil => by simp
  | a :: as, k :: kss, u :: its, .cons e t, .cons r rs => by
    have ih := tups_any (ks := ks) t rs
    cases (show u = Value.ref a from r)
    have e1 : eqTu H ks (.ref a) = decide (ks = k) := by
      show (match H a with | some (.tup vs) => decide (vs = ks.map V.int) | _ => false) = _
      rw [e]
      show decide (k.map V.int = ks.map V.int) = decide (ks = k)
      exact decide_eq_decide.mpr ⟨fun z => (map_int_inj z).symm, fun z => by rw [z]⟩
    rw [List.any_cons, ih, e1]
    by_cases q : ks = k
    · simp [q]
    · simp [q]
theorem tups_eqAt {H : Hp} {ks : List Int} {pins : List (Addr × Obj)} {σ : St} {s : Shared} {a0 : Addr} {A : Around} (I : Inv X pins σ H s) (h0 : H a0 = some (.tup (ks.map V.int))) (hu : A.units < cLine) : ∀ {as : List Addr} {kss : List (List Int)} {its : List Value},
    Tups H as kss → (∀ k ∈ kss, k.length = ks.length) → Vals (as.map V.ref) its → ∀ u ∈ its, SeqAt.EqAt A s u (.ref a0) (eqTu H ks u)
  | _, _, _, .nil, _, .nil => fun u hu => by cases hu
  | a :: as, k :: kss, u :: its, .cons e t, hl, .cons r rs => fun u' hu' => by
    rcases List.mem_cons.mp hu' with rfl | hu'
    · cases (show u' = Value.ref a from r)
      have e1 : eqTu H ks (.ref a) = decide (k = ks) := by
        show (match H a with | some (.tup vs) => decide (vs = ks.map V.int) | _ => false) = _
        rw [e]
        show decide (k.map V.int = ks.map V.int) = decide (k = ks)
        exact decide_eq_decide.mpr ⟨fun z => map_int_inj z, fun z => by rw [z]⟩
      rw [e1]
      by_cases ea : a = a0
      · subst ea
        rw [h0] at e
        have z : k = ks := map_int_inj (HO.tup.inj (Option.some.inj e)).symm
        rw [decide_eq_true z]
        exact SeqAt.EqAt.same _
      · refine SeqAt.EqAt.of_refs ea ?_
        obtain ⟨i1, r1, p1, z1⟩ := I.tuple (SqT.of e)
        obtain ⟨i2, r2, p2, z2⟩ := I.tuple (SqT.of h0)
        have l1 := r1.length; rw [List.length_map] at l1
        have l2 := r2.length; rw [List.length_map] at l2
        have hl' : k.length = ks.length := hl k List.mem_cons_self
        have q := SeqAt.RcAt.tuples (A := A) (s := s) (e := fun j => k.getD j 0 == ks.getD j 0) p1 p2 hu (eqAt_ints r1 r2)
        have e1 : min i1.toArray.size i2.toArray.size = k.length := by rw [List.size_toArray, List.size_toArray]; omega
        have e2 : (i1.toArray.size == i2.toArray.size) = true := by rw [List.size_toArray, List.size_toArray, beq_iff_eq]; omega
        rw [e1, e2, all_range_eq hl', Bool.and_true] at q
        exact q
    · exact tups_eqAt I h0 hu t (fun k hk => hl k (List.mem_cons_of_mem _ hk)) rs u' hu'
def rInT (neg : Bool) : R2 := fun x y H Q => ∃ (a0 : Addr) (ks : List Int) (p : Addr) (as : List Addr) (kss : List (List Int)), x = .ref a0 ∧ y = .ref p ∧ H a0 = some (.tup (ks.map V.int)) ∧ H p = some (.lst (as.map V.ref)) ∧ Tups H as kss ∧ (∀ k ∈ kss, k.length = ks.length) ∧ Q (.bl (if neg then !decide (ks ∈ kss) else decide (ks ∈ kss))) H
theorem op_notInT (hu : X.A.units + 1 < cLine) : OpR X (compareOp .NotIn) (rInT true) := by
  intro pins s σ H x y v u Q I rx ry h
  obtain ⟨a0, ks, p, as, kss, rfl, rfl, h0, hp, t, hl, q⟩ := h
  cases rx; cases ry
  obtain ⟨its, r, pl, hz⟩ := I.list (SqL.of (K := X.K) hp)
  refine SeqAt.notIn_listAt (eqTu H ks) pl.isList (fun w hw => tups_eqAt (A := X.A.in1) I h0 hu t hl r w (by simpa using hw)) ⟨.bl _, H, I, rfl, ?_⟩
  rw [show its.toArray.any (eqTu H ks) = its.any (eqTu H ks) by simp, tups_any t r]
  exact q
def rSetD : V → List V → Hp → VK → Prop := fun x vs H Q => ∃ (a : Addr) (kvs : List (Key × V)) (k : Key) (d : V), x = .ref a ∧ vs = [kV k, d] ∧ H a = some (.dK kvs) ∧ kvs.length < sizeLine ∧
  (∀ v, valV kvs k = some v → Q v H) ∧ (valV kvs k = none → Q d (upd H a (.dK (putK kvs k d))))
theorem mt_setdefault : MtR X "dict.setdefault" rSetD := by
  intro pins s σ H x vs v us Q I rx rv h
  obtain ⟨a, kvs, k, d, rfl, rfl, ha, hz, q1, q2⟩ := h
  cases rx
  obtain ⟨u, u2, rfl, ru, ru2⟩ := vals2 rv
  obtain ⟨z, hd, ws, rel, dd⟩ := dk_of I.hok ha
  refine call_meetsIn PySem.F.slot_dict_setdefault dd.typeIs PySem.F.entry_dict_setdefault (PySem.F.args_dict_setdefault_3 _ _ _) (kt_meets_setdefault (mixKind X.prog X.w) a (kV_is ru) hd u2) ⟨ws, dd, by rw [← rel.length]; exact z, fun w hw => ?_, fun hn h' dd' hs => ?_⟩
  · have e := rel.val k
    rw [hw] at e
    cases hv : valV kvs k with
    | none => rw [hv] at e; exact e.elim
    | some y =>
      rw [hv] at e
      exact ⟨y, H, I.tok _, e, q1 y hv⟩
  · have e : valV kvs k = none := by
      have e := rel.val k
      rw [hn] at e
      cases hv : valV kvs k with
      | none => rfl
      | some y => rw [hv] at e; exact e.elim
    have he : ∃ q, h'.get? a = some q := let ⟨q, _, _, hq, _⟩ := dd'; ⟨q, hq⟩
    refine ⟨d, _, d_write (ob := .dK (putK kvs k d)) I (by rw [ha]; exact True.intro) hs he (dk_new ?_ hd (rel.put k ru2) dd'), ru2, q2 e⟩
    rw [putK_new d e, List.length_append, List.length_singleton]
    omega
theorem vals_intsX {its : List Value} {ns : List Int} (h : IntsAre its ns) : Vals (ns.map V.int) its := by
  induction h with
  | nil => exact .nil
  | cons n t _ ih => exact .cons ⟨_, rfl⟩ ih
theorem call_sorted_list : CallR X (.builtin "sorted") (fun xs H Q => ∃ (p : Addr) (ns : List Int), xs = [.ref p] ∧ SqL X.K H p (ns.map V.int) ∧ ns.length < 64 ∧
    ∀ ns' : List Int, ns'.Perm ns → ns'.Pairwise (· ≤ ·) → ∀ l, H l = none → Q (.ref l) (upd H l (.lst (ns'.map V.int)))) := by
  intro pins s σ H xs us Q I r h
  obtain ⟨p, ns, rfl, hq, h64, q⟩ := h
  obtain ⟨u, rfl, rx⟩ := vals1 r
  cases rx
  obtain ⟨its, rv, pl, hz⟩ := I.list hq
  have hlen := rv.length
  rw [List.length_map] at hlen
  refine sorted_ints pl.isList (intsAre_of rv) (by omega) fun out ns' a1 a2 a3 => ?_
  obtain ⟨e, he⟩ := sortedAll_at s.heap its out
  refine ⟨.ref (s.heap.objs.size + 1), _, I.laid (a := s.heap.objs.size + 1) (o := .lst (ns'.map V.int)) (t' := s.toks) (fun b o hb => sortedAll_old hb) (Nat.le_succ _) ?_, rfl, q ns' a2 a3 _ (I.hok.fresh (Nat.le_succ _))⟩
  have r := vals_intsX a1
  refine ⟨?_, out.toList, e, r, ?_⟩
  · have l1 := r.length
    have l2 := a2.length_eq
    rw [List.length_map] at l1 ⊢
    rw [sizeLine_eq]; omega
  · rw [he]
section
variable {prog : Program} {w : World} {A : Around} {E : Value → Shared → Prop} {s : Shared}
variable {I : Addr} {fp wr : List Addr} {G : Array GenState → Array GenState → Prop} {n : Nat} {P : Nat → Value → Prop} {Sn : Nat → Shared → Prop} {R : Result → Shared → Prop}
end
end
end L2
namespace Toy
open PySem L2 Gra
theorem same_new {H : Hp} {p : Addr} (h : H p = none) (o : HO) : Same H (upd H p o) := fun b u q => by rw [upd_ne (ne_of_none q h)]; exact q
theorem same_put {H H2 : Hp} {p : Addr} (s : Same H H2) (h : H p = none) (o : HO) : Same H (upd H2 p o) := fun b u q => by rw [upd_ne (ne_of_none q h)]; exact s b u q
theorem small {n : Nat} (h : n ≤ 1000) : n ≤ sizeLine := Nat.le_of_lt (small1000 h)
theorem int_of {ns : List Int} {i : Nat} {y : V} (h : (ns.map V.int)[i]? = some y) : ∃ z, y = V.int z ∧ ns[i]? = some z := by
  rw [List.getElem?_map] at h
  cases e : ns[i]? with
  | none => rw [e] at h; cases h
  | some z => rw [e] at h; exact ⟨z, (Option.some.inj h).symm, rfl⟩
theorem at_int {ns : List Int} {i : Nat} {z : Int} (h : ns[i]? = some z) : atI (ns.map V.int) (i : Int) = some (.int z) := atI_nat (by rw [List.getElem?_map, h]; rfl)
theorem take_succ_get {α : Type} {l : List α} {i : Nat} {x : α} (h : l[i]? = some x) : l.take (i + 1) = l.take i ++ [x] := by
  rw [List.take_add_one, h]; rfl
theorem if_key {c : Prop} [Decidable c] {te : TE} {i : Nat} {D : Ends} {σ : St} {H : Hp} (G : V → Hp → Prop) (h1 : (∀ v H', G v H' → D.nx (σ.set i (some v)) H') → c → te σ H (fun x H1 => D.nx (σ.set i (some x)) H1))
    (h2 : ¬ c → ∃ v, σ.set i (some v) = σ ∧ G v H) (key : ∀ v H', G v H' → D.nx (σ.set i (some v)) H') : if c then tAsg te (gName i) D σ H else tNext D σ H := by
  by_cases hc : c
  · rw [if_pos hc]
    exact h1 key hc
  · rw [if_neg hc]
    obtain ⟨v, e, g⟩ := h2 hc
    have := key v H g
    rw [e] at this
    exact this
def pr (p : Int × Int) : List V := [.int p.1, .int p.2]
def LanesAt (H : Hp) (l : Addr) (ps : Lanes) : Prop := ∃ as : List Addr, H l = some (.lst (as.map V.ref)) ∧ Paired (fun a p => H a = some (.tup (pr p))) as ps
def InR (n : Int) (ps : Lanes) : Prop := ∀ p ∈ ps, (0 ≤ p.1 ∧ p.1 < n) ∧ (0 ≤ p.2 ∧ p.2 < n)
theorem LanesAt.mono {H H' : Hp} {l : Addr} {ps : Lanes} (s : Same H H') (h : LanesAt H l ps) : LanesAt H' l ps := by
  obtain ⟨as, h1, h2⟩ := h
  exact ⟨as, s _ _ h1, Paired.mapP h2 fun _ _ e => s _ _ e⟩
theorem paired_at {α β : Type} {F : α → β → Prop} : ∀ {as : List α} {ps : List β} {i : Nat} {a : α}, Paired F as ps → as[i]? = some a → ∃ p, ps[i]? = some p ∧ F a p
  | _, _, _, _, .nil, h => by simp at h
  | _, _, 0, _, .cons e _, h => by simp at h; subst h; exact ⟨_, rfl, e⟩
  | _, _, i + 1, a, .cons _ t, h => by
    obtain ⟨p, h1, h2⟩ := paired_at (i := i) (a := a) t (by simpa using h)
    exact ⟨p, by simpa using h1, h2⟩
theorem lane_at {H : Hp} {as : List Addr} {ps : Lanes} (t : Paired (fun a p => H a = some (.tup (pr p))) as ps) {i : Nat} {y : V} (h : (as.map V.ref)[i]? = some y) : ∃ a p, y = V.ref a ∧ ps[i]? = some p ∧ H a = some (.tup (pr p)) := by
  rw [List.getElem?_map] at h
  cases e : as[i]? with
  | none => rw [e] at h; cases h
  | some a =>
    rw [e] at h
    obtain ⟨p, h1, h2⟩ := paired_at t e
    exact ⟨a, p, (Option.some.inj h).symm, h1, h2⟩
theorem Paired.len {α β : Type} {F : α → β → Prop} {as : List α} {ps : List β} (t : Paired F as ps) : as.length = ps.length := Paired.length t
theorem tups_of {H : Hp} {as : List Addr} {ps : Lanes} (t : Paired (fun a p => H a = some (.tup (pr p))) as ps) : Tups H as (ps.map fun p => [p.1, p.2]) := by
  induction t with
  | nil => exact .nil
  | cons e _ ih => exact .cons e ih
def endsOf (ps : Lanes) (k : Int) : List Int := (ps.filter fun p => decide (p.1 = k)).map (·.2)
theorem endsOf_snoc (ps : Lanes) (p : Int × Int) (k : Int) : endsOf (ps ++ [p]) k = if p.1 = k then endsOf ps k ++ [p.2] else endsOf ps k := by
  unfold endsOf
  rw [List.filter_append]
  by_cases e : p.1 = k
  · rw [if_pos e, List.filter_cons, if_pos (decide_eq_true e), List.filter_nil, List.map_append]; rfl
  · rw [if_neg e, List.filter_cons, if_neg (by simpa using e), List.filter_nil, List.append_nil]
theorem mem_endsOf {ps : Lanes} {k e : Int} : e ∈ endsOf ps k ↔ (k, e) ∈ ps := by
  unfold endsOf
  constructor
  · intro h
    obtain ⟨p, hp, he⟩ := List.mem_map.mp h
    obtain ⟨h1, h2⟩ := List.mem_filter.mp hp
    have h2' : p.1 = k := of_decide_eq_true h2
    have : p = (k, e) := by cases p; simp at h2' he; rw [h2', he]
    rw [← this]; exact h1
  · intro h
    exact List.mem_map.mpr ⟨(k, e), List.mem_filter.mpr ⟨h, by simp⟩, rfl⟩
theorem endsOf_len (ps : Lanes) (k : Int) : (endsOf ps k).length ≤ ps.length := by
  unfold endsOf
  rw [List.length_map]; exact List.length_filter_le _ _
abbrev Tab := List (Int × Addr)
def tabKV (tab : Tab) : List (Key × V) := tab.map fun q => (Sum.inl q.1, V.ref q.2)
structure EndsTab (H : Hp) (d : Addr) (ps : Lanes) (tab : Tab) : Prop where
  dict : H d = some (.dK (tabKV tab))
  nd : (tab.map (·.1)).Nodup
  na : (tab.map (·.2)).Nodup
  ls : ∀ q ∈ tab, H q.2 = some (.lst ((endsOf ps q.1).map V.int))
  all : ∀ p ∈ ps, p.1 ∈ tab.map (·.1)
def EndsAt (H : Hp) (d : Addr) (ps : Lanes) : Prop := ∃ tab, EndsTab H d ps tab
theorem EndsAt.mono {H H' : Hp} {d : Addr} {ps : Lanes} (s : Same H H') (h : EndsAt H d ps) : EndsAt H' d ps := by
  obtain ⟨tab, e⟩ := h
  exact ⟨tab, s _ _ e.dict, e.nd, e.na, fun q hq => s _ _ (e.ls q hq), e.all⟩
theorem val_tab_some {tab : Tab} {k : Int} {v : V} (h : valV (tabKV tab) (Sum.inl k : Key) = some v) : ∃ q ∈ tab, q.1 = k ∧ v = .ref q.2 := by
  induction tab with
  | nil => cases h
  | cons q r ih =>
    unfold valV tabKV at h
    rw [List.map_cons, List.find?_cons] at h
    by_cases e : (Sum.inl q.1 : Key) = Sum.inl k
    · rw [decide_eq_true e] at h
      exact ⟨q, List.mem_cons_self, Sum.inl.inj e, (Option.some.inj h).symm⟩
    · rw [decide_eq_false e] at h
      obtain ⟨q', h1, h2, h3⟩ := ih h
      exact ⟨q', List.mem_cons_of_mem _ h1, h2, h3⟩
theorem val_tab_none {tab : Tab} {k : Int} (h : valV (tabKV tab) (Sum.inl k : Key) = none) : k ∉ tab.map (·.1) := by
  intro m
  obtain ⟨q, hq, e⟩ := List.mem_map.mp m
  refine valV_not h (List.mem_map.mpr ⟨(Sum.inl q.1, V.ref q.2), List.mem_map.mpr ⟨q, hq, rfl⟩, by rw [← e]⟩)
theorem tabKV_inj : ∀ {t u : Tab}, tabKV t = tabKV u → t = u
  | [], [], _ => rfl
  | [], _ :: _, h => by cases h
  | _ :: _, [], h => by cases h
  | (x, a) :: t, (y, b) :: u, h => by
    have h' : ((Sum.inl x : Key), V.ref a) :: tabKV t = ((Sum.inl y : Key), V.ref b) :: tabKV u := h
    injection h' with h1 h2
    injection h1 with h1 h3
    injection h1 with h1
    injection h3 with h3
    rw [h1, h3, tabKV_inj h2]
theorem tabKV_len (tab : Tab) : (tabKV tab).length = tab.length := List.length_map _
def optV : Option Int → V
  | none => .non
  | some p => .int p
def treeKV (t : PTree) : List (Key × V) := t.map fun q => (Sum.inl q.1, optV q.2)
theorem treeKV_len (t : PTree) : (treeKV t).length = t.length := List.length_map _
theorem val_tree (t : PTree) (k : Int) : valV (treeKV t) (Sum.inl k : Key) = (look t k).map optV := by
  induction t with
  | nil => rfl
  | cons q r ih =>
    unfold valV treeKV look at ih ⊢
    rw [List.map_cons, List.find?_cons, List.find?_cons]
    by_cases e : q.1 = k
    · have e' : (Sum.inl q.1 : Key) = Sum.inl k := by rw [e]
      rw [decide_eq_true e, decide_eq_true e']; rfl
    · have e' : ¬ (Sum.inl q.1 : Key) = Sum.inl k := fun z => e (Sum.inl.inj z)
      rw [decide_eq_false e, decide_eq_false e']
      exact ih
theorem put_tree {t : PTree} {k p : Int} (h : k ∉ keys t) : putK (treeKV t) (Sum.inl k : Key) (.int p) = treeKV (t ++ [(k, some p)]) := by
  rw [putK_new _ (by rw [val_tree, look_none h]; rfl)]
  unfold treeKV
  rw [List.map_append]; rfl
theorem val_tree_some (t : PTree) (k : Int) : (valV (treeKV t) (Sum.inl k : Key)).isSome = decide (k ∈ keys t) := by
  rw [val_tree, Option.isSome_map, look_mem]
end Toy
namespace Toy
open PySem L2 Gra
theorem lc_range {n : Nat} {js : List Nat} {tc : TT} {te : TE} {σ : St} {H : Hp} {Q : VK} (Pv : Nat → List V → Hp → Prop) (h0 : Pv 0 [] H) (hl : ∀ i ys H, i ≤ n → Pv i ys H → ys.length ≤ i) (hz : n ≤ sizeLine)
    (hs : ∀ i ys H, i < n → Pv i ys H → tc (innerO js σ (some (.int (0 + (i : Int))))) H fun b H2 => if b = true then te (innerO js σ (some (.int (0 + (i : Int))))) H2 fun y H3 => Pv (i + 1) (ys ++ [y]) H3 else Pv (i + 1) ys H2)
    (hd : ∀ ys H, Pv n ys H → ∀ p, H p = none → Q (.ref p) (upd H p (.lst ys))) :
    LCw js σ tc te Q (Itr 0 n) H := by
  refine ⟨fun i m ys H => m = n - i ∧ i ≤ n ∧ Pv i ys H, ⟨n, by simp, Nat.zero_le _, h0⟩, ?_⟩
  rintro i m ys H ⟨rfl, hi, p⟩
  have hy := hl i ys H hi p
  by_cases hlt : i < n
  · refine .inr ⟨hlt, by omega, Pv (i + 1), fun ys' H' p' => ⟨n - (i + 1), by omega, rfl, hlt, p'⟩, fun x H' y => ?_⟩
    obtain ⟨e, y⟩ := y
    subst e y
    exact hs i ys _ hlt p
  · have e : i = n := by omega
    subst e
    exact .inl ⟨Nat.le_refl _, by omega, hd ys H p⟩
theorem lc_rsame {n : Nat} {js : List Nat} {tc : TT} {te : TE} {σ : St} {H : Hp} {Q : VK} (f : Nat → Bool) (g : Nat → V) (hz : n ≤ 1000)
    (hc : ∀ i < n, ∀ H2, Same H H2 → ∀ R : Bool → Hp → Prop, (∀ H3, Same H2 H3 → R (f i) H3) → tc (innerO js σ (some (.int (0 + (i : Int))))) H2 R)
    (he : ∀ i < n, f i = true → ∀ H2, Same H H2 → ∀ R : V → Hp → Prop, (∀ H3, Same H2 H3 → R (g i) H3) → te (innerO js σ (some (.int (0 + (i : Int))))) H2 R)
    (hd : ∀ H' p, Same H H' → H' p = none → Q (.ref p) (upd H' p (.lst (((List.range n).filter f).map g)))) : LCw js σ tc te Q (Itr 0 n) H := by
  refine lc_range (n := n) (fun i ys H2 => Same H H2 ∧ ys = ((List.range i).filter f).map g) ⟨Same.refl _, rfl⟩ (fun i ys H2 hi ⟨s2, e⟩ => ?_) (small hz) (fun i ys H2 hi ⟨s2, e⟩ => ?_) (fun ys H2 ⟨s2, e⟩ p hp => ?_)
  · subst e
    have h1 := List.length_filter_le f (List.range i)
    rw [List.length_range] at h1
    rw [List.length_map]; omega
  · subst e
    refine hc i hi H2 s2 _ fun H3 s3 => ?_
    rw [List.range_succ, List.filter_append, List.map_append]
    cases c : f i with
    | false =>
      have e0 : [i].filter f = [] := by rw [List.filter_cons, if_neg (by rw [c]; exact Bool.false_ne_true)]; rfl
      rw [e0, List.map_nil, List.append_nil]
      exact iteF ⟨s2.trans s3, rfl⟩
    | true =>
      have e0 : [i].filter f = [i] := by rw [List.filter_cons, if_pos c]; rfl
      rw [e0]
      exact iteT (he i hi c H3 (s2.trans s3) _ fun H4 s4 => ⟨(s2.trans s3).trans s4, rfl⟩)
  · subst e
    exact hd H2 p s2 hp
theorem lc_robjs {n : Nat} {js : List Nat} {te : TE} {σ : St} {H : Hp} {Q : VK} (Fr : Hp → Addr → Nat → Prop) (mono : ∀ H1 H2 b x, Same H1 H2 → Fr H1 b x → Fr H2 b x) (hz : n ≤ 1000)
    (he : ∀ i < n, ∀ H2, Same H H2 → ∀ R : V → Hp → Prop, (∀ b H3, Same H2 H3 → Fr H3 b i → R (.ref b) H3) → te (innerO js σ (some (.int (0 + (i : Int))))) H2 R)
    (hd : ∀ H' p bs, Same H H' → H' p = none → Paired (Fr H') bs (List.range n) → Q (.ref p) (upd H' p (.lst (bs.map V.ref)))) : LCw js σ tYes te Q (Itr 0 n) H := by
  refine lc_range (n := n) (fun i ys H2 => Same H H2 ∧ ∃ bs : List Addr, ys = bs.map V.ref ∧ Paired (Fr H2) bs (List.range i)) ⟨Same.refl _, [], rfl, .nil⟩ (fun i ys H2 hi ⟨s2, bs, e, hb⟩ => ?_) (small hz) (fun i ys H2 hi ⟨s2, bs, e, hb⟩ => ?_) (fun ys H2 ⟨s2, bs, e, hb⟩ p hp => ?_)
  · subst e
    have := Paired.len hb
    rw [List.length_range] at this
    rw [List.length_map]; omega
  · subst e
    refine yes_of (iteT (he i hi H2 s2 _ fun b H3 s3 fr => ⟨s2.trans s3, bs ++ [b], by rw [List.map_append]; rfl, ?_⟩))
    rw [List.range_succ]
    exact Paired.snoc (Paired.mapP hb fun c y z => mono _ _ _ _ s3 z) fr
  · subst e
    exact hd H2 p bs s2 hp hb
end Toy
namespace L2
open PySem PySem.Spec PyProof.Rows
theorem ObjOk.ex {P : Program} {w : World} {H : Hp} {h : Heap} {a : Addr} {o : HO} (x : ObjOk P w H h a o) : ∃ ob, h.get? a = some ob := by
  cases o with
  | lst xs => obtain ⟨_, _, _, _, e⟩ := x; exact ⟨_, e⟩
  | tup xs => obtain ⟨_, _, _, o, e, _⟩ := x; exact ⟨_, e⟩
  | dK kvs => obtain ⟨_, _, _, _, o, _, _, e, _⟩ := x; exact ⟨_, e⟩
  | dT kvs => obtain ⟨_, _, _, _, o, _, _, e, _⟩ := x; exact ⟨_, e⟩
  | set S n => obtain ⟨o, _, _, _, e, _⟩ := x; exact ⟨_, e⟩
  | ins C dx fs => obtain ⟨_, _, _, e, _⟩ := x; exact ⟨_, e⟩
  | own y => obtain ⟨_, e⟩ := x; exact ⟨_, e⟩
  | xd fs => obtain ⟨_, ⟨_, _, _, e, _⟩, _⟩ := x; exact ⟨_, e⟩
  | rng lo hi => obtain ⟨_, _, _, e⟩ := x; exact ⟨_, e⟩
  | frz ob u => obtain ⟨e, _⟩ := x; exact ⟨_, e⟩
  | tbl ps => exact ⟨_, (show h.get? a = some _ from x)⟩
  | met f y => exact ⟨_, (show h.get? a = some _ from x)⟩
  | ext φ => obtain ⟨_, ⟨_, e⟩, _⟩ := x; exact ⟨_, e⟩
structure Flies (P : Program) (w : World) (outer : List Env) (H : Hp) (s : Shared) (E : XK) (x : Addr) (C : Value) (H' : Hp) (B : Heap) (a0 : Value) (s' : Shared) : Prop where
  os : s'.os = s.os
  bare : AllBare s'.gens
  un : Un (frs outer) [] H H' s.heap s'.heap
  hok : HOk P w H' s'.heap
  fly : Heap.FlyingW B outer x C a0 s'.heap
  old : ∀ b o, s.heap.get? b = some o → b ∉ frs outer → ∃ o', B.get? b = some o'
  trk : ∀ b u, H' b = some u → ∃ o', B.get? b = some o'
  wish : E C none H'
section
variable {X : Cx}
end
def excO (a : Addr) (C : Value) : HO := .ext fun h => ∃ oe vs, h.get? a = some oe ∧ oe.cls = C ∧ oe.data = .fields vs
section
variable {X : Cx} {pins : List (Addr × Obj)} {σ : St} {H H' : Hp} {s s' : Shared} {E : XK} {x : Addr} {C a0 : Value} {B h' : Heap}
theorem Flies.inv (I : Inv X pins σ H s) (F : Flies X.prog X.w X.stack H s E x C H' B a0 s') : Inv X pins σ H' s' := I.call' (ch := []) F.os F.un F.hok F.bare (fun b z => absurd z (by simp))
theorem Inv.fly (I : Inv X pins σ H s) (F : Flies X.prog X.w X.stack H s E x C H' B a0 s') (st : B.StaysIn h') (up : s'.heap.UpToSlots h') : Inv X pins σ H' { s' with heap := h' } := by
  have I1 := F.inv I
  -- what stood ahead of the call and is no frame stays
  have hold : ∀ b o o', s.heap.get? b = some o → b ∉ frs X.stack → s'.heap.get? b = some o' → h'.get? b = some o' := fun b o o' e n e' => by
    obtain ⟨o2, e2⟩ := F.old b o e n
    have e3 := F.fly.1 b o2 e2
    rw [e'] at e3
    cases e3
    exact st b o' e2
  have nst : ∀ b o, X.s₀.heap.get? b = some o → b ∉ X.fs → b ∉ frs X.stack := fun b o e n hb => by
    rcases List.mem_cons.mp (I.stkSub b hb) with z | z
    · exact absurd (Heap.lt_size e) (by rw [z]; exact Nat.not_lt.mpr I.ok.above)
    · exact n z
  have slot : ∀ b o, s'.heap.get? b = some o → b ∈ X.fs → ∃ sl, h'.get? b = some { o with slots := sl } := fun b o e hb => by
    obtain ⟨_, o', ho', hd⟩ := I1.funs.mem hb
    rw [e] at ho'
    cases ho'
    exact up b o e hd
  have cellK : ∀ c v, s'.heap.IsCell c v → h'.IsCell c v := fun c v ⟨o, ho, hd⟩ => by
    obtain ⟨sl, e⟩ := up c o ho (fun vs q => by rw [hd] at q; cases q)
    exact ⟨_, e, hd⟩
  refine ⟨I1.ok, I1.os, I1.bare, ⟨fun b o e n hb hx => ?_, fun b o e n hb hx => ?_, I1.base.free, fun b o e hx => ?_, I1.base.tups, I1.base.frzs, I1.base.tbls⟩, ?_, fun y c e => ?_, I1.free, I1.freeC, fun p hp => ?_, fun b u e => ?_, I1.len⟩
  · obtain ⟨o1, e1⟩ := I.base.there b o e hx
    exact hold b o1 o e1 (nst b o e hb) (I1.base.keep b o e n hb hx)
  · obtain ⟨sl, e1⟩ := I1.base.slot b o e n hb hx
    obtain ⟨sl', e2⟩ := slot b _ e1 hb
    exact ⟨sl', e2⟩
  · obtain ⟨o1, e1⟩ := I.base.there b o e hx
    obtain ⟨o2, e2⟩ := I1.base.there b o e hx
    by_cases hb : b ∈ X.fs
    · obtain ⟨sl, e3⟩ := slot b o2 e2 hb
      exact ⟨_, e3⟩
    · exact ⟨o2, hold b o1 o2 e1 (nst b o e hb) e2⟩
  · obtain ⟨m, hn, hl⟩ := I1.loc
    refine ⟨m, up.ns hn, fun i y v h1 h2 h3 => ?_⟩
    obtain ⟨u, r, l⟩ := hl i y v h1 h2 h3
    refine ⟨u, r, ?_⟩
    rcases l with l | ⟨k, c, e, z⟩
    · exact .inl l
    · exact .inr ⟨k, c, e, cellK c _ z⟩
  · obtain ⟨v, z⟩ := I1.cell y c e
    exact ⟨v, cellK c v z⟩
  · obtain ⟨e, n, ne, nf, d⟩ := I1.pin p hp
    obtain ⟨e0, _, ne0, nf0, _⟩ := I.pin p hp
    refine ⟨hold p.1 p.2 p.2 e0 (fun hb => ?_) e, n, ne, nf, d⟩
    rcases List.mem_cons.mp (I.stkSub _ hb) with z | z
    · exact ne0 z
    · exact nf0 z
  · refine (I1.hok b u e).stay (fun c v hc q => ?_) (fun _ q => q) fun _ _ q => q
    obtain ⟨u', eu⟩ : ∃ u', H' c = some u' := by
      rcases hc with rfl | hc
      · exact ⟨u, e⟩
      · exact ⟨_, hc⟩
    obtain ⟨o2, e2⟩ := F.trk c u' eu
    have e3 := F.fly.1 c o2 e2
    rw [q] at e3
    cases e3
    exact st c v e2
theorem Inv.exc (I : Inv X pins σ H s) (F : Flies X.prog X.w X.stack H s E x C H' B a0 s') (J : Inv X pins σ H' { s' with heap := h' }) (fl : Heap.FlyingW B X.stack x C a0 h') : Inv X pins σ (upd H' x (excO x C)) { s' with heap := h' } ∧ H' x = none := by
  obtain ⟨oe, ws, T, oT, ts, he, ⟨hc, h0⟩, hd, _⟩ := fl.2.2.2
  have hx : B.get? x = none := fl.2.1
  have hn : H' x = none := by
    cases q : H' x with
    | none => rfl
    | some u => obtain ⟨o, e⟩ := F.trk x u q; rw [hx] at e; cases e
  have nfr : x ∉ frs X.stack := fun hm => by
    obtain ⟨_, o, ho, hnf⟩ := J.stack.mem hm
    have ho' : h'.get? x = some o := ho
    rw [he] at ho'
    cases ho'
    exact hnf _ hd
  have nold : s.heap.get? x = none := by
    cases q : s.heap.get? x with
    | none => rfl
    | some o =>
      obtain ⟨o', e⟩ := F.old x o q nfr
      rw [hx] at e; cases e
  have n0 : ∀ b o, X.s₀.heap.get? b = some o → b ∉ X.ex → b ≠ x := fun b o e hx' z => by
    obtain ⟨o1, e1⟩ := I.base.there b o e hx'
    rw [z, nold] at e1; cases e1
  refine ⟨⟨J.ok, J.os, J.bare, ⟨J.base.keep, J.base.slot, fun b o e n hx' => ?_, J.base.there, fun b xs e => ?_, fun b o u e => ?_, fun b ps e => ?_⟩, J.loc, J.cell, ?_, fun y c e => ?_, fun p hp => ?_, HOk.track J.hok hn ⟨⟨oe, ws, he, hc, hd⟩, ⟨oe, he⟩, ?_⟩, J.len⟩, hn⟩
  · rw [upd_ne (n0 b o e hx')]; exact J.base.free b o e n hx'
  · have e' := J.base.tups b xs e
    rw [upd_ne (ne_of_none e' hn)]; exact e'
  · have e' := J.base.frzs b o u e
    rw [upd_ne (ne_of_none e' hn)]; exact e'
  · obtain ⟨m, e'⟩ := J.base.tbls b ps e
    exact ⟨m, by rw [upd_ne (ne_of_none e' hn)]; exact e'⟩
  · have ne : X.env.locals ≠ x := fun z => by
      obtain ⟨m, ⟨o, es, ep, ho, hdd, _⟩, _⟩ := J.loc
      have ho' : h'.get? X.env.locals = some o := ho
      rw [z, he] at ho'
      cases ho'
      rw [hd] at hdd; cases hdd
    rw [upd_ne ne]; exact J.free
  · have ne : c ≠ x := fun z => by
      obtain ⟨v, o, ho, hdd⟩ := J.cell y c e
      have ho' : h'.get? c = some o := ho
      rw [z, he] at ho'
      cases ho'
      rw [hd] at hdd; cases hdd
    rw [upd_ne ne]; exact J.freeC y c e
  · obtain ⟨e, n, ne, nf, d⟩ := J.pin p hp
    have np : p.1 ≠ x := fun z => by
      have := (I.pin p hp).1
      rw [z, nold] at this; cases this
    exact ⟨e, by rw [upd_ne np]; exact n, ne, nf, d⟩
  · rintro h1 h2 ⟨oe', vs', e1, e2, e3⟩ k
    exact ⟨oe', vs', k oe' e1, e2, e3⟩
end
section
variable {X : Cx} {k : Nat} {f : Addr} {fd : FuncData} {ps : List Str} {sp : Sp} {fx y n cn : Str} {e : Expr} {es : List Expr} {t : TA} {b₀ : Stmt} {suite : List Stmt} {i j : Nat} {py p pos spos cp hpos tpos : Pos} {hc : Value} {ts : TS}
structure ClsAt (K : PySem.W.Frag) (mg : Str → Option Value) (x : Str) (C : Addr) : Prop where
  m : mg x = some (.ref C)
  exc : PySem.W.excIn K C [.type "ValueError", .type "Exception", .type "BaseException", .type "object"] "ValueError.__new__" = true
end
end L2
namespace L2
open PySem PySem.Spec PyProof.Rows
def Ite (K : PySem.W.Frag) (a : Addr) : It :=
  ⟨fun i H => ∃ xs x, SqL K H a xs ∧ xs[i]? = some x, fun i H x H' => ∃ p v, H p = none ∧ (∀ xs, SqL K H a xs → xs[i]? = some v) ∧ x = .ref p ∧ H' = upd H p (.tup [.int i, v]), fun i H => ∃ xs, SqL K H a xs ∧ xs.length ≤ i⟩
theorem turn_enum {P : Program} {w : World} {K : PySem.W.Frag} {elts : List Expr} {x1 : Nat} {pos : Pos} (a e it : Addr) (hne : e ≠ it) : Turn P w K (.Tuple elts x1 pos) (Ite K a) [e, it] e (fun i h => (∃ old, IsEnum h e it i old) ∧ h.IsListIter it a i) where
  mem := by simp
  obj := fun i h st b hb => by
    obtain ⟨⟨old, he⟩, o, ho, c, d⟩ := st
    rcases List.mem_cons.mp hb with z | z
    · subst z; exact ⟨_, he, fun v z => by cases z⟩
    · have z' : b = it := by simpa using z
      subst z'; exact ⟨o, ho, fun v z => by rw [d] at z; cases z⟩
  keep := fun i h h' st k => by
    obtain ⟨⟨old, he⟩, hit⟩ := st
    exact ⟨⟨old, k e (by simp) _ he⟩, hit.at fun o q => k it (by simp) o q⟩
  item := by
    intro X hP hw hK hc i pins s σ H E I hf st hg
    subst hP hw hK
    obtain ⟨xs, x, hq, hx⟩ := hg
    obtain ⟨its, rv, p, hz⟩ := I.list hq
    obtain ⟨u, hu, ru⟩ := rv.get hx
    obtain ⟨⟨old, he⟩, hit⟩ := st
    obtain ⟨e0, e1, e2, e3, e4, e5⟩ := hf e (by simp)
    obtain ⟨f0, f1, f2, f3, f4, f5⟩ := hf it (by simp)
    refine wpAny_pyNext_enum_item he hit p.isList (x := u) (by simpa using hu) hne fun h' ho hit' hT hsz hk => ?_
    refine ⟨_, rfl, wpAny_letOwnedTupleGo_enum ho fun h2 he2 sb => ?_⟩
    have sb' : Heap.SameBut e h' h2 := sb
    have he_lt : e < s.heap.objs.size := Heap.lt_size he
    have hT2 : h2.get? s.heap.objs.size = some { cls := .type "tuple", data := .seq #[.int i s.toks, u] } := (sb'.2 _ (Nat.ne_of_gt he_lt)).trans hT
    have kp : ∀ b o, b ≠ e → b ≠ it → s.heap.get? b = some o → h2.get? b = some o := fun b o h1 h3 q => (sb'.2 b h1).trans (hk b o h1 h3 q)
    have hTn : H s.heap.objs.size = none := I.hok.fresh (Nat.le_refl _)
    have hl2 : h2.IsListIter it a (i + 1) := hit'.at fun o q => (sb'.2 it (Ne.symm hne)).trans q
    have hk2 : HOk X.prog X.w (upd H s.heap.objs.size (.tup [.int i, x])) h2 := fun b v q => by
      by_cases hb : b = s.heap.objs.size
      · subst hb
        rw [upd_same] at q
        cases q
        exact ⟨by show 2 ≤ sizeLine; decide, [.int i s.toks, u], .cons ⟨s.toks, rfl⟩ (.cons ru .nil), ⟨_, hT2, rfl, _, rfl⟩⟩
      · rw [upd_ne hb] at q
        refine (I.hok b v q).stay (fun c o hc q' => kp c o ?_ ?_ q') (fun c q' => by rw [upd_ne (ne_of_none q' hTn)]; exact q') fun c ys q' => by rw [upd_ne (ne_of_none q' hTn)]; exact q'
        · rcases hc with z | z
          · rw [z]; exact ne_of_none q e0
          · exact ne_of_none z e0
        · rcases hc with z | z
          · rw [z]; exact ne_of_none q f0
          · exact ne_of_none z f0
    have I2 : Inv X pins σ (upd H s.heap.objs.size (.tup [.int i, x])) { s with heap := h2, toks := s.toks + 1 } := by
      refine I.step (g' := s.gens) (d' := s.drawn) (t' := s.toks + 1) (ch := [e, it]) (fun b hb => ?_) (fun b o _ _ hc q _ => kp b o (fun z => hc (by simp [z])) (fun z => hc (by simp [z])) q) (fun b o _ _ hc q _ => ⟨o.slots, kp b o (fun z => hc (by simp [z])) (fun z => hc (by simp [z])) q⟩)
        (fun b o _ q n => by rw [upd_ne (Nat.ne_of_lt (Heap.lt_size q))]; exact n) (fun b o hc q => ⟨o, kp b o (fun z => hc (by simp [z])) (fun z => hc (by simp [z])) q⟩) (fun b ys q => by rw [upd_ne (ne_of_none q hTn)]; exact q) (fun b o v q => by rw [upd_ne (ne_of_none q hTn)]; exact q)
        (fun b ps q => ⟨#[], by rw [upd_ne (ne_of_none q hTn), q]; simp⟩) (fun m hm => ?_) hk2 I.bare
      · rcases List.mem_cons.mp hb with z | z
        · subst z; exact ⟨e3, e1, e4, e5⟩
        · have z' : b = it := by simpa using z
          subst z'; exact ⟨f3, f1, f4, f5⟩
      · obtain ⟨o, es, ep, q, r⟩ := hm
        exact ⟨o, es, ep, kp _ o (Ne.symm e1) (Ne.symm f1) q, r⟩
    refine ⟨.ref s.heap.objs.size, _, I2, rfl, ⟨_, x, hTn, fun ys hy => by rw [I.list_inj hy hq]; exact hx, rfl, rfl⟩, ⟨⟨u, by simpa using he2⟩, hl2⟩, fun b hb => ?_⟩
    rw [upd_ne (fun z => ?_)]
    · exact (hf b hb).1
    · rcases List.mem_cons.mp hb with y | y
      · rw [← y, z] at he_lt; exact Nat.lt_irrefl _ he_lt
      · have y' : b = it := by simpa using y
        obtain ⟨o, q, _⟩ := hit
        have := Heap.lt_size q
        rw [← y', z] at this; exact Nat.lt_irrefl _ this
  done := by
    intro X hP hw hK hc i pins s σ H E I hf st hg
    subst hP hw hK
    obtain ⟨xs, hq, hx⟩ := hg
    obtain ⟨its, rv, p, hz⟩ := I.list hq
    obtain ⟨⟨old, he⟩, hit⟩ := st
    obtain ⟨f0, f1, f2, f3, f4, f5⟩ := hf it (by simp)
    have hl := rv.length
    exact wpAny_pyNext_enum_end (I.ok.hd hc) he hit p.isList (by simp; omega) fun h' eb => ⟨rfl, I.turned (t' := s.toks) (fun b o hb e => eb b o hb e) f0 f1 f3 f4 f5⟩
  self := fun _ _ _ _ _ st h => by
    obtain ⟨⟨old, he⟩, _⟩ := st
    exact wpAny_pyIter_enum he h
theorem boot_enumerate : bootBuiltins "enumerate" = some (.type "enumerate") := by decide +kernel
def iEnum (K : PySem.W.Frag) (ta : TA) : TI := fun σ H R => ta σ H fun vs H1 => ∃ a, vs = [.ref a] ∧ (∃ xs, SqL K H1 a xs) ∧ R (Ite K a) H1
theorem pi_enum {X : Cx} {elts : List Expr} {x1 : Nat} {tp : Pos} {a : Expr} {ta : TA} {p pos : Pos} (hg : Gl X "enumerate") (hm : X.mg "enumerate" = none) (ha : PA X [a] ta) (hs : starEach [a] X.env = [(false, eval a X.env)] := by rfl) : PI X (.Tuple elts x1 tp) (.Call (.Name "enumerate" p) [a] [] pos) (iEnum X.K ta) := by
  intro pins s σ H R I h
  refine Call_ (ld_blt I hg hm boot_enumerate (PyProof.Rows.callWith_type1 (thn (ha pos pins s σ H _ I h) fun us s1 ⟨vs, H1, I1, r1, q1⟩ => ?_) hs rfl))
  obtain ⟨l, e, ⟨xs, hq⟩, q⟩ := q1
  subst e
  cases r1 with
  | cons r rr =>
    cases rr
    cases r
    obtain ⟨its, rv, pl, hz⟩ := I1.list hq
    refine call_enumerate_list pl.isList fun h' he hit hz' hk => wpAny_pyIter_enum he ?_
    have hn : s1.heap.objs.size ≤ s1.heap.objs.size + 1 := Nat.le_succ _
    refine ⟨s1.heap.objs.size + 1, [s1.heap.objs.size + 1, s1.heap.objs.size], _, _, H1, rfl, I1.kept (t' := s1.toks) hk, turn_enum l _ _ (Nat.ne_of_gt (Nat.lt_succ_self _)), ⟨⟨_, he⟩, hit⟩, fun b hb => ?_, q⟩
    rcases List.mem_cons.mp hb with z | z
    · subst z; exact I1.fpOk hn (I1.hok.fresh hn)
    · have z' : b = s1.heap.objs.size := by simpa using z
      subst z'; exact I1.fpOk (Nat.le_refl _) (I1.hok.fresh (Nat.le_refl _))
theorem for_enum {K : PySem.W.Frag} {a : Addr} {xs : List V} {g : TG} {tb : TS} {D : Ends} {σ : St} {H : Hp} (Pv : Nat → St → Hp → Prop) (h0 : Pv 0 σ H) (hl : ∀ i σ H, i ≤ xs.length → Pv i σ H → SqL K H a xs)
    (hs : ∀ i x σ H p, xs[i]? = some x → Pv i σ H → H p = none → g (.ref p) σ (upd H p (.tup [.int i, x])) fun σ2 H2 => tb { D with nx := Pv (i + 1), ct := Pv (i + 1), bk := D.nx } σ2 H2) (hd : ∀ σ H, Pv xs.length σ H → D.nx σ H) :
    ∃ W : Nat → Nat → St → Hp → Prop, (∃ m, W 0 m σ H) ∧ ∀ i m σ H, W i m σ H →
      ((Ite K a).stop i H ∧ D.nx σ H) ∨ ((Ite K a).go i H ∧ ∃ N : St → Hp → Prop, (∀ σ' H', N σ' H' → ∃ m', m' < m ∧ W (i + 1) m' σ' H') ∧ ∀ x H', (Ite K a).yld i H x H' → g x σ H' fun σ2 H2 => tb { D with nx := N, ct := N, bk := D.nx } σ2 H2) := by
  refine ⟨fun i m σ H => m = xs.length - i ∧ i ≤ xs.length ∧ Pv i σ H, ⟨xs.length, by simp, Nat.zero_le _, h0⟩, ?_⟩
  rintro i m σ H ⟨rfl, hi, p⟩
  have q := hl i σ H hi p
  by_cases hlt : i < xs.length
  · refine .inr ⟨⟨xs, xs[i], q, by simp [hlt]⟩, Pv (i + 1), fun σ' H' p' => ⟨xs.length - (i + 1), by omega, rfl, hlt, p'⟩, fun x H' y => ?_⟩
    obtain ⟨b, v, hn, hv, ex, e⟩ := y
    subst e ex
    exact hs i v σ _ b (hv xs q) p hn
  · have e : i = xs.length := by omega
    subst e
    exact .inl ⟨⟨xs, q, Nat.le_refl _⟩, hd σ H p⟩
end L2
namespace STab
open PySem
def Up (xs : Array Nat) : Prop := ∀ (i k v u : Nat), xs[i]? = some v → xs[k]? = some u → i < k → v < u
theorem up_inj {xs : Array Nat} (h : Up xs) {i k v : Nat} (hi : xs[i]? = some v) (hk : xs[k]? = some v) : i = k := by
  rcases Nat.lt_trichotomy i k with c | c | c
  · exact absurd (h i k v v hi hk c) (Nat.lt_irrefl _)
  · exact c
  · exact absurd (h k i v v hk hi c) (Nat.lt_irrefl _)
theorem arr_some {xs : Array Nat} {i : Nat} (h : i < xs.size) : xs[i]? = some (xs.getD i 0) := by
  rw [Array.getD_eq_getD_getElem?, Array.getElem?_eq_getElem h]; rfl
theorem below_go {xs : Array Nat} {j : Nat} (hr : Up xs) : ∀ (fuel lo hi : Nat), lo ≤ hi → hi ≤ xs.size → hi - lo ≤ fuel → (∀ i v, xs[i]? = some v → i < lo → v < j) → (∀ i v, xs[i]? = some v → hi ≤ i → j ≤ v) →
    SetTable.below.go xs j fuel lo hi ≤ xs.size ∧ (∀ i v, xs[i]? = some v → i < SetTable.below.go xs j fuel lo hi → v < j) ∧ (∀ i v, xs[i]? = some v → SetTable.below.go xs j fuel lo hi ≤ i → j ≤ v)
  | 0, lo, hi, h1, h2, h3, a, b => by
    have e : lo = hi := by omega
    subst e
    exact ⟨h2, a, b⟩
  | fuel + 1, lo, hi, h1, h2, h3, a, b => by
    unfold SetTable.below.go
    by_cases c : lo < hi
    · rw [if_pos c]
      have hm : (lo + hi) / 2 < xs.size := by omega
      obtain ⟨v, hv⟩ : ∃ v, xs[(lo + hi) / 2]? = some v := ⟨_, arr_some hm⟩
      have eg : xs.getD ((lo + hi) / 2) j = v := by rw [Array.getD_eq_getD_getElem?, hv]; rfl
      dsimp only
      rw [eg]
      by_cases d : v < j
      · rw [if_pos d]
        refine below_go hr fuel _ _ (by omega) h2 (by omega) (fun i u hi' hl => ?_) b
        rcases Nat.lt_or_ge i ((lo + hi) / 2) with q | q
        · have := hr i _ u v hi' hv q; omega
        · have : i = (lo + hi) / 2 := by omega
          subst this
          rw [hv] at hi'; cases hi'; exact d
      · rw [if_neg d]
        refine below_go hr fuel _ _ (by omega) (by omega) (by omega) a (fun i u hi' hl => ?_)
        rcases Nat.lt_or_ge ((lo + hi) / 2) i with q | q
        · have := hr _ i v u hv hi' q; omega
        · have : i = (lo + hi) / 2 := by omega
          subst this
          rw [hv] at hi'; cases hi'; omega
    · rw [if_neg c]
      have e : lo = hi := by omega
      subst e
      exact ⟨h2, a, b⟩
theorem below_spec {xs : Array Nat} {j : Nat} (hr : Up xs) : SetTable.below xs j ≤ xs.size ∧ (∀ i v, xs[i]? = some v → i < SetTable.below xs j → v < j) ∧ (∀ i v, xs[i]? = some v → SetTable.below xs j ≤ i → j ≤ v) :=
  below_go hr xs.size 0 xs.size (Nat.zero_le _) (Nat.le_refl _) (by omega) (fun i v _ h => absurd h (Nat.not_lt_zero _)) (fun i v h q => by
    have := (Array.getElem?_eq_some_iff.mp h).1
    omega)
def In (xs : Array Nat) (j : Nat) : Prop := ∃ i : Nat, xs[i]? = some j
theorem below_at {xs : Array Nat} {j i : Nat} (hr : Up xs) (h : xs[i]? = some j) : SetTable.below xs j = i := by
  obtain ⟨h1, h2, h3⟩ := below_spec (j := j) hr
  rcases Nat.lt_trichotomy (SetTable.below xs j) i with c | c | c
  · have hs : SetTable.below xs j < xs.size := Nat.lt_trans c (Array.getElem?_eq_some_iff.mp h).1
    have e := arr_some hs
    have q1 := h3 _ _ e (Nat.le_refl _)
    have q2 := hr _ _ _ _ e h c
    omega
  · exact c
  · exact absurd (h2 i j h c) (Nat.lt_irrefl _)
theorem slot_out {t : SetTable} {j : Nat} (hd : t.dummies = #[]) (h : ¬ In t.place j) : t.slot j = .empty := by
  unfold SetTable.slot
  have e : (t.place[SetTable.below t.place j]? == some j) = false := by
    rw [Bool.eq_false_iff]
    intro q
    exact h ⟨_, by simpa using q⟩
  have e2 : SetTable.has t.dummies j = false := by rw [hd]; unfold SetTable.has; simp
  dsimp only
  rw [e, e2]; rfl
theorem slot_in {t : SetTable} {j i : Nat} (hr : Up t.place) (h : t.place[i]? = some j) : t.slot j = .live i := by
  unfold SetTable.slot
  dsimp only
  rw [below_at hr h, h]
  simp
def lp (mask : Nat) : Nat → Nat × Nat → Nat × Nat
  | 0, x => x
  | m + 1, x => lp mask m (SetTable.leap mask x.1 x.2)
theorem lp_add (mask : Nat) : ∀ (a b : Nat) (x : Nat × Nat), lp mask (a + b) x = lp mask b (lp mask a x)
  | 0, b, x => by rw [Nat.zero_add]; rfl
  | a + 1, b, x => by rw [Nat.add_right_comm]; exact lp_add mask a b _
def fI (M : Nat) (x : Nat) : Nat := (x * 5 + 1) % M
def orb (M : Nat) : Nat → Nat → Nat
  | 0, x => x
  | m + 1, x => orb M m (fI M x)
theorem orb_add (M : Nat) : ∀ (a b x : Nat), orb M (a + b) x = orb M b (orb M a x)
  | 0, b, x => by rw [Nat.zero_add]; rfl
  | a + 1, b, x => by rw [Nat.add_right_comm]; exact orb_add M a b _
theorem lp_zero {mask : Nat} : ∀ (m i : Nat), lp mask m (i, 0) = (orb (mask + 1) m i, 0)
  | 0, i => rfl
  | m + 1, i => by
    show lp mask m (SetTable.leap mask i 0) = _
    have e : SetTable.leap mask i 0 = (fI (mask + 1) i, 0) := by
      unfold SetTable.leap fI
      simp
    rw [e, lp_zero m]; rfl
theorem lp_pert {mask : Nat} : ∀ (m : Nat) (x : Nat × Nat), (lp mask m x).2 = x.2 / 32 ^ m
  | 0, x => by simp [lp]
  | m + 1, x => by
    show (lp mask m (SetTable.leap mask x.1 x.2)).2 = _
    rw [lp_pert m]
    show x.2 / 32 / 32 ^ m = _
    rw [Nat.div_div_eq_div_mul, Nat.pow_succ, Nat.mul_comm]
theorem lp_lt {mask : Nat} : ∀ (m : Nat) (x : Nat × Nat), x.1 ≤ mask → (lp mask m x).1 ≤ mask
  | 0, x, h => h
  | m + 1, x, h => lp_lt m _ (Nat.le_of_lt_succ (Nat.mod_lt _ (Nat.succ_pos _)))
def M3 (mask : Nat) : Prop := mask = 7 ∨ mask = 31 ∨ mask = 127
def orbL (M : Nat) : Nat → Nat → List Nat
  | 0, _ => []
  | m + 1, x => x :: orbL M m (fI M x)
theorem mem_orbL {M : Nat} : ∀ {m x y : Nat}, y ∈ orbL M m x → ∃ k, k < m ∧ orb M k x = y
  | 0, x, y, h => by cases h
  | m + 1, x, y, h => by
    rcases List.mem_cons.mp h with e | e
    · exact ⟨0, Nat.succ_pos _, e.symm⟩
    · obtain ⟨k, h1, h2⟩ := mem_orbL e
      exact ⟨k + 1, Nat.succ_lt_succ h1, h2⟩
theorem all_orb {mask : Nat} (h : M3 mask) : orb (mask + 1) (mask + 1) 0 = 0 ∧ ∀ y, y ≤ mask → ∃ k, k < mask + 1 ∧ orb (mask + 1) k 0 = y := by
  have key : ∀ M : Nat, ((List.range M).all fun y => (orbL M M 0).contains y) = true → ∀ y, y < M → ∃ k, k < M ∧ orb M k 0 = y := fun M e y hy => by
    have := List.all_eq_true.mp e y (List.mem_range.mpr hy)
    exact mem_orbL (by simpa using this)
  rcases h with rfl | rfl | rfl
  · exact ⟨by decide +kernel, fun y hy => key 8 (by decide +kernel) y (by omega)⟩
  · exact ⟨by decide +kernel, fun y hy => key 32 (by decide +kernel) y (by omega)⟩
  · exact ⟨by decide +kernel, fun y hy => key 128 (by decide +kernel) y (by omega)⟩
theorem orb_reach {mask : Nat} (h : M3 mask) {x y : Nat} (hx : x ≤ mask) (hy : y ≤ mask) : ∃ k, k ≤ mask ∧ orb (mask + 1) k x = y := by
  obtain ⟨per, all⟩ := all_orb h
  obtain ⟨a, ha, ea⟩ := all x hx
  obtain ⟨b, hb, eb⟩ := all y hy
  by_cases c : a ≤ b
  · refine ⟨b - a, by omega, ?_⟩
    rw [← ea, ← orb_add, show a + (b - a) = b by omega, eb]
  · refine ⟨mask + 1 + b - a, by omega, ?_⟩
    rw [← ea, ← orb_add, show a + (mask + 1 + b - a) = (mask + 1) + b by omega, orb_add, per, eb]
theorem lp_reach {mask : Nat} (h : M3 mask) {x : Nat × Nat} (hx : x.1 ≤ mask) (hp : x.2 < 2 ^ 64) {y : Nat} (hy : y ≤ mask) : ∃ m, m < mask + 14 ∧ (lp mask m x).1 = y := by
  have e0 : (lp mask 13 x).2 = 0 := by
    rw [lp_pert]
    exact Nat.div_eq_of_lt (Nat.lt_trans hp (by decide))
  obtain ⟨k, hk, e⟩ := orb_reach h (lp_lt 13 x hx) hy
  refine ⟨13 + k, by omega, ?_⟩
  rw [lp_add]
  have e1 : lp mask 13 x = ((lp mask 13 x).1, 0) := by rw [← e0]
  rw [e1, lp_zero]; exact e
def adv (t : SetTable) : Nat → SetTable.Probe → SetTable.Probe
  | 0, p => p
  | k + 1, p => adv t k (t.advance p)
theorem adv_add (t : SetTable) : ∀ (a b : Nat) (p : SetTable.Probe), adv t (a + b) p = adv t b (adv t a p)
  | 0, b, p => by rw [Nat.zero_add]; rfl
  | a + 1, b, p => by rw [Nat.add_right_comm]; exact adv_add t a b _
structure At (t : SetTable) (p : SetTable.Probe) (x : Nat × Nat) : Prop where
  j : p.j = x.1
  i : p.i = x.1
  more : p.more = SetTable.runEnd t.mask x.1 - x.1
  pert : p.perturb = x.2
  dm : p.dummy = none
theorem runEnd_le {mask i : Nat} (h : i ≤ mask) : SetTable.runEnd mask i ≤ mask ∧ i ≤ SetTable.runEnd mask i ∧ SetTable.runEnd mask i ≤ i + 9 := by
  unfold SetTable.runEnd
  split <;> omega
theorem adv_run {t : SetTable} : ∀ (n : Nat) (p : SetTable.Probe), p.more = n → p.dummy = none → At t (adv t (n + 1) p) (SetTable.leap t.mask p.i p.perturb)
  | 0, p, h, hd => by
    have e : t.advance p = { p with j := (SetTable.leap t.mask p.i p.perturb).1, more := SetTable.runEnd t.mask (SetTable.leap t.mask p.i p.perturb).1 - (SetTable.leap t.mask p.i p.perturb).1, i := (SetTable.leap t.mask p.i p.perturb).1, perturb := (SetTable.leap t.mask p.i p.perturb).2 } := by
      unfold SetTable.advance
      rw [if_neg (by omega)]
    show At t (t.advance p) _
    rw [e]
    exact ⟨rfl, rfl, rfl, rfl, hd⟩
  | n + 1, p, h, hd => by
    have e : t.advance p = { p with j := p.j + 1, more := p.more - 1 } := by
      unfold SetTable.advance
      rw [if_pos (by omega)]
    show At t (adv t (n + 1) (t.advance p)) _
    rw [e]
    exact adv_run n { p with j := p.j + 1, more := p.more - 1 } (by show p.more - 1 = n; omega) hd
theorem adv_leaps {t : SetTable} : ∀ (m : Nat) (p : SetTable.Probe) (x : Nat × Nat), At t p x → x.1 ≤ t.mask → ∃ k, k ≤ 10 * m ∧ At t (adv t k p) (lp t.mask m x)
  | 0, p, x, h, _ => ⟨0, Nat.le_refl _, h⟩
  | m + 1, p, x, h, hx => by
    have r := runEnd_le hx
    have q := adv_run (t := t) p.more p rfl h.dm
    rw [h.i, h.pert] at q
    obtain ⟨k, hk, a⟩ := adv_leaps m _ _ q (Nat.le_of_lt_succ (Nat.mod_lt _ (Nat.succ_pos _)))
    refine ⟨p.more + 1 + k, ?_, ?_⟩
    · have := h.more; omega
    · rw [adv_add]; exact a
theorem adv_in {t : SetTable} {p : SetTable.Probe} (h : p.j + p.more ≤ t.mask) : (t.advance p).j + (t.advance p).more ≤ t.mask := by
  unfold SetTable.advance
  split
  · show p.j + 1 + (p.more - 1) ≤ t.mask
    omega
  · have l : (SetTable.leap t.mask p.i p.perturb).1 ≤ t.mask := Nat.le_of_lt_succ (Nat.mod_lt _ (Nat.succ_pos _))
    have r := runEnd_le l
    show (SetTable.leap t.mask p.i p.perturb).1 + (SetTable.runEnd t.mask (SetTable.leap t.mask p.i p.perturb).1 - (SetTable.leap t.mask p.i p.perturb).1) ≤ t.mask
    omega
theorem adv_dummy {t : SetTable} {p : SetTable.Probe} (h : p.dummy = none) : (t.advance p).dummy = none := by
  unfold SetTable.advance
  split <;> exact h
theorem probe_go {t : SetTable} {h : Int} (hd : t.dummies = #[]) (hr : Up t.place) : ∀ (fuel : Nat) (p : SetTable.Probe), p.dummy = none → p.j + p.more ≤ t.mask → (∃ k, k < fuel ∧ ¬ In t.place (adv t k p).j) →
    ∃ j, SetTable.probe.go t (fun _ => h + 1) h fuel p = some (.empty j none) ∧ j ≤ t.mask ∧ ¬ In t.place j
  | 0, p, _, _, ⟨k, hk, _⟩ => absurd hk (Nat.not_lt_zero _)
  | fuel + 1, p, hp, hj, ⟨k, hk, hn⟩ => by
    unfold SetTable.probe.go
    by_cases c : In t.place p.j
    · obtain ⟨i, hi⟩ := c
      rw [slot_in hr hi]
      have e : ((h + 1 : Int) == h) = false := by
        rw [beq_eq_false_iff_ne]; omega
      dsimp only
      rw [e]
      refine probe_go hd hr fuel _ (adv_dummy hp) (adv_in hj) ?_
      cases k with
      | zero => exact absurd ⟨i, hi⟩ hn
      | succ k => exact ⟨k, Nat.lt_of_succ_lt_succ hk, hn⟩
    · rw [slot_out hd c]
      exact ⟨p.j, by rw [hp], by omega, c⟩
theorem gap {xs : Array Nat} {mask : Nat} (hr : Up xs) (hs : xs.size ≤ mask) : ∃ y, y ≤ mask ∧ ¬ In xs y := by
  apply Classical.byContradiction
  intro hcon
  have all : ∀ y, y ≤ mask → In xs y := fun y hy => Classical.byContradiction fun q => hcon ⟨y, hy, q⟩
  have l := Gra.length_le_of_subset (l := List.range (mask + 1)) (m := xs.toList) List.nodup_range fun y hy => by
    obtain ⟨i, hi⟩ := all y (by have := List.mem_range.mp hy; omega)
    exact List.mem_of_getElem? (i := i) (by rw [Array.getElem?_toList]; exact hi)
  rw [List.length_range, Array.length_toList] at l
  omega
theorem bits_lt (h : Int) : SetTable.bits h < 2 ^ 64 := by
  unfold SetTable.bits
  omega
theorem free_slot {t : SetTable} {h : Int} (hd : t.dummies = #[]) (hr : Up t.place) (hm : M3 t.mask) (hs : t.place.size ≤ t.mask) : ∃ j, t.freeSlot h = some (j, false) ∧ j ≤ t.mask ∧ ¬ In t.place j := by
  obtain ⟨y, hy, hn⟩ := gap hr hs
  have hi : SetTable.bits h % (t.mask + 1) ≤ t.mask := Nat.le_of_lt_succ (Nat.mod_lt _ (Nat.succ_pos _))
  have a0 : At t (t.probeStart h) (SetTable.bits h % (t.mask + 1), SetTable.bits h) := ⟨rfl, rfl, rfl, rfl, rfl⟩
  obtain ⟨m, hm1, e⟩ := lp_reach hm (x := (SetTable.bits h % (t.mask + 1), SetTable.bits h)) hi (bits_lt h) hy
  obtain ⟨k, hk, a⟩ := adv_leaps m _ _ a0 hi
  have r := runEnd_le hi
  obtain ⟨j, e1, e2, e3⟩ := probe_go (h := h) hd hr (10 * SetTable.turns t.mask) (t.probeStart h) rfl (by show SetTable.bits h % (t.mask + 1) + (SetTable.runEnd t.mask (SetTable.bits h % (t.mask + 1)) - SetTable.bits h % (t.mask + 1)) ≤ t.mask; omega)
    ⟨k, by unfold SetTable.turns; omega, by rw [a.j, e]; exact hn⟩
  refine ⟨j, ?_, e2, e3⟩
  unfold SetTable.freeSlot SetTable.probe
  rw [e1]; rfl
end STab
namespace STab
open PySem
theorem insertAt_list {α : Type} (xs : Array α) (p : Nat) (x : α) : (SetTable.insertAt xs p x).toList = xs.toList.take p ++ x :: xs.toList.drop p := by
  unfold SetTable.insertAt
  simp [Array.toList_extract, List.extract_eq_drop_take, List.take_of_length_le]
theorem insertAt_get {α : Type} {xs : Array α} {p : Nat} (x : α) (hp : p ≤ xs.size) (i : Nat) : (SetTable.insertAt xs p x)[i]? = if i < p then xs[i]? else if i = p then some x else xs[i - 1]? := by
  have hl : (xs.toList.take p).length = p := by rw [List.length_take, Array.length_toList]; omega
  rw [← Array.getElem?_toList, insertAt_list]
  by_cases c : i < p
  · rw [if_pos c, List.getElem?_append_left (by omega), List.getElem?_take, if_pos c, Array.getElem?_toList]
  · rw [if_neg c, List.getElem?_append_right (by omega), hl]
    by_cases d : i = p
    · rw [if_pos d, d, Nat.sub_self]; rfl
    · rw [if_neg d]
      obtain ⟨k, hk⟩ : ∃ k, i - p = k + 1 := ⟨i - p - 1, by omega⟩
      rw [hk, List.getElem?_cons_succ, List.getElem?_drop, show p + k = i - 1 by omega, Array.getElem?_toList]
theorem insertAt_size {α : Type} {xs : Array α} {p : Nat} (x : α) (hp : p ≤ xs.size) : (SetTable.insertAt xs p x).size = xs.size + 1 := by
  rw [← Array.length_toList, insertAt_list, List.length_append, List.length_cons, List.length_take, List.length_drop, Array.length_toList]; omega
structure Tab (b : Bool) (t : SetTable) (n : Nat) : Prop where
  dm : t.dummies = #[]
  up : Up t.place
  le : ∀ j, In t.place j → j ≤ t.mask
  sz : t.place.size = n
  m3 : M3 t.mask
  room : n ≤ t.mask
  plain : t.plain = true
  led : t.led = b
theorem Tab.fits {b : Bool} {t : SetTable} {n : Nat} (T : Tab b t n) : t.fits n = true := by
  unfold SetTable.fits SetTable.fill
  rw [T.dm, T.sz]
  have := T.room
  simp [this]
theorem Tab.put {b : Bool} {t : SetTable} {n j : Nat} (T : Tab b t n) (hj : j ≤ t.mask) (hn : ¬ In t.place j) (hr : n + 1 ≤ t.mask) : Tab b (t.put j).1 (n + 1) ∧ (t.put j).1.mask = t.mask ∧ (t.put j).2 ≤ n := by
  have hb := below_spec (j := j) T.up
  have hd : SetTable.has t.dummies j = false := by rw [T.dm]; unfold SetTable.has; simp
  have e : (t.put j).1 = { t with place := SetTable.insertAt t.place (SetTable.below t.place j) j } := by
    unfold SetTable.put
    rw [hd]; rfl
  have e2 : (t.put j).2 = SetTable.below t.place j := rfl
  rw [e, e2]
  refine ⟨⟨T.dm, fun i k v u hi hk hlt => ?_, fun y ⟨i, hi⟩ => ?_, ?_, T.m3, hr, T.plain, T.led⟩, rfl, by rw [← T.sz]; exact hb.1⟩
  · have hi' : (SetTable.insertAt t.place (SetTable.below t.place j) j)[i]? = some v := hi
    have hk' : (SetTable.insertAt t.place (SetTable.below t.place j) j)[k]? = some u := hk
    rw [insertAt_get _ hb.1] at hi' hk'
    by_cases c1 : i < SetTable.below t.place j
    · rw [if_pos c1] at hi'
      by_cases c2 : k < SetTable.below t.place j
      · rw [if_pos c2] at hk'
        exact T.up _ _ _ _ hi' hk' hlt
      · rw [if_neg c2] at hk'
        by_cases c3 : k = SetTable.below t.place j
        · rw [if_pos c3] at hk'
          cases hk'
          exact hb.2.1 _ _ hi' c1
        · rw [if_neg c3] at hk'
          exact T.up _ _ _ _ hi' hk' (by omega)
    · rw [if_neg c1] at hi'
      by_cases c2 : i = SetTable.below t.place j
      · rw [if_pos c2] at hi'
        cases hi'
        rw [if_neg (by omega), if_neg (by omega)] at hk'
        have q := hb.2.2 _ _ hk' (by omega)
        rcases Nat.lt_or_ge j u with c | c
        · exact c
        · have : u = j := by omega
          subst this
          exact absurd ⟨_, hk'⟩ hn
      · rw [if_neg c2] at hi'
        rw [if_neg (by omega), if_neg (by omega)] at hk'
        exact T.up _ _ _ _ hi' hk' (by omega)
  · have hi' : (SetTable.insertAt t.place (SetTable.below t.place j) j)[i]? = some y := hi
    rw [insertAt_get _ hb.1] at hi'
    show y ≤ t.mask
    split at hi'
    · exact T.le y ⟨_, hi'⟩
    · split at hi'
      · cases hi'; exact hj
      · exact T.le y ⟨_, hi'⟩
  · show (SetTable.insertAt t.place (SetTable.below t.place j) j).size = n + 1
    rw [insertAt_size _ hb.1, T.sz]
theorem lay_new {b : Bool} {t : SetTable} {n : Nat} {es : Array (Int × Value)} (T : Tab b t n) (hes : es.size = n) (hr : n + 1 ≤ t.mask) (h : Int) (x : Value) :
    ∃ es' t', layNew t es h x = (es', t', false, false) ∧ Tab b t' (n + 1) ∧ t'.mask = t.mask ∧ es'.size = n + 1 ∧ es'.toList.Perm ((h, x) :: es.toList) := by
  obtain ⟨j, e, hj, hn⟩ := free_slot (h := h) T.dm T.up T.m3 (by rw [T.sz]; exact T.room)
  obtain ⟨T', hm, hp⟩ := T.put hj hn hr
  have hs : (SetTable.insertAt es (t.put j).2 (h, x)).size = n + 1 := by rw [insertAt_size _ (by rw [hes]; exact hp), hes]
  refine ⟨SetTable.insertAt es (t.put j).2 (h, x), (t.put j).1, ?_, T', hm, hs, ?_⟩
  · unfold layNew
    rw [e]
    show (SetTable.insertAt es (t.put j).2 (h, x), (t.put j).1.orStandIn (SetTable.insertAt es (t.put j).2 (h, x)).size, false, !(t.put j).1.fits (SetTable.insertAt es (t.put j).2 (h, x)).size) = _
    unfold SetTable.orStandIn
    rw [hs, T'.fits, if_pos rfl]; rfl
  · rw [insertAt_list]
    refine (List.perm_middle).trans (List.Perm.cons _ ?_)
    rw [List.take_append_drop]
def Own (mask : Nat) (owner : Array (Option Nat)) (k : Nat) : Prop := owner.size = mask + 1 ∧ ((List.range (mask + 1)).filterMap fun j => owner.getD j none).Perm (List.range k)
theorem getD_two {owner : Array (Option Nat)} {j : Nat} (h : j < owner.size) (d : Option Nat) : owner.getD j d = owner.getD j none := by
  rw [Array.getD_eq_getD_getElem?, Array.getD_eq_getD_getElem?, Array.getElem?_eq_getElem h]; rfl
theorem fm_len {α β : Type} {f : α → Option β} : ∀ {l : List α}, (∀ x ∈ l, (f x).isSome) → (l.filterMap f).length = l.length
  | [], _ => rfl
  | a :: l, h => by
    obtain ⟨y, hy⟩ := Option.isSome_iff_exists.mp (h a List.mem_cons_self)
    rw [List.filterMap_cons_some hy, List.length_cons, List.length_cons, fm_len fun x hx => h x (List.mem_cons_of_mem _ hx)]
theorem Own.gap {mask : Nat} {owner : Array (Option Nat)} {k : Nat} (o : Own mask owner k) (hk : k ≤ mask) : ∃ y, y ≤ mask ∧ owner.getD y none = none := by
  apply Classical.byContradiction
  intro hcon
  have l := fm_len (f := fun j => owner.getD j none) (l := List.range (mask + 1)) fun y hy => by
    cases e : owner.getD y none with
    | some v => rfl
    | none => exact absurd ⟨y, by have := List.mem_range.mp hy; omega, e⟩ hcon
  have p := o.2.length_eq
  rw [l, List.length_range, List.length_range] at p
  omega
theorem free_ok {mask : Nat} {owner : Array (Option Nat)} (hs : owner.size = mask + 1) : ∀ (fuel i pert : Nat), i ≤ mask → (∃ m, m < fuel ∧ owner.getD (lp mask m (i, pert)).1 none = none) →
    ∃ j, SetTable.layClean.free mask owner fuel i pert = some j ∧ j ≤ mask ∧ owner.getD j none = none
  | 0, i, pert, _, ⟨m, hm, _⟩ => absurd hm (Nat.not_lt_zero _)
  | fuel + 1, i, pert, hi, ⟨m, hm, e⟩ => by
    have r := runEnd_le hi
    unfold SetTable.layClean.free
    cases hf : (List.range (SetTable.runEnd mask i + 1 - i)).find? fun k => (owner.getD (i + k) (some 0)).isNone with
    | some k =>
      have h1 := List.find?_some hf
      have h2 := List.mem_range.mp (List.mem_of_find?_eq_some hf)
      refine ⟨i + k, rfl, by omega, ?_⟩
      rw [← getD_two (by omega) (some 0)]
      exact Option.isNone_iff_eq_none.mp h1
    | none =>
      have h1 := List.find?_eq_none.mp hf 0 (List.mem_range.mpr (by omega))
      cases m with
      | zero =>
        refine absurd ?_ h1
        have e' : owner.getD i none = none := e
        show (owner.getD (i + 0) (some 0)).isNone = true
        rw [Nat.add_zero, getD_two (by omega), e']; rfl
      | succ m =>
        exact free_ok hs fuel _ _ (Nat.le_of_lt_succ (Nat.mod_lt _ (Nat.succ_pos _))) ⟨m, Nat.lt_of_succ_lt_succ hm, e⟩
theorem fm_congr {α β : Type} {f g : α → Option β} {l : List α} (h : ∀ x ∈ l, f x = g x) : l.filterMap f = l.filterMap g := by
  induction l with
  | nil => rfl
  | cons a l ih =>
    rw [List.filterMap_cons, List.filterMap_cons, h a List.mem_cons_self, ih fun x hx => h x (List.mem_cons_of_mem _ hx)]
theorem getD_set {owner : Array (Option Nat)} {j k y : Nat} (hj : j < owner.size) : (owner.setIfInBounds j (some k)).getD y none = if y = j then some k else owner.getD y none := by
  rw [Array.getD_eq_getD_getElem?, Array.getD_eq_getD_getElem?, Array.getElem?_setIfInBounds]
  by_cases c : j = y
  · rw [if_pos c, if_pos c.symm, if_pos (c ▸ hj)]; rfl
  · rw [if_neg c, if_neg (Ne.symm c)]
theorem Own.set {mask : Nat} {owner : Array (Option Nat)} {k j : Nat} (o : Own mask owner k) (hj : j ≤ mask) (hn : owner.getD j none = none) : Own mask (owner.setIfInBounds j (some k)) (k + 1) := by
  refine ⟨by rw [Array.size_setIfInBounds]; exact o.1, ?_⟩
  have hs : j < owner.size := by rw [o.1]; omega
  have split : List.range (mask + 1) = List.range j ++ j :: (List.range (mask - j)).map (fun i => j + 1 + i) := by
    rw [show mask + 1 = j + (1 + (mask - j)) by omega, List.range_add, List.range_add]
    congr 1
    rw [List.map_append, List.map_map]
    show (j + 0) :: List.map ((fun x => j + x) ∘ fun x => 1 + x) (List.range (mask - j)) = _
    rw [Nat.add_zero]
    congr 1
    refine List.map_congr_left fun x _ => ?_
    show j + (1 + x) = j + 1 + x
    omega
  have h2 := o.2
  rw [split, List.filterMap_append, List.filterMap_cons_none (f := fun y => owner.getD y none) hn] at h2
  have a1 : (List.range j).filterMap (fun y => (owner.setIfInBounds j (some k)).getD y none) = (List.range j).filterMap fun y => owner.getD y none := fm_congr fun y hy => by
    have := List.mem_range.mp hy
    rw [getD_set hs, if_neg (by omega)]
  have a2 : ((List.range (mask - j)).map (fun i => j + 1 + i)).filterMap (fun y => (owner.setIfInBounds j (some k)).getD y none) = ((List.range (mask - j)).map (fun i => j + 1 + i)).filterMap fun y => owner.getD y none := fm_congr fun y hy => by
    obtain ⟨i, _, rfl⟩ := List.mem_map.mp hy
    rw [getD_set hs, if_neg (by omega)]
  have a3 : (owner.setIfInBounds j (some k)).getD j none = some k := by rw [getD_set hs, if_pos rfl]
  rw [split, List.filterMap_append, List.filterMap_cons_some (f := fun y => (owner.setIfInBounds j (some k)).getD y none) a3, a1, a2, List.range_succ]
  refine (List.perm_middle).trans ?_
  exact ((List.Perm.cons k h2)).trans (List.perm_append_comm (l₁ := [k]))
def stepL (mask : Nat) (acc : Option (Array (Option Nat) × Nat)) (h : Int) : Option (Array (Option Nat) × Nat) := do
  let (owner, k) ← acc
  let j ← SetTable.layClean.free mask owner (SetTable.turns mask) (SetTable.bits h % (mask + 1)) (SetTable.bits h)
  pure (owner.setIfInBounds j (some k), k + 1)
theorem step_ok {mask : Nat} (hm : M3 mask) {owner : Array (Option Nat)} {k : Nat} (o : Own mask owner k) (hk : k ≤ mask) (h : Int) : ∃ owner', stepL mask (some (owner, k)) h = some (owner', k + 1) ∧ Own mask owner' (k + 1) := by
  obtain ⟨y, hy, hn⟩ := o.gap hk
  have hi : SetTable.bits h % (mask + 1) ≤ mask := Nat.le_of_lt_succ (Nat.mod_lt _ (Nat.succ_pos _))
  obtain ⟨m, hm1, e⟩ := lp_reach hm (x := (SetTable.bits h % (mask + 1), SetTable.bits h)) hi (bits_lt h) hy
  obtain ⟨j, e1, e2, e3⟩ := free_ok o.1 (SetTable.turns mask) (SetTable.bits h % (mask + 1)) (SetTable.bits h) hi ⟨m, by unfold SetTable.turns; omega, by rw [e]; exact hn⟩
  refine ⟨owner.setIfInBounds j (some k), ?_, o.set e2 e3⟩
  unfold stepL
  simp only [Option.bind_eq_bind, Option.bind_some, e1]
  rfl
theorem fold_ok {mask : Nat} (hm : M3 mask) : ∀ (hs : List Int) (owner : Array (Option Nat)) (k : Nat), Own mask owner k → k + hs.length ≤ mask → ∃ owner', hs.foldl (stepL mask) (some (owner, k)) = some (owner', k + hs.length) ∧ Own mask owner' (k + hs.length)
  | [], owner, k, o, _ => ⟨owner, rfl, o⟩
  | h :: hs, owner, k, o, hk => by
    rw [List.length_cons] at hk
    obtain ⟨o1, e1, O1⟩ := step_ok hm o (by omega) h
    obtain ⟨o2, e2, O2⟩ := fold_ok hm hs o1 (k + 1) O1 (by omega)
    refine ⟨o2, ?_, ?_⟩
    · rw [List.foldl_cons, e1, e2, List.length_cons]
      congr 2; omega
    · rw [List.length_cons, show k + (hs.length + 1) = k + 1 + hs.length by omega]; exact O2
theorem own0 (mask : Nat) : Own mask (Array.replicate (mask + 1) none) 0 := by
  refine ⟨Array.size_replicate .., ?_⟩
  have e : (List.range (mask + 1)).filterMap (fun j => (Array.replicate (mask + 1) (none : Option Nat)).getD j none) = [] := by
    rw [List.filterMap_eq_nil_iff]
    intro j hj
    rw [Array.getD_eq_getD_getElem?, Array.getElem?_replicate]
    split <;> rfl
  rw [e]; exact .nil
theorem clean_ok {mask : Nat} (hm : M3 mask) (hs : Array Int) (hk : hs.size ≤ mask) : ∃ owner, SetTable.layClean mask hs = some owner ∧ Own mask owner hs.size := by
  obtain ⟨o, e, O⟩ := fold_ok hm hs.toList _ 0 (own0 mask) (by rw [Array.length_toList]; omega)
  rw [Array.length_toList, Nat.zero_add] at e O
  refine ⟨o, ?_, O⟩
  unfold SetTable.layClean
  rw [← Array.foldl_toList]
  have : hs.toList.foldl (stepL mask) (some (Array.replicate (mask + 1) none, 0)) = some (o, hs.size) := e
  show (Option.map (·.1) (hs.toList.foldl (stepL mask) (some (Array.replicate (mask + 1) none, 0)))) = some o
  rw [this]; rfl
theorem live_fst {owner : Array (Option Nat)} : ∀ (l : List Nat), (l.filterMap fun j => (owner.getD j none).map (j, ·)).map (·.1) = l.filter fun j => (owner.getD j none).isSome
  | [] => rfl
  | a :: l => by
    rw [List.filterMap_cons, List.filter_cons]
    cases e : owner.getD a none with
    | none => exact live_fst l
    | some v =>
      rw [Option.map_some]
      show a :: _ = _
      rw [Option.isSome_some, if_pos rfl, live_fst l]
theorem live_snd {owner : Array (Option Nat)} : ∀ (l : List Nat), (l.filterMap fun j => (owner.getD j none).map (j, ·)).map (·.2) = l.filterMap fun j => owner.getD j none
  | [] => rfl
  | a :: l => by
    rw [List.filterMap_cons, List.filterMap_cons]
    cases e : owner.getD a none with
    | none => exact live_snd l
    | some v =>
      rw [Option.map_some]
      show v :: _ = v :: _
      rw [live_snd l]
theorem up_of_pairwise {l : List Nat} (h : l.Pairwise (· < ·)) : Up l.toArray := by
  intro i k v u hi hk hlt
  rw [List.getElem?_toArray] at hi hk
  obtain ⟨a1, a2⟩ := List.getElem?_eq_some_iff.mp hi
  obtain ⟨b1, b2⟩ := List.getElem?_eq_some_iff.mp hk
  have := List.pairwise_iff_getElem.mp h i k a1 b1 hlt
  rw [a2, b2] at this
  exact this
theorem relay_ok {b : Bool} {t : SetTable} {n : Nat} {es : Array (Int × Value)} (T : Tab b t n) (hes : es.size = n) (wanted : Nat) (hm : M3 (SetTable.sizeAbove wanted - 1)) (hn : n ≤ SetTable.sizeAbove wanted - 1) :
    ∃ es' t', relayAll t es wanted = (es', t', false) ∧ Tab b t' n ∧ t'.mask = SetTable.sizeAbove wanted - 1 ∧ es'.size = n ∧ es'.toList.Perm es.toList := by
  obtain ⟨owner, e, O⟩ := clean_ok hm (es.map (·.1)) (by rw [Array.size_map, hes]; exact hn)
  rw [Array.size_map, hes] at O
  generalize hM : SetTable.sizeAbove wanted - 1 = mask at hm hn e O ⊢
  have e1 : t.relaid (es.map (·.1)) wanted = some ({ mask := mask, place := (((List.range (mask + 1)).filterMap fun j => (owner.getD j none).map (j, ·)).map (·.1)).toArray, dummies := #[], finger := t.finger, led := t.led, moves := t.movedTo mask, plain := t.plain },
      (((List.range (mask + 1)).filterMap fun j => (owner.getD j none).map (j, ·)).map (·.2)).toArray) := by
    unfold SetTable.relaid SetTable.laid
    rw [hM]
    simp only [Option.bind_eq_bind, e, Option.bind_some]
    rfl
  have hp : (((List.range (mask + 1)).filterMap fun j => (owner.getD j none).map (j, ·)).map (·.2)).Perm (List.range n) := by rw [live_snd]; exact O.2
  have hlen : ((List.range (mask + 1)).filterMap fun j => (owner.getD j none).map (j, ·)).length = n := by
    have := hp.length_eq
    rwa [List.length_map, List.length_range] at this
  have T' : Tab b { mask := mask, place := (((List.range (mask + 1)).filterMap fun j => (owner.getD j none).map (j, ·)).map (·.1)).toArray, dummies := #[], finger := t.finger, led := t.led, moves := t.movedTo mask, plain := t.plain } n := by
    refine ⟨rfl, ?_, fun j ⟨i, hi⟩ => ?_, ?_, hm, hn, T.plain, T.led⟩
    · show Up _
      rw [live_fst]
      exact up_of_pairwise (List.Pairwise.filter _ List.pairwise_lt_range)
    · have hi' : (((List.range (mask + 1)).filterMap fun j => (owner.getD j none).map (j, ·)).map (·.1)).toArray[i]? = some j := hi
      rw [live_fst, List.getElem?_toArray] at hi'
      have := (List.mem_filter.mp (List.mem_of_getElem? hi')).1
      show j ≤ mask
      exact Nat.le_of_lt_succ (List.mem_range.mp this)
    · show Array.size _ = n
      rw [List.size_toArray, List.length_map]; exact hlen
  have hfm : ((((List.range (mask + 1)).filterMap fun j => (owner.getD j none).map (j, ·)).map (·.2)).toArray.filterMap (es[·]?)).size = n := by
    rw [← Array.length_toList, Array.toList_filterMap, fm_len, List.length_map]
    · exact hlen
    · intro y hy
      have hy' := List.mem_range.mp (hp.mem_iff.mp hy)
      rw [Array.getElem?_eq_getElem (by omega)]; rfl
  have e2 : relayAll t es wanted = ((((List.range (mask + 1)).filterMap fun j => (owner.getD j none).map (j, ·)).map (·.2)).toArray.filterMap (es[·]?), { mask := mask, place := (((List.range (mask + 1)).filterMap fun j => (owner.getD j none).map (j, ·)).map (·.1)).toArray, dummies := #[], finger := t.finger, led := t.led, moves := t.movedTo mask, plain := t.plain }, false) := by
    unfold relayAll
    rw [e1]
    dsimp only
    rw [hfm, T'.fits]
    have hc : coversAll ((((List.range (mask + 1)).filterMap fun j => (owner.getD j none).map (j, ·)).map (·.2)).toArray) es.size = true := by
      unfold coversAll
      rw [hes]
      exact List.isPerm_iff.mpr hp
    rw [hc]; rfl
  have hperm := relayAll_perm t es wanted
  rw [e2] at hperm
  exact ⟨_, _, e2, T', rfl, hfm, hperm⟩
end STab
namespace L2
open PySem PySem.Spec PyProof.Rows STab
def byT (w : World) : Bool := w.params.followText "set-order"
def keyI : Value → Int
  | .int k _ => k
  | _ => 0
theorem keyI_of {P : Program} {w : World} {k : Int} {v : Value} (h : (intKind P w).is k v = true) : keyI v = k := by
  obtain ⟨t, rfl⟩ := Value.isInt_shape (k := k) (v := v) h
  rfl
def SetI (P : Program) (w : World) (h : Heap) (a : Addr) (ks : List Int) : Prop := ∃ (o : Obj) (es : Array (Int × Value)) (ep : Nat) (t : SetTable), h.get? a = some o ∧ o.ExactSet ∧ o.data = .set es ep t ∧ ElemsOf (intKind P w) es.toList ∧
  (es.toList.map fun e => keyI e.2).Perm ks ∧ Tab (!byT w) t es.size ∧ es.size * 5 < t.mask * 3
theorem SetI.stay {P : Program} {w : World} {h h' : Heap} {a : Addr} {ks : List Int} (x : SetI P w h a ks) (k : ∀ o, h.get? a = some o → h'.get? a = some o) : SetI P w h' a ks := by
  obtain ⟨o, es, ep, t, ho, r⟩ := x
  exact ⟨o, es, ep, t, k o ho, r⟩
def addK (ks : List Int) (k : Int) : List Int := if k ∈ ks then ks else ks ++ [k]
section
variable {P : Program} {w : World} {A : Around} {E : Value → Shared → Prop} {s : Shared}
theorem found_mem {es : Array (Int × Value)} {k : Int} (hel : ElemsOf (intKind P w) es.toList) : (∃ e ∈ es.toList, (intKind P w).is k e.2 = true) ↔ k ∈ es.toList.map fun e => keyI e.2 := by
  constructor
  · rintro ⟨e, he, q⟩
    exact List.mem_map.mpr ⟨e, he, keyI_of q⟩
  · intro m
    obtain ⟨e, he, rfl⟩ := List.mem_map.mp m
    obtain ⟨⟨k', hk', _⟩, _⟩ := hel e he
    exact ⟨e, he, by rw [keyI_of hk']; exact hk'⟩
theorem store_at {h : Heap} {a : Addr} {o : Obj} {es es' : Array (Int × Value)} {ep : Nat} {t t' : SetTable} (ho : h.get? a = some o) (hd : o.data = .set es ep t) : (h.update a (Obj.putSet es' t')).get? a = some { o with data := .set es' (ep + 1) t' } := by
  have q := Heap.get?_update_self (Obj.putSet es' t') ho (by rw [putSet_of es' t' hd]; rfl)
  rwa [putSet_of es' t' hd] at q
theorem add_int {a : Addr} {ks : List Int} {k : Int} {tk : Nat} {Q : Bool → Shared → Prop} (hI : SetI P w s.heap a ks) (hl : ks.length ≤ 75) (h : ∀ h' b, Heap.SameBut a s.heap h' → SetI P w h' a (addK ks k) → Q b { s with heap := h' }) :
    wpAny (model P w) A (setAddHashed a (.int k tk) ((intKind P w).hash k)) Q E s := by
  obtain ⟨o, es, ep, t, ho, hx, hd, hel, hp, T, hfull⟩ := hI
  have hsz : es.size = ks.length := by rw [← hp.length_eq, List.length_map, Array.length_toList]
  have hf := T.fits
  unfold setAddHashed setAddHashedIn
  refine wpAny_holding (wpAny_bind (wpAny_setState_of ho hd hf ?_))
  have hby : byScan (.int k tk) es = true := byScan_of (knd := intKind P w) rfl (by unfold scanBound; omega) hel
  dsimp only
  rw [hby, if_pos rfl]
  unfold setAddByScan
  refine wpAny_bind (wpAny_bind (wpAny_rule (wpAny_bind (wpAny_setScan_of (knd := intKind P w) (k := k) (intKind_is _ _ _ _) ho hd hf hel ?_))))
  cases hr : List.findIdx? (fun e => (intKind P w).is k e.2) es.toList with
  | some j =>
    obtain ⟨hj, hpj, _⟩ := List.findIdx?_eq_some_iff_getElem.mp hr
    have hin : k ∈ ks := hp.mem_iff.mp ((found_mem hel).mp ⟨_, List.getElem_mem hj, hpj⟩)
    dsimp only
    refine wpAny_pure (wpAny_pure ?_)
    have q := h s.heap false (Heap.SameBut.refl a s.heap) ⟨o, es, ep, t, ho, hx, hd, hel, by unfold addK; rw [if_pos hin]; exact hp, T, hfull⟩
    exact q
  | none =>
    have hout : k ∉ ks := fun m => by
      obtain ⟨e, he, q⟩ := (found_mem (P := P) (w := w) hel).mpr (hp.mem_iff.mpr m)
      have := List.findIdx?_eq_none_iff.mp hr e he
      rw [q] at this
      cases this
    have hmask : es.size + 1 ≤ t.mask := by
      rcases T.m3 with e | e | e <;> omega
    obtain ⟨es1, t1, e1, T1, m1, z1, p1⟩ := lay_new T rfl hmask ((intKind P w).hash k) (.int k tk)
    have hel1 : ElemsOf (intKind P w) es1.toList := fun e he => by
      rcases List.mem_cons.mp (p1.mem_iff.mp he) with q | q
      · rw [q]; exact ⟨⟨k, intKind_is _ _ _ _, rfl⟩, rfl⟩
      · exact hel e q
    have hp1 : (es1.toList.map fun e => keyI e.2).Perm (addK ks k) := by
      unfold addK
      rw [if_neg hout]
      refine (p1.map _).trans ?_
      rw [List.map_cons]
      exact (List.Perm.cons k hp).trans (List.perm_append_comm (l₁ := [k]))
    dsimp only
    rw [e1]
    dsimp only
    refine wpAny_bind (wpAny_pure ?_)
    rw [T1.plain, if_pos rfl]
    refine wpAny_bind (wpAny_pure ?_)
    try dsimp only
    rw [if_pos rfl]
    refine wpAny_bind (wpAny_storeSet_of ho hd ?_ (by rw [z1, sizeLine_eq]; omega))
    have ho1 := store_at (es' := es1) (t' := t1) ho hd
    have sb1 := Heap.SameBut.update s.heap a (Obj.putSet es1 t1)
    by_cases c : t1.tooFull = true
    · rw [c]
      have hn : es1.size * 5 ≥ t1.mask * 3 := by
        unfold SetTable.tooFull SetTable.fill at c
        rw [T1.dm, T1.sz] at c
        have := of_decide_eq_true c
        simp at this
        omega
      have hM : M3 (SetTable.sizeAbove (SetTable.grown es1.size) - 1) ∧ es1.size ≤ SetTable.sizeAbove (SetTable.grown es1.size) - 1 ∧ es1.size * 5 < (SetTable.sizeAbove (SetTable.grown es1.size) - 1) * 3 := by
        rcases T.m3 with e | e | e
        · have z : es1.size = 5 := by omega
          rw [z]
          exact ⟨.inr (.inl (by decide)), by decide, by decide⟩
        · have z : es1.size = 19 := by omega
          rw [z]
          exact ⟨.inr (.inr (by decide)), by decide, by decide⟩
        · omega
      obtain ⟨es2, t2, e2, T2, m2, z2, p2⟩ := relay_ok (es := es1) (z1 ▸ T1) rfl (SetTable.grown es1.size) hM.1 hM.2.1
      rw [if_pos (by rfl)]
      rw [e2]
      dsimp only
      refine wpAny_bind (wpAny_pure ?_)
      refine wpAny_bind (wpAny_storeSet_of ho1 rfl ?_ (by rw [z2, z1, sizeLine_eq]; omega))
      refine wpAny_pure (wpAny_pure ?_)
      refine h _ true (sb1.trans (Heap.SameBut.update _ a _)) ⟨_, es2, _, t2, store_at ho1 rfl, hx, rfl, fun e he => hel1 e (p2.mem_iff.mp he), (p2.map _).trans hp1, z2 ▸ T2, ?_⟩
      rw [z2, m2]; exact hM.2.2
    · rw [if_neg (by simpa using c)]
      refine wpAny_pure (wpAny_pure ?_)
      refine h _ true sb1 ⟨_, es1, _, t1, ho1, hx, rfl, hel1, hp1, z1 ▸ T1, ?_⟩
      unfold SetTable.tooFull SetTable.fill at c
      rw [T1.dm, T1.sz] at c
      have := of_decide_eq_false (Bool.eq_false_iff.mpr c)
      simp at this
      omega
def setO (b : Bool) : Obj := { cls := .type "set", dict := none, data := .set #[] 0 (.fresh 0 0 b) }
theorem setI_new {h : Heap} {a : Addr} (e : h.get? a = some (setO (!byT w))) : SetI P w h a [] :=
  ⟨_, #[], 0, _, e, ⟨rfl, rfl, rfl⟩, rfl, fun e he => by simp at he, by simp, ⟨rfl, fun i k v u hi => by simp [SetTable.fresh] at hi, fun j ⟨i, hi⟩ => by simp [SetTable.fresh] at hi, rfl, .inl rfl, by show 0 ≤ 7; decide, rfl, rfl⟩, by show 0 * 5 < 7 * 3; decide⟩
theorem new_set {B : Around} {z : Shared} (x : Value) {Q₁ : Value → Shared → Prop} (h : Q₁ (.ref z.heap.objs.size) { z with heap := z.heap.push (setO (!byT w)) }) :
    codeAny (model P w) B (.call (.builtin "set.__new__") ⟨[.type "set", x], []⟩) (wants Q₁ E) z := by
  refine codeAny_of_tree ?_
  show wpAny _ B.in1 (do checkBuiltinCall "set.__new__" ⟨[.type "set", x], []⟩; again (.builtin "set.__new__" ⟨[.type "set", x], []⟩)) _ _ z
  refine wpAny_bind (wpAny_of_eq (PySem.F.newCall_set_1 x) (wpAny_pure ⟨plainId_quiet PySem.F.plain_set_new _, codeAny_builtin PySem.F.entry_set_new ?_⟩))
  rw [Around.under_plainId PySem.F.plain_set_new _]
  unfold Builtin.«set.__new__» Builtin.Frozenset.newClass
  have own := sub_set_self
  obtain ⟨zh, zg, zd, zt, zo⟩ := z
  dsimp only
  wp_walk
  refine wpAny_askSetting (wpAny_pure ?_)
  dsimp only
  simp only [newObj]
  exact wpAny_bind (wpAny_alloc (wpAny_pure (wpAny_pure h)))
end
end L2
namespace L2
open PySem PySem.Spec PyProof.Rows STab
theorem cons_erase {α : Type} : ∀ (l : List α) (i : Nat) (h : i < l.length), (l[i] :: l.eraseIdx i).Perm l
  | [], i, h => absurd h (Nat.not_lt_zero _)
  | a :: l, 0, h => List.Perm.refl _
  | a :: l, i + 1, h => (List.Perm.swap a _ _).trans (List.Perm.cons a (cons_erase l i (Nat.lt_of_succ_lt_succ h)))
theorem pick_go {α : Type} (next : Nat → Nat) : ∀ (fuel k : Nat) (left : List α) (out : Array α), left.length = fuel → (pickOrder.go next fuel k left out).toList.Perm (out.toList ++ left)
  | 0, k, left, out, h => by
    have : left = [] := List.eq_nil_of_length_eq_zero h
    subst this
    rw [List.append_nil]
    exact List.Perm.refl _
  | fuel + 1, k, left, out, h => by
    unfold pickOrder.go
    have hlt : next k % left.length < left.length := Nat.mod_lt _ (by omega)
    rw [List.getElem?_eq_getElem hlt]
    dsimp only
    refine (pick_go next fuel (k + 1) _ _ (by rw [List.length_eraseIdx_of_lt hlt]; omega)).trans ?_
    rw [Array.toList_push, List.append_assoc]
    exact List.Perm.append_left _ (cons_erase left _ hlt)
theorem pick_perm {α : Type} (next : Nat → Nat) (xs : Array α) : (pickOrder next xs).toList.Perm xs.toList := by
  have q := pick_go next xs.size 0 xs.toList #[] (Array.length_toList ..)
  unfold pickOrder
  simpa using q
def itO (sl i n ep : Nat) (a : Addr) : Obj := { cls := .type "set_iterator", data := .fields #[.int sl 0, .int i 0, .ref a, .int n 0, .int ep 0] }
theorem slot_si_next : Slot "set_iterator" "__next__" "set_iterator.__next__" := .of (owner := "set_iterator") (n := "__next__") (by rw [typeLookup_type, builtinLookup_eq_fast]; kernel_rfl)
  (by decide +kernel) (by decide +kernel) (by decide +kernel) (by first | exact .inl (by decide +kernel) | exact .inr (by decide +kernel)) (by rw [isSubtype_type]; kernel_rfl)
theorem slot_si_iter : Slot "set_iterator" "__iter__" "set_iterator.__iter__" := .of (owner := "set_iterator") (n := "__iter__") (by rw [typeLookup_type, builtinLookup_eq_fast]; kernel_rfl)
  (by decide +kernel) (by decide +kernel) (by decide +kernel) (by first | exact .inl (by decide +kernel) | exact .inr (by decide +kernel)) (by rw [isSubtype_type]; kernel_rfl)
theorem entry_si_next : entryFor table "set_iterator.__next__" = some Builtin.«set_iterator.__next__» := entryFor_of_tree (by kernel_rfl)
theorem entry_si_iter : entryFor table "set_iterator.__iter__" = some Builtin.«dict_keyiterator.__iter__» := entryFor_alias (id' := "dict_keyiterator.__iter__") (by kernel_rfl) (by first | rfl | decide +kernel) (by decide +kernel) (by kernel_rfl)
theorem entry_set_it : entryFor table "set.__iter__" = some Builtin.«frozenset.__iter__» := entryFor_alias (id' := "frozenset.__iter__") (by kernel_rfl) (by first | rfl | decide +kernel) (by decide +kernel) (by kernel_rfl)
theorem args_si_next (x : Value) : argsOk "set_iterator.__next__" ⟨[x], []⟩ := by unfold argsOk; kernel_rfl
theorem args_si_iter (x : Value) : argsOk "set_iterator.__iter__" ⟨[x], []⟩ := by unfold argsOk; kernel_rfl
def ordS (w : World) (a : Addr) (ep : Nat) (es : Array (Int × Value)) : List (Int × Value) := if byT w = true then (pickOrder (w.params.setOrder a ep) es).toList else es.toList
def slF (w : World) (t : SetTable) : Nat → Nat
  | 0 => 0
  | i + 1 => if byT w = true then 0 else t.place.getD i 0 + 1
theorem ord_perm (w : World) (a : Addr) (ep : Nat) (es : Array (Int × Value)) : (ordS w a ep es).Perm es.toList := by
  unfold ordS
  split
  · exact pick_perm _ _
  · exact List.Perm.refl _
theorem ord_len (w : World) (a : Addr) (ep : Nat) (es : Array (Int × Value)) : (ordS w a ep es).length = es.size := by rw [(ord_perm w a ep es).length_eq, Array.length_toList]
theorem below_sl {w : World} {t : SetTable} (hb : byT w = false) (hu : Up t.place) : ∀ (i : Nat), i ≤ t.place.size → SetTable.below t.place (slF w t i) = i
  | 0, _ => by
    obtain ⟨h1, h2, h3⟩ := below_spec (j := slF w t 0) hu
    rcases Nat.eq_zero_or_pos (SetTable.below t.place (slF w t 0)) with c | c
    · exact c
    · have hs : 0 < t.place.size := by omega
      exact absurd (h2 0 _ (arr_some hs) c) (Nat.not_lt_zero _)
  | i + 1, hi => by
    have e : slF w t (i + 1) = t.place.getD i 0 + 1 := by show (if byT w = true then _ else _) = _; rw [hb]; rfl
    rw [e]
    obtain ⟨h1, h2, h3⟩ := below_spec (j := t.place.getD i 0 + 1) hu
    have ei := arr_some (xs := t.place) (i := i) (by omega)
    rcases Nat.lt_trichotomy (SetTable.below t.place (t.place.getD i 0 + 1)) (i + 1) with c | c | c
    · have := h3 i _ ei (by omega)
      omega
    · exact c
    · have e2 := arr_some (xs := t.place) (i := i + 1) (by omega)
      have q1 := h2 (i + 1) _ e2 c
      have q2 := hu i (i + 1) _ _ ei e2 (Nat.lt_succ_self _)
      omega
section
variable {P : Program} {w : World} {A : Around} {E : Value → Shared → Prop} {s : Shared} {a I : Addr} {o : Obj} {es : Array (Int × Value)} {ep : Nat} {t : SetTable}
theorem set_next {i : Nat} {Q : Option (Value × Nat) → Shared → Prop} (ho : s.heap.get? a = some o) (hd : o.data = .set es ep t) (T : Tab (!byT w) t es.size) (hi : i ≤ es.size)
    (h : Q (((ordS w a ep es)[i]?).map fun e => (e.2, slF w t (i + 1))) s) : wpAny (model P w) A (setNext a (slF w t i) i ep) Q E s := by
  unfold setNext
  refine wpAny_bind (wpAny_setState_of ho hd T.fits ?_)
  dsimp only
  unfold setsByText
  refine wpAny_bind (wpAny_bind (wpAny_askSetting (wpAny_pure ?_)))
  show wpAny _ _ (if byT w = true then _ else _) _ _ _
  by_cases c : byT w = true
  · rw [if_pos c]
    have e1 : (ep != ep) = false := by simp
    rw [e1, if_neg (by decide)]
    unfold setWalk
    refine wpAny_bind (wpAny_bind (wpAny_setState_of ho hd T.fits ?_))
    dsimp only
    unfold setsByText
    refine wpAny_bind (wpAny_bind (wpAny_askSetting (wpAny_pure ?_)))
    show wpAny _ _ (if byT w = true then _ else _) _ _ _
    rw [if_pos c]
    refine wpAny_bind (wpAny_askSetting (wpAny_pure (wpAny_pure ?_)))
    have e2 : slF w t (i + 1) = slF w t i := by
      cases i with
      | zero => show (if byT w = true then 0 else _) = 0; rw [if_pos c]
      | succ i => show (if byT w = true then 0 else _) = (if byT w = true then 0 else _); rw [if_pos c, if_pos c]
    unfold ordS at h
    rw [if_pos c, e2, Array.getElem?_toList] at h
    exact h
  · rw [if_neg c]
    have cf : byT w = false := Bool.eq_false_iff.mpr c
    have hdr : (!t.plain && decide (es.size > 1)) = false := by rw [T.plain]; rfl
    refine wpAny_ite_split (fun hab => absurd (show (!t.plain && decide (es.size > 1)) = true from hab) (by rw [hdr]; decide)) (fun _ => ?_)
    have hled : t.led = true := by rw [T.led, cf]; rfl
    refine wpAny_bind ?_
    show wpAny _ _ (if (!t.led && !es.isEmpty) = true then _ else pure ()) _ _ _
    rw [hled, if_neg (by simp)]
    refine wpAny_pure ?_
    rw [below_sl cf T.up i (by rw [T.sz]; exact hi)]
    unfold ordS at h
    rw [if_neg c, Array.getElem?_toList] at h
    refine wpAny_pure ?_
    rcases Nat.lt_or_ge i es.size with q | q
    · have e1 := Array.getElem?_eq_getElem q
      have e2 := arr_some (xs := t.place) (i := i) (by rw [T.sz]; exact q)
      rw [e1] at h
      have e3 : slF w t (i + 1) = t.place.getD i 0 + 1 := by show (if byT w = true then _ else _) = _; rw [if_neg c]
      rw [e3] at h
      rw [e1, e2]
      exact h
    · have e1 := Array.getElem?_eq_none q
      rw [e1] at h
      rw [e1]
      exact h
theorem iter_set {Q : Value → Shared → Prop} (ho : s.heap.get? a = some o) (hx : o.ExactSet) (hd : o.data = .set es ep t) (T : Tab (!byT w) t es.size) (hQ : Q (.ref s.heap.objs.size) { s with heap := s.heap.push (itO 0 0 es.size ep a) }) :
    wpAny (model P w) A (pyIter (.ref a)) Q E s := by
  have hT : s.TypeIs (.ref a) "set" := ⟨o, ho, hx.1⟩
  refine wpAny_pyIter_slot hT PySem.F.slot_set_iter (wpAny_call_entry PySem.F.slot_set_iter hT entry_set_it ?_ (PySem.F.args_set_iter_1 _))
  unfold Builtin.«frozenset.__iter__»
  refine wpAny_bind (wpAny_of_eq (a := a) rfl ?_)
  unfold Builtin.Frozenset.sizeOf
  refine wpAny_bind (wpAny_bind (wpAny_setEntries_of ho hd T.fits (wpAny_pure ?_)))
  unfold setDrawn
  refine wpAny_bind (wpAny_bind (wpAny_setState_of ho hd T.fits ?_))
  dsimp only
  unfold setsByText
  refine wpAny_bind (wpAny_bind (wpAny_askSetting (wpAny_pure (wpAny_pure ?_))))
  have hdr : ∀ q : Bool, (q && (!t.plain && decide (es.size > 1))) = false := fun q => by rw [T.plain]; simp
  refine wpAny_ite_split (fun hab => absurd (show (!_ && (!t.plain && decide (es.size > 1))) = true from hab) (by rw [hdr]; decide)) (fun _ => ?_)
  refine wpAny_bind (wpAny_pure ?_)
  refine wpAny_bind (wpAny_setEpoch_of ho hd T.fits ?_)
  exact wpAny_bind (wpAny_newObj_type (wpAny_pure ⟨_, rfl, "set_iterator", _, ⟨_, Heap.get?_push_size _ rfl, rfl⟩, slot_si_next.lookup, hQ⟩))
def StS (w : World) (a : Addr) (o : Obj) (t : SetTable) (n ep : Nat) (I : Addr) (i : Nat) (h : Heap) : Prop := h.get? I = some (itO (slF w t i) i n ep a) ∧ h.get? a = some o
theorem walk_set (hcalm : A.handled = none) (hx : o.ExactSet) (hd : o.data = .set es ep t) (T : Tab (!byT w) t es.size) (ne : a ≠ I) :
    Walks P w A I [I, a] [I] es.size (fun i v => ∃ e, (ordS w a ep es)[i]? = some e ∧ e.2 = v) (StS w a o t es.size ep I) where
  sub := fun b hb => by simp at hb; simp [hb]
  frame := fun _ _ _ st hk => ⟨hk I (by simp) _ st.1, hk a (by simp) _ st.2⟩
  item := fun i z Q E hi st hQ => by
    obtain ⟨e, he⟩ : ∃ e, (ordS w a ep es)[i]? = some e := ⟨_, List.getElem?_eq_getElem (by rw [ord_len]; exact hi)⟩
    have hT : z.TypeIs (.ref I) "set_iterator" := ⟨_, st.1, rfl⟩
    unfold pyNext
    refine wpAny_bind (wpAny_attempt (wpAny_callSpecial?_slot (name := Str.ofString "__next__") hT slot_si_next (wpAny_call_entry slot_si_next hT entry_si_next ?_ (args_si_next _))))
    unfold Builtin.«set_iterator.__next__»
    refine wpAny_bind (wpAny_of_eq (a := (Value.ref I, [])) rfl ?_)
    refine wpAny_bind (wpAny_fieldsOf st.1 rfl ?_)
    refine wpAny_bind (wpAny_setEntries_of st.2 hd T.fits ?_)
    have e1 : (((es.size : Nat) : Int) != ((es.size : Nat) : Int)) = false := by simp
    rw [e1, if_neg (by decide)]
    simp only [Int.toNat_natCast]
    refine wpAny_bind (set_next st.2 hd T (Nat.le_of_lt hi) ?_)
    rw [he]
    refine wpAny_bind (wpAny_setField st.1 rfl (by simp) ?_)
    have o1 : (z.heap.update I (Obj.mapFields (·.setIfInBounds 0 (rawInt (slF w t (i + 1)))))).get? I = some { cls := .type "set_iterator", data := .fields #[.int (slF w t (i + 1)) 0, .int i 0, .ref a, .int es.size 0, .int ep 0] } := Heap.get?_update_self _ st.1 rfl
    refine wpAny_bind (wpAny_setField o1 rfl (by simp) (wpAny_pure ⟨e.2, rfl, wpAny_pure ?_⟩))
    have o2 := Heap.get?_update_self (Obj.mapFields (·.setIfInBounds 1 (rawInt ((i : Int) + 1)))) o1 rfl
    have sb := (Heap.SameBut.update z.heap I (Obj.mapFields (·.setIfInBounds 0 (rawInt (slF w t (i + 1)))))).trans (Heap.SameBut.update _ I (Obj.mapFields (·.setIfInBounds 1 (rawInt ((i : Int) + 1)))))
    exact hQ e.2 _ z.toks ⟨e, he, rfl⟩ ⟨o2, sb.extBut a o ne st.2⟩ fun b ob hb q => sb.extBut b ob (fun q' => hb (by simp [q'])) q
  done := fun z Q E st hQ => by
    have hT : z.TypeIs (.ref I) "set_iterator" := ⟨_, st.1, rfl⟩
    unfold pyNext
    refine wpAny_bind (wpAny_attempt (wpAny_callSpecial?_slot (name := Str.ofString "__next__") hT slot_si_next (wpAny_call_entry slot_si_next hT entry_si_next ?_ (args_si_next _))))
    unfold Builtin.«set_iterator.__next__»
    refine wpAny_bind (wpAny_of_eq (a := (Value.ref I, [])) rfl ?_)
    refine wpAny_bind (wpAny_fieldsOf st.1 rfl ?_)
    refine wpAny_bind (wpAny_setEntries_of st.2 hd T.fits ?_)
    have e1 : (((es.size : Nat) : Int) != ((es.size : Nat) : Int)) = false := by simp
    rw [e1, if_neg (by decide)]
    simp only [Int.toNat_natCast]
    refine wpAny_bind (set_next st.2 hd T (Nat.le_refl _) ?_)
    have he : (ordS w a ep es)[es.size]? = none := List.getElem?_eq_none (by rw [ord_len]; exact Nat.le_refl _)
    rw [he]
    refine wpAny_bind (wpAny_setField st.1 rfl (by simp) ?_)
    refine wpAny_bind (m := newExc (.type "StopIteration") []) ?_
    simp only [newExc, newTuple]
    refine wpAny_bind (wpAny_newObj_type ?_ (by size_fits))
    refine wpAny_bind (m := firstArgMember _ _) (wpAny_of_eq (a := Value.none) (by first | rfl | (simp only [firstArgMember]; rfl)) ?_)
    refine wpAny_newObj_type ?_ (by size_fits)
    simp only [raiseNew]
    refine wpAny_bind (wpAny_handled ?_)
    rw [show A.in1.handled = none from hcalm]
    refine wpAny_bind (wpAny_pure (wpAny_throw ?_))
    refine wpAny_bind (wpAny_isInstance (T := "StopIteration") (b := true) ⟨_, Heap.get?_push_size _ rfl, rfl⟩ isSubtype_stop ?_)
    exact wpAny_pure (hQ _ z.toks fun b ob hb q => (((Heap.SameBut.update ..).extBut.push _).push _) b ob (fun q' => hb (by simp [q'])) q)
  self := fun i z Q E st hQ => by
    have hT : z.TypeIs (.ref I) "set_iterator" := ⟨_, st.1, rfl⟩
    refine wpAny_pyIter_slot hT slot_si_iter (wpAny_call_entry slot_si_iter hT entry_si_iter ?_ (args_si_iter _))
    show wpAny _ _ (ret (.ref I)) _ _ z
    exact wpAny_pure ⟨_, rfl, "set_iterator", _, hT, slot_si_next.lookup, hQ⟩
theorem hint_set {r : Addr} {Q : Bool → Shared → Prop} (hT : s.TypeIs (.ref r) "set") (h : Q false s) : wpAny (model P w) A (Builtin.List.listLengthHint (.ref r)) Q E s := by
  unfold Builtin.List.listLengthHint
  refine wpAny_bind (wpAny_specialOf hT PySem.F.slot_set_len.lookup ?_)
  generalize hid : ("set.__len__" : String) = idS
  wp_delta
  rw [show splitId idS = some ("set", "__len__") from by subst hid; decide +kernel]
  subst hid
  refine wpAny_bind (wpAny_isInstance (T := "set") (b := true) hT sub_set_self ?_)
  refine wpAny_ite_split (fun q => absurd q (by decide)) (fun _ => wpAny_ite_split (fun _ => ?_) (fun q => absurd (by decide +kernel) q))
  exact wpAny_bind (wpAny_typeOf hT (wpAny_pure h))
theorem src_set (hx : o.ExactSet) (hd : o.data = .set es ep t) (T : Tab (!byT w) t es.size) : PySem.W.KdlSrc P w "set" a a es.size (fun i v => ∃ e, (ordS w a ep es)[i]? = some e ∧ e.2 = v) (fun h => h.get? a = some o) where
  type := fun _ ho => ⟨o, ho, hx.1⟩
  there := fun _ ho => ⟨Heap.lt_size ho, Heap.lt_size ho⟩
  keep := fun _ _ ho hk => hk a (.inl rfl) o ho
  notList := by decide
  notTuple := by decide
  hint := fun _ _ _ _ ho hq => hint_set ⟨o, ho, hx.1⟩ hq
  iter := fun _ z hh ho => ⟨_, StS w a o t es.size ep z.heap.objs.size, (fun _ _ hq => iter_set ho hx hd T hq), walk_set hh hx hd T (Nat.ne_of_lt (Heap.lt_size ho)), ⟨Heap.get?_push_size _ rfl, Heap.get?_push_of_some _ ho⟩⟩
end
section
variable {X : Cx}
end
end L2
namespace L2
open PySem PySem.Spec PyProof.Rows
section
variable {P : Program} {w : World} {A : Around} {E : Value → Shared → Prop} {s : Shared}
end
section
variable {X : Cx}
theorem refs_are : ∀ {as : List Addr} {its : List Value}, Vals (as.map V.ref) its → its = as.map Value.ref
  | [], _, .nil => rfl
  | a :: as, _, .cons e t => by
    cases e
    rw [refs_are t]; rfl
end
end L2
namespace STab
open PySem
def pth (t : SetTable) (h : Int) (k : Nat) : Nat := (adv t k (t.probeStart h)).j
theorem least {p : Nat → Prop} : ∀ (B : Nat), (∃ k, k < B ∧ p k) → ∃ K, K < B ∧ p K ∧ ∀ k, k < K → ¬ p k
  | 0, ⟨k, hk, _⟩ => absurd hk (Nat.not_lt_zero _)
  | B + 1, ⟨k, hk, hp⟩ => by
    by_cases c : ∃ k, k < B ∧ p k
    · obtain ⟨K, h1, h2, h3⟩ := least B c
      exact ⟨K, Nat.lt_succ_of_lt h1, h2, h3⟩
    · have : k = B := by
        rcases Nat.lt_or_ge k B with q | q
        · exact absurd ⟨k, q, hp⟩ c
        · omega
      subst this
      exact ⟨k, hk, hp, fun k' hk' q => c ⟨k', hk', q⟩⟩
theorem adv_succ (t : SetTable) (k : Nat) (p : SetTable.Probe) : adv t (k + 1) p = t.advance (adv t k p) := adv_add t k 1 p
theorem adv_ok {t : SetTable} {h : Int} : ∀ k, (adv t k (t.probeStart h)).dummy = none ∧ (adv t k (t.probeStart h)).j + (adv t k (t.probeStart h)).more ≤ t.mask
  | 0 => by
    have hi : SetTable.bits h % (t.mask + 1) ≤ t.mask := Nat.le_of_lt_succ (Nat.mod_lt _ (Nat.succ_pos _))
    have r := runEnd_le hi
    exact ⟨rfl, by show SetTable.bits h % (t.mask + 1) + (SetTable.runEnd t.mask (SetTable.bits h % (t.mask + 1)) - SetTable.bits h % (t.mask + 1)) ≤ t.mask; omega⟩
  | k + 1 => by
    rw [adv_succ]
    exact ⟨adv_dummy (adv_ok k).1, adv_in (adv_ok k).2⟩
theorem pth_le {t : SetTable} {h : Int} (k : Nat) : pth t h k ≤ t.mask := by
  have := (adv_ok (t := t) (h := h) k).2
  unfold pth
  omega
structure Stops (t : SetTable) (h : Int) (K : Nat) : Prop where
  lt : K < 10 * SetTable.turns t.mask
  out : ¬ In t.place (pth t h K)
  live : ∀ k, k < K → In t.place (pth t h k)
theorem ends_ex {t : SetTable} {h : Int} {b : Bool} {n : Nat} (T : Tab b t n) : ∃ K, Stops t h K := by
  obtain ⟨y, hy, hn⟩ := gap T.up (mask := t.mask) (by rw [T.sz]; exact T.room)
  have hi : SetTable.bits h % (t.mask + 1) ≤ t.mask := Nat.le_of_lt_succ (Nat.mod_lt _ (Nat.succ_pos _))
  have a0 : At t (t.probeStart h) (SetTable.bits h % (t.mask + 1), SetTable.bits h) := ⟨rfl, rfl, rfl, rfl, rfl⟩
  obtain ⟨m, hm1, e⟩ := lp_reach T.m3 (x := (SetTable.bits h % (t.mask + 1), SetTable.bits h)) hi (bits_lt h) hy
  obtain ⟨k, hk, a⟩ := adv_leaps m _ _ a0 hi
  obtain ⟨K, h1, h2, h3⟩ := least (p := fun k => ¬ In t.place (pth t h k)) (10 * SetTable.turns t.mask) ⟨k, by unfold SetTable.turns; omega, by show ¬ In t.place (adv t k (t.probeStart h)).j; rw [a.j, e]; exact hn⟩
  exact ⟨K, h1, h2, fun k hk => Classical.byContradiction fun q => h3 k hk q⟩
theorem probe_next {t : SetTable} {h : Int} {g : Nat → Int} {K : Nat} (hd : t.dummies = #[]) (hr : Up t.place) (N : Stops t h K) : ∀ (n k fuel : Nat), K - k = n → k ≤ K → n < fuel →
    (∃ k1 i, k ≤ k1 ∧ k1 < K ∧ t.place[i]? = some (pth t h k1) ∧ g i = h ∧ (∀ k2, k ≤ k2 → k2 < k1 → ∀ i2, t.place[i2]? = some (pth t h k2) → g i2 ≠ h) ∧ SetTable.probe.go t g h fuel (adv t k (t.probeStart h)) = some (.candidate (pth t h k1) i (adv t (k1 + 1) (t.probeStart h)))) ∨
    ((∀ k2, k ≤ k2 → k2 < K → ∀ i2, t.place[i2]? = some (pth t h k2) → g i2 ≠ h) ∧ SetTable.probe.go t g h fuel (adv t k (t.probeStart h)) = some (.empty (pth t h K) none))
  | 0, k, fuel, hn, hk, hf => by
    have e : k = K := by omega
    subst e
    obtain ⟨f, rfl⟩ : ∃ f, fuel = f + 1 := ⟨fuel - 1, by omega⟩
    refine .inr ⟨fun k2 h1 h2 => absurd h2 (by omega), ?_⟩
    unfold SetTable.probe.go
    rw [slot_out hd (show ¬ In t.place (adv t k (t.probeStart h)).j from N.out)]
    dsimp only
    rw [(adv_ok k).1]; rfl
  | n + 1, k, fuel, hn, hk, hf => by
    obtain ⟨f, rfl⟩ : ∃ f, fuel = f + 1 := ⟨fuel - 1, by omega⟩
    have hlt : k < K := by omega
    obtain ⟨i, hi⟩ := N.live k hlt
    have hi' : t.place[i]? = some (adv t k (t.probeStart h)).j := hi
    unfold SetTable.probe.go
    rw [slot_in hr hi']
    dsimp only
    by_cases c : g i = h
    · rw [c, beq_self_eq_true, if_pos rfl]
      refine .inl ⟨k, i, Nat.le_refl _, hlt, hi, c, fun k2 h1 h2 => absurd h2 (by omega), ?_⟩
      rw [adv_succ]; rfl
    · have cb : (g i == h) = false := by rw [beq_eq_false_iff_ne]; exact c
      rw [cb, if_neg (by decide), ← adv_succ]
      have own : ∀ i2, t.place[i2]? = some (pth t h k) → g i2 ≠ h := fun i2 q => by rw [up_inj hr q hi]; exact c
      rcases probe_next (g := g) hd hr N n (k + 1) f (by omega) hlt (by omega) with ⟨k1, i1, h1, h2, h3, h4, h5, h6⟩ | ⟨h5, h6⟩
      · refine .inl ⟨k1, i1, by omega, h2, h3, h4, fun k2 a1 a2 i2 q => ?_, h6⟩
        rcases Nat.lt_or_ge k k2 with e | e
        · exact h5 k2 e a2 i2 q
        · have : k2 = k := by omega
          subst this; exact own i2 q
      · refine .inr ⟨fun k2 a1 a2 i2 q => ?_, h6⟩
        rcases Nat.lt_or_ge k k2 with e | e
        · exact h5 k2 e a2 i2 q
        · have : k2 = k := by omega
          subst this; exact own i2 q
def Rea (t : SetTable) (hs : Nat → Option Int) : Prop := ∀ i h, hs i = some h → ∃ k, t.place[i]? = some (pth t h k) ∧ ∀ k', k' < k → In t.place (pth t h k')
theorem Rea.before {t : SetTable} {hs : Nat → Option Int} (R : Rea t hs) {h : Int} {K i : Nat} (N : Stops t h K) (hi : hs i = some h) : ∃ k, k < K ∧ t.place[i]? = some (pth t h k) := by
  obtain ⟨k, h1, h2⟩ := R i h hi
  refine ⟨k, ?_, h1⟩
  rcases Nat.lt_or_ge k K with c | c
  · exact c
  · rcases Nat.lt_or_ge K k with d | d
    · exact absurd (h2 K d) N.out
    · have : k = K := by omega
      subst this
      exact absurd ⟨i, h1⟩ N.out
theorem adv_mask {t u : SetTable} (e : t.mask = u.mask) (p : SetTable.Probe) : t.advance p = u.advance p := by
  unfold SetTable.advance
  rw [e]
theorem adv_masks {t u : SetTable} (e : t.mask = u.mask) : ∀ (k : Nat) (p : SetTable.Probe), adv t k p = adv u k p
  | 0, p => rfl
  | k + 1, p => by
    show adv t k (t.advance p) = adv u k (u.advance p)
    rw [adv_mask e, adv_masks e k]
theorem pth_mask {t u : SetTable} (e : t.mask = u.mask) (h : Int) (k : Nat) : pth t h k = pth u h k := by
  unfold pth
  rw [adv_masks e]
  congr 2
  unfold SetTable.probeStart
  rw [e]
theorem put_in {t : SetTable} {j y : Nat} (hr : Up t.place) (h : In t.place y ∨ y = j) : In (t.put j).1.place y := by
  have hb := below_spec (j := j) hr
  have e : (t.put j).1.place = SetTable.insertAt t.place (SetTable.below t.place j) j := rfl
  rw [e]
  rcases h with ⟨i, hi⟩ | h
  · rcases Nat.lt_or_ge i (SetTable.below t.place j) with c | c
    · exact ⟨i, by rw [insertAt_get _ hb.1, if_pos c]; exact hi⟩
    · exact ⟨i + 1, by rw [insertAt_get _ hb.1, if_neg (by omega), if_neg (by omega)]; exact hi⟩
  · subst h
    exact ⟨SetTable.below t.place y, by rw [insertAt_get _ hb.1, if_neg (Nat.lt_irrefl _), if_pos rfl]⟩
theorem Rea.put {t : SetTable} {es : Array (Int × Value)} {b : Bool} {n K : Nat} {h : Int} {x : Value} (T : Tab b t n) (hes : es.size = n) (R : Rea t fun i => (es[i]?).map (·.1)) (N : Stops t h K) :
    Rea (t.put (pth t h K)).1 fun i => ((SetTable.insertAt es (t.put (pth t h K)).2 (h, x))[i]?).map (·.1) := by
  have hb := below_spec (j := pth t h K) T.up
  have hbn : SetTable.below t.place (pth t h K) ≤ es.size := by rw [hes, ← T.sz]; exact hb.1
  have em : (t.put (pth t h K)).1.mask = t.mask := rfl
  have e2 : (t.put (pth t h K)).2 = SetTable.below t.place (pth t h K) := rfl
  have ep : (t.put (pth t h K)).1.place = SetTable.insertAt t.place (SetTable.below t.place (pth t h K)) (pth t h K) := rfl
  intro i h' hi
  have hi1 : ((SetTable.insertAt es (SetTable.below t.place (pth t h K)) (h, x))[i]?).map (·.1) = some h' := hi
  rw [insertAt_get _ hbn] at hi1
  have old : ∀ i' : Nat, ((es[i']?).map (fun e => e.1)) = some h' → (SetTable.insertAt t.place (SetTable.below t.place (pth t h K)) (pth t h K))[i]? = t.place[i']? → ∃ k, (t.put (pth t h K)).1.place[i]? = some (pth (t.put (pth t h K)).1 h' k) ∧ ∀ k', k' < k → In (t.put (pth t h K)).1.place (pth (t.put (pth t h K)).1 h' k') := fun i' q1 q2 => by
    obtain ⟨k, a1, a2⟩ := R i' h' q1
    refine ⟨k, ?_, fun k' hk' => ?_⟩
    · rw [ep, q2, a1, pth_mask em]
    · rw [pth_mask em]
      exact put_in T.up (.inl (a2 k' hk'))
  by_cases c : i < SetTable.below t.place (pth t h K)
  · rw [if_pos c] at hi1
    exact old i hi1 (by rw [insertAt_get _ hb.1, if_pos c])
  · rw [if_neg c] at hi1
    by_cases d : i = SetTable.below t.place (pth t h K)
    · rw [if_pos d] at hi1
      have eh : h' = h := (Option.some.inj hi1).symm
      subst eh
      refine ⟨K, ?_, fun k' hk' => ?_⟩
      · rw [ep, insertAt_get _ hb.1, if_neg c, if_pos d, pth_mask em]
      · rw [pth_mask em]
        exact put_in T.up (.inl (N.live k' hk'))
    · rw [if_neg d] at hi1
      exact old (i - 1) hi1 (by rw [insertAt_get _ hb.1, if_neg c, if_neg d])
end STab
namespace STab
open PySem
theorem adv_within {t : SetTable} : ∀ (k : Nat) (p : SetTable.Probe), k ≤ p.more → adv t k p = { p with j := p.j + k, more := p.more - k }
  | 0, p, _ => by simp [adv]
  | k + 1, p, h => by
    rw [adv_succ, adv_within k p (by omega)]
    unfold SetTable.advance
    rw [if_pos (by show p.more - k > 0; omega)]
    show ({ p with j := p.j + k + 1, more := p.more - k - 1 } : SetTable.Probe) = { p with j := p.j + (k + 1), more := p.more - (k + 1) }
    congr 1 <;> omega
theorem free_path {t : SetTable} {owner : Array (Option Nat)} (hs : owner.size = t.mask + 1) : ∀ (fuel i pert j : Nat) (p : SetTable.Probe), At t p (i, pert) → i ≤ t.mask → SetTable.layClean.free t.mask owner fuel i pert = some j →
    ∃ n, (adv t n p).j = j ∧ ∀ n', n' < n → (owner.getD (adv t n' p).j none).isSome = true
  | 0, i, pert, j, p, _, _, e => by cases e
  | fuel + 1, i, pert, j, p, a, hi, e => by
    have r := runEnd_le hi
    have hm : p.more = SetTable.runEnd t.mask i - i := a.more
    have hj : p.j = i := a.j
    unfold SetTable.layClean.free at e
    cases hf : (List.range (SetTable.runEnd t.mask i + 1 - i)).find? fun k => (owner.getD (i + k) (some 0)).isNone with
    | some k =>
      rw [hf] at e
      have e' : i + k = j := Option.some.inj e
      have h2 := List.mem_range.mp (List.mem_of_find?_eq_some hf)
      refine ⟨k, by rw [adv_within k p (by omega)]; show p.j + k = j; omega, fun n' hn' => ?_⟩
      rw [adv_within n' p (by omega)]
      show (owner.getD (p.j + n') none).isSome = true
      rw [hj]
      obtain ⟨_, as, bs, hsplit, hall⟩ := List.find?_eq_some_iff_append.mp hf
      have hmem : n' ∈ as := by
        have hlen : as.length = k := by
          have h3 : (List.range (SetTable.runEnd t.mask i + 1 - i))[as.length]? = some k := by rw [hsplit, List.getElem?_append_right (Nat.le_refl _), Nat.sub_self]; rfl
          have h4 := (List.getElem?_eq_some_iff.mp h3)
          obtain ⟨h5, h6⟩ := h4
          rw [List.getElem_range] at h6
          exact h6
        have h3 : (List.range (SetTable.runEnd t.mask i + 1 - i))[n']? = some n' := by rw [List.getElem?_range (by omega)]
        rw [hsplit, List.getElem?_append_left (by omega)] at h3
        exact List.mem_of_getElem? h3
      have h4 := hall n' hmem
      rw [getD_two (by omega)] at h4
      cases q : owner.getD (i + n') none with
      | some v => rfl
      | none => rw [q] at h4; simp at h4
    | none =>
      rw [hf] at e
      have own : ∀ k, k ≤ p.more → (owner.getD (i + k) none).isSome = true := fun k hk => by
        have h1 := List.find?_eq_none.mp hf k (List.mem_range.mpr (by omega))
        rw [getD_two (by omega)] at h1
        cases q : owner.getD (i + k) none with
        | some v => rfl
        | none => rw [q] at h1; simp at h1
      have q := adv_run (t := t) p.more p rfl a.dm
      rw [a.i, a.pert] at q
      obtain ⟨n, h1, h2⟩ := free_path hs fuel _ _ j _ q (Nat.le_of_lt_succ (Nat.mod_lt _ (Nat.succ_pos _))) e
      refine ⟨p.more + 1 + n, by rw [adv_add]; exact h1, fun n' hn' => ?_⟩
      rcases Nat.lt_or_ge n' (p.more + 1) with c | c
      · rw [adv_within n' p (by omega)]
        show (owner.getD (p.j + n') none).isSome = true
        rw [hj]
        exact own n' (by omega)
      · obtain ⟨m, rfl⟩ : ∃ m, n' = p.more + 1 + m := ⟨n' - (p.more + 1), by omega⟩
        rw [adv_add]
        exact h2 m (by omega)
def OwnP (t : SetTable) (owner : Array (Option Nat)) (hs : List Int) : Prop := ∀ j m, owner.getD j none = some m → ∃ h, hs[m]? = some h ∧ ∃ n, pth t h n = j ∧ ∀ n', n' < n → (owner.getD (pth t h n') none).isSome = true
theorem step_path {t : SetTable} (hm : M3 t.mask) {owner : Array (Option Nat)} {done : List Int} (o : Own t.mask owner done.length) (O : OwnP t owner done) (hk : done.length ≤ t.mask) (h : Int) :
    ∃ owner', stepL t.mask (some (owner, done.length)) h = some (owner', done.length + 1) ∧ Own t.mask owner' (done.length + 1) ∧ OwnP t owner' (done ++ [h]) := by
  obtain ⟨y, hy, hn⟩ := o.gap hk
  have hi : SetTable.bits h % (t.mask + 1) ≤ t.mask := Nat.le_of_lt_succ (Nat.mod_lt _ (Nat.succ_pos _))
  obtain ⟨m, hm1, e⟩ := lp_reach hm (x := (SetTable.bits h % (t.mask + 1), SetTable.bits h)) hi (bits_lt h) hy
  obtain ⟨j, e1, e2, e3⟩ := free_ok o.1 (SetTable.turns t.mask) (SetTable.bits h % (t.mask + 1)) (SetTable.bits h) hi ⟨m, by unfold SetTable.turns; omega, by rw [e]; exact hn⟩
  obtain ⟨n, p1, p2⟩ := free_path o.1 _ _ _ j (t.probeStart h) ⟨rfl, rfl, rfl, rfl, rfl⟩ hi e1
  have hjs : j < owner.size := by rw [o.1]; omega
  have up : ∀ y, (owner.getD y none).isSome = true → ((owner.setIfInBounds j (some done.length)).getD y none).isSome = true := fun y q => by
    rw [getD_set hjs]
    split
    · rfl
    · exact q
  refine ⟨owner.setIfInBounds j (some done.length), ?_, o.set e2 e3, fun j' m' q => ?_⟩
  · unfold stepL
    simp only [Option.bind_eq_bind, Option.bind_some, e1]
    rfl
  · rw [getD_set hjs] at q
    by_cases c : j' = j
    · rw [if_pos c] at q
      have : m' = done.length := (Option.some.inj q).symm
      subst this
      refine ⟨h, by rw [List.getElem?_append_right (Nat.le_refl _), Nat.sub_self]; rfl, n, by rw [c]; exact p1, fun n' hn' => up _ (p2 n' hn')⟩
    · rw [if_neg c] at q
      obtain ⟨h', a1, n2, a2, a3⟩ := O j' m' q
      exact ⟨h', by rw [List.getElem?_append_left (List.getElem?_eq_some_iff.mp a1).1]; exact a1, n2, a2, fun n' hn' => up _ (a3 n' hn')⟩
theorem fold_path {t : SetTable} (hm : M3 t.mask) : ∀ (hs done : List Int) (owner : Array (Option Nat)), Own t.mask owner done.length → OwnP t owner done → done.length + hs.length ≤ t.mask →
    ∃ owner', hs.foldl (stepL t.mask) (some (owner, done.length)) = some (owner', done.length + hs.length) ∧ Own t.mask owner' (done.length + hs.length) ∧ OwnP t owner' (done ++ hs)
  | [], done, owner, o, O, _ => ⟨owner, rfl, o, by rw [List.append_nil]; exact O⟩
  | h :: hs, done, owner, o, O, hk => by
    rw [List.length_cons] at hk
    obtain ⟨o1, e1, O1, P1⟩ := step_path hm o O (by omega) h
    have hl : (done ++ [h]).length = done.length + 1 := by rw [List.length_append, List.length_singleton]
    obtain ⟨o2, e2, O2, P2⟩ := fold_path hm hs (done ++ [h]) o1 (by rw [hl]; exact O1) P1 (by rw [hl]; omega)
    rw [hl] at e2 O2
    rw [List.append_assoc] at P2
    refine ⟨o2, ?_, ?_, P2⟩
    · rw [List.foldl_cons, e1, e2, List.length_cons]
      congr 2; omega
    · rw [List.length_cons, show done.length + (hs.length + 1) = done.length + 1 + hs.length by omega]; exact O2
theorem clean_path {t : SetTable} (hm : M3 t.mask) (hs : Array Int) (hk : hs.size ≤ t.mask) : ∃ owner, SetTable.layClean t.mask hs = some owner ∧ Own t.mask owner hs.size ∧ OwnP t owner hs.toList := by
  have P0 : OwnP t (Array.replicate (t.mask + 1) none) [] := fun j m q => by
    rw [Array.getD_eq_getD_getElem?, Array.getElem?_replicate] at q
    split at q <;> cases q
  obtain ⟨o, e, O, Pp⟩ := fold_path hm hs.toList [] _ (own0 t.mask) P0 (by rw [Array.length_toList]; show 0 + hs.size ≤ t.mask; omega)
  have e0 : hs.toList.length = hs.size := Array.length_toList ..
  rw [e0] at e O
  have z : ([] : List Int).length + hs.size = hs.size := Nat.zero_add _
  rw [z] at e O
  refine ⟨o, ?_, O, Pp⟩
  unfold SetTable.layClean
  rw [← Array.foldl_toList]
  have e' : hs.toList.foldl (stepL t.mask) (some (Array.replicate (t.mask + 1) none, 0)) = some (o, hs.size) := e
  show (Option.map (·.1) (hs.toList.foldl (stepL t.mask) (some (Array.replicate (t.mask + 1) none, 0)))) = some o
  rw [e']; rfl
theorem fm_get {α β : Type} {f : α → Option β} : ∀ {l : List α}, (∀ x ∈ l, (f x).isSome) → ∀ m : Nat, (l.filterMap f)[m]? = (l[m]?).bind f
  | [], _, m => by simp
  | a :: l, h, m => by
    obtain ⟨y, hy⟩ := Option.isSome_iff_exists.mp (h a List.mem_cons_self)
    rw [List.filterMap_cons_some hy]
    cases m with
    | zero => simp [hy]
    | succ m =>
      rw [List.getElem?_cons_succ, List.getElem?_cons_succ]
      exact fm_get (fun x hx => h x (List.mem_cons_of_mem _ hx)) m
theorem relay_path {b : Bool} {t : SetTable} {n : Nat} {es : Array (Int × Value)} (T : Tab b t n) (hes : es.size = n) (wanted : Nat) (hm : M3 (SetTable.sizeAbove wanted - 1)) (hn : n ≤ SetTable.sizeAbove wanted - 1) :
    ∃ t' order, t.relaid (es.map (·.1)) wanted = some (t', order) ∧ Tab b t' n ∧ t'.mask = SetTable.sizeAbove wanted - 1 ∧ (order.filterMap (es[·]?)).size = n ∧ (order.filterMap (es[·]?)).toList.Perm es.toList ∧
      Rea t' fun i => ((order.filterMap (es[·]?))[i]?).map (·.1) := by
  obtain ⟨u, hu⟩ : ∃ u : SetTable, u.mask = SetTable.sizeAbove wanted - 1 := ⟨{ t with mask := SetTable.sizeAbove wanted - 1 }, rfl⟩
  rw [← hu] at hm hn ⊢
  obtain ⟨owner, e, O, Pp⟩ := clean_path (t := u) hm (es.map (·.1)) (by rw [Array.size_map, hes]; exact hn)
  rw [Array.size_map, hes] at O
  have e1 : t.relaid (es.map (·.1)) wanted = some ({ mask := u.mask, place := (((List.range (u.mask + 1)).filterMap fun j => (owner.getD j none).map (j, ·)).map (·.1)).toArray, dummies := #[], finger := t.finger, led := t.led, moves := t.movedTo u.mask, plain := t.plain },
      (((List.range (u.mask + 1)).filterMap fun j => (owner.getD j none).map (j, ·)).map (·.2)).toArray) := by
    unfold SetTable.relaid SetTable.laid
    rw [← hu]
    simp only [Option.bind_eq_bind, e, Option.bind_some]
    rfl
  have hp : (((List.range (u.mask + 1)).filterMap fun j => (owner.getD j none).map (j, ·)).map (·.2)).Perm (List.range n) := by rw [live_snd]; exact O.2
  have hlen : ((List.range (u.mask + 1)).filterMap fun j => (owner.getD j none).map (j, ·)).length = n := by
    have := hp.length_eq
    rwa [List.length_map, List.length_range] at this
  have inb : ∀ y ∈ (((List.range (u.mask + 1)).filterMap fun j => (owner.getD j none).map (j, ·)).map (·.2)), (es[y]?).isSome := fun y hy => by
    have hy' := List.mem_range.mp (hp.mem_iff.mp hy)
    rw [Array.getElem?_eq_getElem (by omega)]; rfl
  have hfm : ((((List.range (u.mask + 1)).filterMap fun j => (owner.getD j none).map (j, ·)).map (·.2)).toArray.filterMap (es[·]?)).size = n := by
    rw [← Array.length_toList, Array.toList_filterMap, fm_len inb, List.length_map]
    exact hlen
  have perm : ((((List.range (u.mask + 1)).filterMap fun j => (owner.getD j none).map (j, ·)).map (·.2)).toArray.filterMap (es[·]?)).toList.Perm es.toList := by
    rw [Array.toList_filterMap]
    refine (List.Perm.filterMap _ hp).trans ?_
    have e2 : (List.range n).filterMap (es[·]?) = es.toList := by
      refine List.ext_getElem? fun m => ?_
      rw [fm_get (fun x hx => by rw [Array.getElem?_eq_getElem (by have := List.mem_range.mp hx; omega)]; rfl), ← hes]
      rcases Nat.lt_or_ge m es.size with c | c
      · rw [List.getElem?_range c, Array.getElem?_toList]; rfl
      · rw [List.getElem?_eq_none (by rw [List.length_range]; exact c), List.getElem?_eq_none (by rw [Array.length_toList]; exact c)]; rfl
    rw [e2]
  refine ⟨_, _, e1, ⟨rfl, ?_, fun j ⟨i, hi⟩ => ?_, ?_, hm, hn, T.plain, T.led⟩, rfl, hfm, perm, fun i h hi => ?_⟩
  · show Up _
    rw [live_fst]
    exact up_of_pairwise (List.Pairwise.filter _ List.pairwise_lt_range)
  · have hi' : (((List.range (u.mask + 1)).filterMap fun j => (owner.getD j none).map (j, ·)).map (·.1)).toArray[i]? = some j := hi
    rw [live_fst, List.getElem?_toArray] at hi'
    have := (List.mem_filter.mp (List.mem_of_getElem? hi')).1
    show j ≤ u.mask
    exact Nat.le_of_lt_succ (List.mem_range.mp this)
  · show Array.size _ = n
    rw [List.size_toArray, List.length_map]; exact hlen
  · have hi' : ((((((List.range (u.mask + 1)).filterMap fun j => (owner.getD j none).map (j, ·)).map (·.2)).toArray.filterMap (es[·]?)))[i]?).map (·.1) = some h := hi
    rw [← Array.getElem?_toList, Array.toList_filterMap, fm_get inb, List.getElem?_map] at hi'
    cases q : ((List.range (u.mask + 1)).filterMap fun j => (owner.getD j none).map (j, ·))[i]? with
    | none => rw [q] at hi'; cases hi'
    | some jm =>
      rw [q] at hi'
      obtain ⟨j, m⟩ := jm
      have hm' : (es[m]?).map (·.1) = some h := hi'
      have hmem := List.mem_filterMap.mp (List.mem_of_getElem? q)
      obtain ⟨j2, hj2, ej⟩ := hmem
      have ow : owner.getD j none = some m := by
        cases q2 : owner.getD j2 none with
        | none => rw [q2] at ej; cases ej
        | some v =>
          rw [q2] at ej
          have := Option.some.inj ej
          cases this
          exact q2
      obtain ⟨h', a1, k, a2, a3⟩ := Pp j m ow
      have eh : h' = h := by
        rw [Array.getElem?_toList, Array.getElem?_map] at a1
        have : some h' = some h := a1.symm.trans hm'
        exact Option.some.inj this
      subst eh
      refine ⟨k, ?_, fun k' hk' => ?_⟩
      · show (((List.range (u.mask + 1)).filterMap fun j => (owner.getD j none).map (j, ·)).map (·.1)).toArray[i]? = _
        rw [List.getElem?_toArray, List.getElem?_map, q]
        show some j = some (pth _ h' k)
        rw [← a2]
        refine congrArg some (pth_mask (t := u) ?_ h' k)
        rfl
      · have s := a3 k' hk'
        have le := pth_le (t := u) (h := h') k'
        have em := pth_mask (t := { mask := u.mask, place := (((List.range (u.mask + 1)).filterMap fun j => (owner.getD j none).map (j, ·)).map (·.1)).toArray, dummies := #[], finger := t.finger, led := t.led, moves := t.movedTo u.mask, plain := t.plain }) (u := u) rfl h' k'
        rw [em]
        have mem : pth u h' k' ∈ (List.range (u.mask + 1)).filter fun j => (owner.getD j none).isSome := List.mem_filter.mpr ⟨List.mem_range.mpr (by omega), s⟩
        obtain ⟨i2, hi2⟩ := List.mem_iff_getElem?.mp mem
        refine ⟨i2, ?_⟩
        show (((List.range (u.mask + 1)).filterMap fun j => (owner.getD j none).map (j, ·)).map (·.1)).toArray[i2]? = _
        rw [live_fst, List.getElem?_toArray]
        exact hi2
end STab
namespace L2
open PySem PySem.Spec PyProof.Rows STab
abbrev TK (P : Program) (w : World) : HeapKind P w (List Int) := tupleKind (intKind P w)
section
variable {P : Program} {w : World} {A : Around} {E : Value → Shared → Prop} {s : Shared}
theorem items_int {ks : List Int} {vs : List Value} (h : ItemsAre (intKind P w) ks vs) : ∀ v ∈ vs, ∃ k t, v = .int k t := by
  induction h with
  | nil => intro v hv; cases hv
  | cons h1 _ ih =>
    intro v hv
    rcases List.mem_cons.mp hv with e | hv
    · rw [e]
      obtain ⟨t, et⟩ := Value.isInt_shape h1
      exact ⟨_, t, et⟩
    · exact ih v hv
theorem cls_no {k : List Int} {q : Addr} {Q : Bool → Shared → Prop} (h : (TK P w).is s.heap k q) (hq : Q false s) : wpAny (model P w) A (ofAClassStatement 8 (.ref q)) Q E s := by
  obtain ⟨o, its, n, ho, hc, hd, hi⟩ := h
  have allI := items_int hi
  unfold ofAClassStatement
  refine wpAny_bind (wpAny_typeOf (T := "tuple") ⟨o, ho, hc⟩ ?_)
  dsimp only
  rw [if_pos (by decide)]
  refine wpAny_bind (wpAny_pure ?_)
  rw [if_neg (by decide)]
  refine wpAny_bind (wpAny_seqItems ho hd ?_)
  dsimp only
  rw [← Array.forIn_toList]
  generalize its.toList = l at allI
  clear hi
  refine wpAny_bind ?_
  induction l with
  | nil =>
    rw [List.forIn_nil]
    exact wpAny_pure (wpAny_pure hq)
  | cons v l ih =>
    obtain ⟨z, u, rfl⟩ := allI v List.mem_cons_self
    rw [List.forIn_cons]
    refine wpAny_bind (wpAny_bind (wpAny_of_eq (a := false) rfl ?_))
    rw [if_neg (by decide)]
    exact wpAny_pure (ih fun v hv => allI v (List.mem_cons_of_mem _ hv))
theorem seen_no {kx : List Int} {qx : Addr} {Q : Bool → Shared → Prop} (hx : (TK P w).is s.heap kx qx) (ys : List Value) (hy : ∀ y ∈ ys, ∃ k q, y = .ref q ∧ (TK P w).is s.heap k q) (hq : Q false s) : wpAny (model P w) A (searchCouldBeSeen (.ref qx) ys) Q E s := by
  unfold searchCouldBeSeen
  refine wpAny_bind ?_
  induction ys with
  | nil =>
    rw [List.forIn_nil]
    exact wpAny_pure (wpAny_pure hq)
  | cons v l ih =>
    obtain ⟨k, q, rfl, hk⟩ := hy v List.mem_cons_self
    have go := ih fun v hv => hy v (List.mem_cons_of_mem _ hv)
    rw [List.forIn_cons]
    refine wpAny_bind ?_
    refine wpAny_ite_split (fun _ => wpAny_pure go) (fun _ => ?_)
    refine wpAny_bind ((TK P w).quiet hx ?_)
    rw [if_neg (by decide)]
    refine wpAny_bind ((TK P w).quiet hk ?_)
    rw [if_neg (by decide)]
    refine wpAny_bind (cls_no hx ?_)
    rw [if_neg (by decide)]
    refine wpAny_bind (cls_no hk ?_)
    rw [if_neg (by decide)]
    exact wpAny_pure go
def Ent (P : Program) (w : World) (h : Heap) (es : Array (Int × Value)) : Prop := ∀ e ∈ es.toList, ∃ k q, e = ((TK P w).hash k, Value.ref q) ∧ (TK P w).is h k q
def Has (P : Program) (w : World) (h : Heap) (es : Array (Int × Value)) (kx : List Int) : Prop := ∃ q, ((TK P w).hash kx, Value.ref q) ∈ es.toList ∧ (TK P w).is h kx q
theorem ref_key {h : Heap} {es : Array (Int × Value)} (hE : Ent P w h es) {i : Nat} {e : Int × Value} (he : es[i]? = some e) : ∃ k q, e = ((TK P w).hash k, Value.ref q) ∧ (TK P w).is h k q :=
  hE e (List.mem_of_getElem? (i := i) (by rw [Array.getElem?_toList]; exact he))
theorem search_from {a : Addr} {o : Obj} {es : Array (Int × Value)} {ep : Nat} {t : SetTable} {b : Bool} {kx : List Int} {qx : Addr} {adding : Bool} {K : Nat} {Q : SetFound → Shared → Prop} (ho : s.heap.get? a = some o) (hd : o.data = .set es ep t) (T : Tab b t es.size)
    (R : Rea t fun i => (es[i]?).map (·.1)) (hE : Ent P w s.heap es) (hx : (TK P w).is s.heap kx qx) (room : (TK P w).room A) (N : Stops t ((TK P w).hash kx) K)
    (there : Has P w s.heap es kx → ∀ r, (adding = false → r.isSome = true) → Q (.there r) s) (free : ¬ Has P w s.heap es kx → Q (.free (pth t ((TK P w).hash kx) K) false) s) :
    ∀ (n k fuel : Nat) (st : Option SetTable.Probe), K - k = n → k ≤ K → n < fuel → st.getD (t.probeStart ((TK P w).hash kx)) = adv t k (t.probeStart ((TK P w).hash kx)) →
      (Has P w s.heap es kx → ∃ (k0 i0 : Nat) (q0 : Addr), k ≤ k0 ∧ k0 < K ∧ t.place[i0]? = some (pth t ((TK P w).hash kx) k0) ∧ es[i0]? = some ((TK P w).hash kx, Value.ref q0) ∧ (TK P w).is s.heap kx q0) →
      wpAny (model P w) A (setSearchFrom a (.ref qx) ((TK P w).hash kx) adding fuel st) Q E s := by
  have odd : t.gaveWay = false := by
    unfold SetTable.gaveWay
    rcases T.m3 with e | e | e <;> rw [e] <;> rfl
  intro n
  induction n using Nat.strongRecOn with
  | ind n ih =>
    intro k fuel st hn hk hf hst hp
    obtain ⟨f, rfl⟩ : ∃ f, fuel = f + 1 := ⟨fuel - 1, by omega⟩
    unfold setSearchFrom
    refine wpAny_bind (wpAny_setState_of ho hd T.fits ?_)
    dsimp only
    rw [odd, if_neg (by decide), hst]
    have prob := probe_next (g := fun i => ((es[i]?).map (·.1)).getD 0) T.dm T.up N (K - k) k (10 * SetTable.turns t.mask) rfl hk (by have := N.lt; omega)
    split
    · rename_i met hmet
      have hmet' : SetTable.probe.go t (fun i => ((es[i]?).map (·.1)).getD 0) ((TK P w).hash kx) (10 * SetTable.turns t.mask) (adv t k (t.probeStart ((TK P w).hash kx))) = some met := hmet
      rcases prob with ⟨k1, i, h1, h2, h3, h4, h5, h6⟩ | ⟨h5, h6⟩
      · rw [h6] at hmet'
        have em := Option.some.inj hmet'
        subst em
        dsimp only
        have his : i < es.size := by rw [← T.sz]; exact (Array.getElem?_eq_some_iff.mp h3).1
        obtain ⟨e, he⟩ : ∃ e, es[i]? = some e := ⟨_, Array.getElem?_eq_getElem his⟩
        obtain ⟨k', q', rfl, hk'⟩ := ref_key hE he
        have hh : (TK P w).hash k' = (TK P w).hash kx := by
          have h4' : ((es[i]?).map (·.1)).getD 0 = (TK P w).hash kx := h4
          rw [he] at h4'
          exact h4'
        have same : t.sameMemory t.moves t.mask = some true := by unfold SetTable.sameMemory; rw [if_pos (by simp)]
        have sl := slot_in T.up h3
        have allq : ∀ y ∈ (es.filter fun x => x.1 == (TK P w).hash kx).toList.map (·.2), ∃ k q, y = Value.ref q ∧ (TK P w).is s.heap k q := fun y hy => by
          obtain ⟨e2, he2, rfl⟩ := List.mem_map.mp hy
          rw [Array.toList_filter] at he2
          obtain ⟨k2, q2, rfl, hk2⟩ := hE e2 (List.mem_filter.mp he2).1
          exact ⟨k2, q2, rfl, hk2⟩
        refine wpAny_ite_split (fun _ => wpAny_bind (seen_no hx _ allq ?_)) (fun _ => ?_)
        · rw [if_neg (by decide)]
          rw [he]
          dsimp only
          refine wpAny_bind (wpAny_holding ((TK P w).eqBool room hk' hx ?_))
          refine wpAny_bind (wpAny_setState_of ho hd T.fits ?_)
          dsimp only
          by_cases c : k' = kx
          · subst c
            have hhas : Has P w s.heap es k' := ⟨q', List.mem_of_getElem? (i := i) (by rw [Array.getElem?_toList]; exact he), hk'⟩
            rw [decide_eq_true rfl]
            cases adding with
            | true => exact wpAny_pure (there hhas none fun z => by cases z)
            | false =>
              rw [if_neg (by decide), same]
              dsimp only
              rw [if_pos rfl, sl]
              dsimp only
              rw [he]
              dsimp only
              refine wpAny_bind (wpAny_of_eq (a := true) (by unfold isSame; simp) ?_)
              refine wpAny_bind (wpAny_pure ?_)
              rw [if_pos rfl]
              exact wpAny_pure (there hhas _ fun _ => rfl)
          · rw [decide_eq_false c, Bool.and_false, if_neg (by decide), same]
            dsimp only
            rw [if_pos rfl, sl]
            dsimp only
            rw [he]
            dsimp only
            refine wpAny_bind (wpAny_of_eq (a := true) (by unfold isSame; simp) ?_)
            refine wpAny_bind (wpAny_pure ?_)
            rw [if_pos rfl]
            dsimp only
            refine ih (K - (k1 + 1)) (by omega) (k1 + 1) f _ rfl h2 (by omega) rfl fun hhas => ?_
            obtain ⟨k0, i0, q0, a1, a2, a3, a4, a5⟩ := hp hhas
            refine ⟨k0, i0, q0, ?_, a2, a3, a4, a5⟩
            rcases Nat.lt_trichotomy k0 k1 with d | d | d
            · exact absurd (by show ((es[i0]?).map (·.1)).getD 0 = _; rw [a4]; rfl) (h5 k0 a1 d i0 a3)
            · subst d
              have ei : i0 = i := up_inj T.up a3 h3
              subst ei
              rw [he] at a4
              have e1 := Option.some.inj a4
              have e2 : q' = q0 := by
                have := congrArg (fun e : Int × Value => e.2) e1
                exact Value.ref.inj this
              subst e2
              exact absurd ((TK P w).inj hk' a5) c
            · exact d
        · rw [he]
          dsimp only
          refine wpAny_bind (wpAny_holding ((TK P w).eqBool room hk' hx ?_))
          refine wpAny_bind (wpAny_setState_of ho hd T.fits ?_)
          dsimp only
          by_cases c : k' = kx
          · subst c
            have hhas : Has P w s.heap es k' := ⟨q', List.mem_of_getElem? (i := i) (by rw [Array.getElem?_toList]; exact he), hk'⟩
            rw [decide_eq_true rfl]
            cases adding with
            | true => exact wpAny_pure (there hhas none fun z => by cases z)
            | false =>
              rw [if_neg (by decide), same]
              dsimp only
              rw [if_pos rfl, sl]
              dsimp only
              rw [he]
              dsimp only
              refine wpAny_bind (wpAny_of_eq (a := true) (by unfold isSame; simp) ?_)
              refine wpAny_bind (wpAny_pure ?_)
              rw [if_pos rfl]
              exact wpAny_pure (there hhas _ fun _ => rfl)
          · rw [decide_eq_false c, Bool.and_false, if_neg (by decide), same]
            dsimp only
            rw [if_pos rfl, sl]
            dsimp only
            rw [he]
            dsimp only
            refine wpAny_bind (wpAny_of_eq (a := true) (by unfold isSame; simp) ?_)
            refine wpAny_bind (wpAny_pure ?_)
            rw [if_pos rfl]
            dsimp only
            refine ih (K - (k1 + 1)) (by omega) (k1 + 1) f _ rfl h2 (by omega) rfl fun hhas => ?_
            obtain ⟨k0, i0, q0, a1, a2, a3, a4, a5⟩ := hp hhas
            refine ⟨k0, i0, q0, ?_, a2, a3, a4, a5⟩
            rcases Nat.lt_trichotomy k0 k1 with d | d | d
            · exact absurd (by show ((es[i0]?).map (·.1)).getD 0 = _; rw [a4]; rfl) (h5 k0 a1 d i0 a3)
            · subst d
              have ei : i0 = i := up_inj T.up a3 h3
              subst ei
              rw [he] at a4
              have e1 := Option.some.inj a4
              have e2 : q' = q0 := by
                have := congrArg (fun e : Int × Value => e.2) e1
                exact Value.ref.inj this
              subst e2
              exact absurd ((TK P w).inj hk' a5) c
            · exact d
      · rw [h6] at hmet'
        have em := Option.some.inj hmet'
        subst em
        dsimp only
        refine wpAny_pure (free fun hh => ?_)
        obtain ⟨k0, i0, q0, a1, a2, a3, a4, _⟩ := hp hh
        exact h5 k0 a1 a2 i0 a3 (by show ((es[i0]?).map (·.1)).getD 0 = _; rw [a4]; rfl)
    · rename_i hno
      rcases prob with ⟨k1, i, _, _, _, _, _, h6⟩ | ⟨_, h6⟩
      · exact absurd h6 (hno _)
      · exact absurd h6 (hno _)
theorem search_ok {a : Addr} {o : Obj} {es : Array (Int × Value)} {ep : Nat} {t : SetTable} {b : Bool} {kx : List Int} {qx : Addr} {adding : Bool} {Q : SetFound → Shared → Prop} (ho : s.heap.get? a = some o) (hd : o.data = .set es ep t) (T : Tab b t es.size)
    (R : Rea t fun i => (es[i]?).map (·.1)) (hE : Ent P w s.heap es) (hx : (TK P w).is s.heap kx qx) (room : (TK P w).room A)
    (there : Has P w s.heap es kx → ∀ r, (adding = false → r.isSome = true) → Q (.there r) s) (free : ¬ Has P w s.heap es kx → ∀ K, Stops t ((TK P w).hash kx) K → Q (.free (pth t ((TK P w).hash kx) K) false) s) :
    wpAny (model P w) A (setSearch a (.ref qx) ((TK P w).hash kx) adding) Q E s := by
  obtain ⟨K, N⟩ := ends_ex (h := (TK P w).hash kx) T
  unfold setSearch
  have kb : K < 100000 := by
    have h1 := N.lt
    unfold SetTable.turns at h1
    rcases T.m3 with e | e | e <;> omega
  refine search_from ho hd T R hE hx room N there (fun hn => free hn K N) (K - 0) 0 100000 none rfl (Nat.zero_le _) (by omega) rfl fun ⟨q, hm, hq⟩ => ?_
  obtain ⟨i, hi⟩ := List.mem_iff_getElem?.mp hm
  rw [Array.getElem?_toList] at hi
  obtain ⟨k0, h1, h2⟩ := R.before N (i := i) (by show (es[i]?).map (·.1) = _; rw [hi]; rfl)
  exact ⟨k0, i, q, Nat.zero_le _, h1, h2, hi, hq⟩
end
end L2
namespace L2
open PySem PySem.Spec PyProof.Rows STab
section
variable {P : Program} {w : World} {A : Around} {E : Value → Shared → Prop} {s : Shared}
theorem hbv_tup {k : List Int} {q : Addr} {Q : Bool → Shared → Prop} (h : (TK P w).is s.heap k q) (hq : Q true s) : wpAny (model P w) A (hashByValue 8 (.ref q)) Q E s := by
  obtain ⟨o, its, n, ho, hc, hd, hi⟩ := h
  have allI := items_int hi
  unfold hashByValue
  refine wpAny_bind (wpAny_specialOf (T := "tuple") ⟨o, ho, hc⟩ PySem.F.slot_tuple_hash.lookup ?_)
  dsimp only
  refine wpAny_bind (wpAny_seqItems ho hd ?_)
  dsimp only [Option.getD_some]
  rw [← Array.forIn_toList]
  generalize its.toList = l at allI
  clear hi
  refine wpAny_bind ?_
  induction l with
  | nil =>
    rw [List.forIn_nil]
    exact wpAny_pure (wpAny_pure hq)
  | cons v l ih =>
    obtain ⟨z, u, rfl⟩ := allI v List.mem_cons_self
    rw [List.forIn_cons]
    refine wpAny_bind (wpAny_bind (wpAny_of_eq (a := true) rfl ?_))
    rw [if_neg (by decide)]
    exact wpAny_pure (ih fun v hv => allI v (List.mem_cons_of_mem _ hv))
def ent (P : Program) (w : World) (x : List Int × Addr) : Int × Value := ((TK P w).hash x.1, .ref x.2)
def SetP (P : Program) (w : World) (h : Heap) (a : Addr) (L : List (List Int × Addr)) : Prop := ∃ (o : Obj) (es : Array (Int × Value)) (ep : Nat) (t : SetTable), h.get? a = some o ∧ o.ExactSet ∧ o.data = .set es ep t ∧
  es.toList.Perm (L.map (ent P w)) ∧ Tab (!byT w) t es.size ∧ es.size * 5 < t.mask * 3 ∧ Rea t fun i => (es[i]?).map (·.1)
theorem SetP.stay {h h' : Heap} {a : Addr} {L : List (List Int × Addr)} (x : SetP P w h a L) (k : ∀ o, h.get? a = some o → h'.get? a = some o) : SetP P w h' a L := by
  obtain ⟨o, es, ep, t, ho, r⟩ := x
  exact ⟨o, es, ep, t, k o ho, r⟩
def TupsOk (P : Program) (w : World) (h : Heap) (L : List (List Int × Addr)) : Prop := ∀ x ∈ L, (TK P w).is h x.1 x.2
theorem tup_stay {h h' : Heap} {k : List Int} {q : Addr} (x : (TK P w).is h k q) (st : ∀ o, h.get? q = some o → h'.get? q = some o) : (TK P w).is h' k q := by
  obtain ⟨o, its, n, ho, r⟩ := x
  exact ⟨o, its, n, st o ho, r⟩
theorem ent_of {h : Heap} {es : Array (Int × Value)} {L : List (List Int × Addr)} (hp : es.toList.Perm (L.map (ent P w))) (ok : TupsOk P w h L) : Ent P w h es := fun e he => by
  obtain ⟨x, hx, rfl⟩ := List.mem_map.mp (hp.mem_iff.mp he)
  exact ⟨x.1, x.2, rfl, ok x hx⟩
theorem has_iff {h : Heap} {es : Array (Int × Value)} {L : List (List Int × Addr)} (hp : es.toList.Perm (L.map (ent P w))) (ok : TupsOk P w h L) {k : List Int} : Has P w h es k ↔ k ∈ L.map (·.1) := by
  constructor
  · rintro ⟨q, hm, hq⟩
    obtain ⟨x, hx, e⟩ := List.mem_map.mp (hp.mem_iff.mp hm)
    have e2 : x.2 = q := by
      have := congrArg (fun e : Int × Value => e.2) e
      exact Value.ref.inj this
    have := (TK P w).inj (ok x hx) (by rw [e2]; exact hq)
    exact List.mem_map.mpr ⟨x, hx, this⟩
  · intro m
    obtain ⟨x, hx, rfl⟩ := List.mem_map.mp m
    exact ⟨x.2, hp.mem_iff.mpr (List.mem_map.mpr ⟨x, hx, rfl⟩), ok x hx⟩
def addT (L : List (List Int × Addr)) (x : List Int × Addr) : List (List Int × Addr) := if x.1 ∈ L.map (·.1) then L else L ++ [x]
theorem add_tup {a : Addr} {L : List (List Int × Addr)} {k : List Int} {q : Addr} {Q : Bool → Shared → Prop} (hS : SetP P w s.heap a L) (ok : TupsOk P w s.heap L) (hk : (TK P w).is s.heap k q) (room : (TK P w).room A) (hl : L.length ≤ 75)
    (h : ∀ h' b, Heap.SameBut a s.heap h' → SetP P w h' a (addT L (k, q)) → Q b { s with heap := h' }) : wpAny (model P w) A (setAddHashed a (.ref q) ((TK P w).hash k)) Q E s := by
  obtain ⟨o, es, ep, t, ho, hx, hd, hp, T, hfull, R⟩ := hS
  have hsz : es.size = L.length := by rw [← Array.length_toList, hp.length_eq, List.length_map]
  have hf := T.fits
  have hE := ent_of hp ok
  unfold setAddHashed setAddHashedIn
  refine wpAny_holding (wpAny_bind (wpAny_setState_of ho hd hf ?_))
  have hby : byScan (.ref q) es = false := rfl
  dsimp only
  rw [hby, if_neg (by decide)]
  refine wpAny_bind (search_ok ho hd T R hE hk room (fun hh r _ => ?_) (fun hn K N => ?_))
  · dsimp only
    have hin : k ∈ L.map (·.1) := (has_iff hp ok).mp hh
    refine wpAny_pure ?_
    have q1 := h s.heap false (Heap.SameBut.refl a s.heap) ⟨o, es, ep, t, ho, hx, hd, by unfold addT; rw [if_pos hin]; exact hp, T, hfull, R⟩
    exact q1
  · dsimp only
    have hout : k ∉ L.map (·.1) := fun m => hn ((has_iff hp ok).mpr m)
    have hmask : es.size + 1 ≤ t.mask := by
      rcases T.m3 with e | e | e <;> omega
    obtain ⟨T1, m1, hpl⟩ := T.put (pth_le K) N.out hmask
    have R1 := Rea.put (x := .ref q) T rfl R N
    have z1 : (SetTable.insertAt es (t.put (pth t ((TK P w).hash k) K)).2 ((TK P w).hash k, Value.ref q)).size = es.size + 1 := insertAt_size _ hpl
    have p1 : (SetTable.insertAt es (t.put (pth t ((TK P w).hash k) K)).2 ((TK P w).hash k, Value.ref q)).toList.Perm ((addT L (k, q)).map (ent P w)) := by
      unfold addT
      rw [if_neg hout, insertAt_list, List.map_append]
      refine (List.perm_middle).trans ?_
      rw [List.take_append_drop]
      exact (List.Perm.cons _ hp).trans (List.perm_append_comm (l₁ := [ent P w (k, q)]))
    refine wpAny_bind (wpAny_setState_of ho hd hf ?_)
    dsimp only
    rw [T1.plain, if_pos rfl]
    refine wpAny_bind (hbv_tup hk ?_)
    rw [if_pos rfl]
    generalize hes1 : SetTable.insertAt es (t.put (pth t ((TK P w).hash k) K)).2 ((TK P w).hash k, Value.ref q) = es1 at R1 z1 p1 ⊢
    generalize (t.put (pth t ((TK P w).hash k) K)).1 = t1 at T1 m1 R1 ⊢
    refine wpAny_bind (wpAny_storeSet_of ho hd ?_ (by rw [z1, sizeLine_eq]; omega))
    have ho1 := store_at (es' := es1) (t' := t1) ho hd
    have sb1 := Heap.SameBut.update s.heap a (Obj.putSet es1 t1)
    by_cases c : t1.tooFull = true
    · rw [c]
      have hn : es1.size * 5 ≥ t1.mask * 3 := by
        unfold SetTable.tooFull SetTable.fill at c
        rw [T1.dm, T1.sz] at c
        have := of_decide_eq_true c
        simp at this
        omega
      have hM : M3 (SetTable.sizeAbove (SetTable.grown (es.size + 1)) - 1) ∧ es1.size ≤ SetTable.sizeAbove (SetTable.grown (es.size + 1)) - 1 ∧ es1.size * 5 < (SetTable.sizeAbove (SetTable.grown (es.size + 1)) - 1) * 3 ∧ SetTable.sizeAbove (SetTable.grown (es.size + 1)) ≤ 1000 := by
        rcases T.m3 with e | e | e
        · have z : es.size = 4 := by omega
          rw [z1, z]
          exact ⟨.inr (.inl (by decide)), by decide, by decide, by decide⟩
        · have z : es.size = 18 := by omega
          rw [z1, z]
          exact ⟨.inr (.inr (by decide)), by decide, by decide, by decide⟩
        · omega
      obtain ⟨t2, order, e2, T2, m2, z2, p2, R2⟩ := relay_path (es := es1) (z1 ▸ T1) rfl (SetTable.grown (es.size + 1)) hM.1 hM.2.1
      rw [if_pos (by rfl)]
      unfold setRelay
      refine wpAny_bind (wpAny_bind (wpAny_setState_of ho1 rfl (z1 ▸ T1).fits ?_))
      dsimp only
      rw [if_neg (by rw [sizeLine_eq]; have := hM.2.2.2; omega), e2]
      refine wpAny_bind (wpAny_ite_split (fun q => ?_) (fun _ => wpAny_pure ?_))
      · have q' : ((order.filterMap (es1[·]?)).size != es1.size) = true := q
        rw [z2] at q'
        simp at q'
      dsimp only
      refine wpAny_storeSet_of ho1 rfl ?_ (by rw [z2, z1, sizeLine_eq]; omega)
      refine wpAny_pure ?_
      refine h _ true (sb1.trans (Heap.SameBut.update _ a _)) ⟨_, order.filterMap (es1[·]?), _, t2, store_at ho1 rfl, hx, rfl, p2.trans p1, z2 ▸ T2, ?_, R2⟩
      rw [z2, m2]; exact hM.2.2.1
    · rw [if_neg (by simpa using c)]
      refine wpAny_pure ?_
      refine h _ true sb1 ⟨_, es1, _, t1, ho1, hx, rfl, p1, z1 ▸ T1, ?_, R1⟩
      unfold SetTable.tooFull SetTable.fill at c
      rw [T1.dm, T1.sz] at c
      have := of_decide_eq_false (Bool.eq_false_iff.mpr c)
      simp at this
      omega
theorem addT_mem {L : List (List Int × Addr)} {x : List Int × Addr} {k : List Int} : k ∈ (addT L x).map (·.1) ↔ k ∈ L.map (·.1) ∨ k = x.1 := by
  unfold addT
  split
  · rename_i hin
    exact ⟨.inl, fun q => q.elim id fun q => by rw [q]; exact hin⟩
  · rw [List.map_append, List.mem_append]
    simp
theorem addT_nd {L : List (List Int × Addr)} {x : List Int × Addr} (nd : (L.map (·.1)).Nodup) : ((addT L x).map (·.1)).Nodup := by
  unfold addT
  split
  · exact nd
  · rename_i hn
    rw [List.map_append]
    exact nd_snoc nd hn
theorem addT_len (L : List (List Int × Addr)) (x : List Int × Addr) : (addT L x).length ≤ L.length + 1 := by
  unfold addT
  split
  · omega
  · rw [List.length_append]; exact Nat.le_refl _
theorem addT_all {L : List (List Int × Addr)} {x y : List Int × Addr} (h : y ∈ addT L x) : y ∈ L ∨ y = x := by
  unfold addT at h
  split at h
  · exact .inl h
  · rcases List.mem_append.mp h with q | q
    · exact .inl q
    · exact .inr (List.mem_singleton.mp q)
theorem loop_tup {R : Result → Shared → Prop} {I : Addr} {fp wr : List Addr} {G : Array GenState → Array GenState → Prop} {n : Nat} {Pv : Nat → Value → Prop} {St : Nat → Shared → Prop} (W : WalksS P w A.in1 I fp wr G n Pv St) {S : Addr} (hSf : S ∉ fp) {h₀ : Heap}
    (val : Nat → List Int × Addr) (hval : ∀ i v, Pv i v → v = .ref (val i).2 ∧ (TK P w).is h₀ (val i).1 (val i).2) (room : (TK P w).room A.in1) (hb : n ≤ 75) (hS0 : ∀ k q, (TK P w).is h₀ k q → q ≠ S ∧ q ∉ wr) : ∀ (m i : Nat) (z : Shared) (L : List (List Int × Addr)), n - i = m → i ≤ n → St i z →
      SetP P w z.heap S L → TupsOk P w h₀ L → (L.map (·.1)).Nodup → L.length ≤ i → (∀ b o, b ≠ S → b ∉ wr → h₀.get? b = some o → z.heap.get? b = some o) →
      (∀ z' L', Moved (S :: wr) G z z' → SetP P w z'.heap S L' → TupsOk P w h₀ L' → (L'.map (·.1)).Nodup → L'.length ≤ n → (∀ k, k ∈ L'.map (·.1) ↔ k ∈ L.map (·.1) ∨ ∃ j, i ≤ j ∧ j < n ∧ (val j).1 = k) → (∀ y ∈ L', y ∈ L ∨ ∃ j, i ≤ j ∧ j < n ∧ val j = y) → R (.ok (.ret .none)) z') →
      codeAny (model P w) A (.builtin "set.update.loop" ⟨[.ref S, .ref I], []⟩) R z := by
  have hSw : S ∉ wr := fun q => hSf (W.sub _ q)
  intro m
  induction m with
  | zero =>
    intro i z L hm hi st hS ok nd hl keep hR
    have e : i = n := by omega
    subst e
    refine codeAny_builtin F.entry_set_update_loop ?_
    rw [Around.under_plainId F.plain_set_update_loop _]
    refine wpAny_bind (m := pyNext (.ref I)) (W.done z _ _ st fun z' mv => wpAny_pure ?_)
    exact hR z' L (mv.mono fun b hb => List.mem_cons_of_mem _ hb) (hS.stay fun o q => mv.heap S o hSw q) ok nd hl (fun k => ⟨.inl, fun q => by
      rcases q with q | ⟨j, h1, h2, _⟩
      · exact q
      · omega⟩) fun y hy => .inl hy
  | succ m ih =>
    intro i z L hm hi st hS ok nd hl keep hR
    have hlt : i < n := by omega
    refine codeAny_builtin F.entry_set_update_loop ?_
    rw [Around.under_plainId F.plain_set_update_loop _]
    refine wpAny_bind (m := pyNext (.ref I)) (W.item i z _ _ hlt st fun v z' hv st' mv => ?_)
    obtain ⟨rfl, hk⟩ := hval i v hv
    have up : ∀ {k q}, (TK P w).is h₀ k q → (TK P w).is z'.heap k q := fun {k q} x => by
      obtain ⟨n1, n2⟩ := hS0 k q x
      exact tup_stay x fun o e => mv.heap q o n2 (keep q o n1 n2 e)
    refine wpAny_bind (m := holding _ _) (wpAny_holding ?_)
    unfold setAdd
    refine wpAny_holding (wpAny_bind ((TK P w).pyHash room (up hk) ?_))
    refine add_tup (s := { z' with toks := z'.toks + (TK P w).draws (val i).1 }) (hS.stay fun o q => mv.heap S o hSw q) (fun x hx => up (ok x hx)) (up hk) room (by omega) fun h' b sb hS' => ?_
    refine wpAny_pure ⟨plainId_quiet F.plain_set_update_loop _, ih (i + 1) _ (addT L (val i)) (by omega) hlt (W.frame _ z' _ _ st' (Nat.le_add_right _ _) fun b hb o q => ?_) hS' (fun x hx => ?_) (addT_nd nd) (Nat.le_trans (addT_len _ _) (Nat.succ_le_succ hl)) (fun b o h1 h2 h3 => ?_) fun z'' L' mv' hS'' ok' nd' hl' hx' ha' => ?_⟩
    · rw [sb.2 b fun q' : b = S => hSf (by rw [← q']; exact hb)]; exact q
    · rcases addT_all hx with q | q
      · exact ok x q
      · rw [q]; exact hk
    · rw [sb.2 b h1]
      exact mv.heap b o h2 (keep b o h1 h2 h3)
    · refine hR z'' L' (Moved.trans W.gtrans ((mv.mono fun b hb => List.mem_cons_of_mem _ hb).then_heap (Nat.le_add_right _ _) fun b o hb q => ?_) mv') hS'' ok' nd' hl' (fun k => ?_) fun y hy => ?_
      · rw [sb.2 b fun q' : b = S => hb (by rw [q']; exact List.mem_cons_self)]; exact q
      · rw [hx' k, addT_mem]
        constructor
        · rintro ((q | q) | ⟨j, h1, h2, h3⟩)
          · exact .inl q
          · exact .inr ⟨i, Nat.le_refl _, hlt, q.symm⟩
          · exact .inr ⟨j, by omega, h2, h3⟩
        · rintro (q | ⟨j, h1, h2, h3⟩)
          · exact .inl (.inl q)
          · rcases Nat.lt_or_ge i j with c | c
            · exact .inr ⟨j, c, h2, h3⟩
            · have : j = i := by omega
              subst this
              exact .inl (.inr h3.symm)
      · rcases ha' y hy with q | ⟨j, h1, h2, h3⟩
        · rcases addT_all q with q | q
          · exact .inl q
          · exact .inr ⟨i, Nat.le_refl _, hlt, q.symm⟩
        · exact .inr ⟨j, by omega, h2, h3⟩
theorem setP_new {h : Heap} {a : Addr} (e : h.get? a = some (setO (!byT w))) : SetP P w h a [] := by
  obtain ⟨o, es, ep, t, ho, hx, hd, hel, hp, T, hf⟩ := setI_new (P := P) e
  refine ⟨o, es, ep, t, ho, hx, hd, ?_, T, hf, fun i h' hi => ?_⟩
  · have : es.toList = [] := by
      have := hp.length_eq
      rw [List.length_map] at this
      exact List.eq_nil_of_length_eq_zero this
    rw [this]; exact .nil
  · have : es.size = 0 := by
      have := hp.length_eq
      rw [List.length_map, Array.length_toList] at this
      exact this
    have hn : es[i]? = none := Array.getElem?_eq_none (by omega)
    have hi' : (es[i]?).map (·.1) = some h' := hi
    rw [hn] at hi'
    cases hi'
set_option maxHeartbeats 3200000 in
theorem set_of_tups {l : Addr} {its : Array Value} {val : Nat → List Int × Addr} {Q : Value → Shared → Prop} (hcalm : A.handled = none) (hL : s.heap.IsList l its) (hns : ∀ (i : Nat) (v : Value), its[i]? = some v → v = .ref (val i).2 ∧ (TK P w).is s.heap (val i).1 (val i).2) (hb : its.size ≤ 75) (room : A.units + 3 < cLine)
    (h : ∀ (h' : Heap) (tk : Nat) (L : List (List Int × Addr)), SetP P w h' s.heap.objs.size L → TupsOk P w s.heap L → (L.map (·.1)).Nodup → L.length ≤ its.size → (∀ k, k ∈ L.map (·.1) ↔ ∃ j, j < its.size ∧ (val j).1 = k) → (∀ y ∈ L, ∃ j, j < its.size ∧ val j = y) → (∀ b o, s.heap.get? b = some o → h'.get? b = some o) → Q (.ref s.heap.objs.size) { s with heap := h', toks := tk }) :
    wpAny (model P w) A (call (.type "set") [.ref l]) Q E s := by
  obtain ⟨mc, mt, hmro⟩ := PySem.F.called_set.mro
  have made := PySem.F.called_set.made
  have sub := PySem.F.called_set.sub
  refine wpAny_call (codeAny_of_tree ?_)
  show wpAny _ _ (callAny (.type "set") _) _ _ _
  refine wpAny_pure ⟨Code.quiet_builtin _ (by decide +kernel), codeAny_builtin PySem.F.entry_type_call ?_⟩
  rw [Around.under_plain (weight_type_call_type "set" [.ref l] []) rfl]
  have t1 := PySem.F.called_set.notType
  have t2 := PySem.F.called_set.canCreate
  have t3 := PySem.F.typeCall_set_1 (.ref l)
  repeat (any_goals (first | assumption | wp_step))
  refine codeAny_mono (new_set (.ref l) (E := E) (Q₁ := fun ob z => ob = .ref s.heap.objs.size ∧ z = { s with heap := s.heap.push (setO (!byT w)) }) ⟨rfl, rfl⟩) fun r z hr => ?_
  cases r with
  | error e => exact hr
  | ok fl =>
    cases fl with
    | ret ob =>
      obtain ⟨rfl, rfl⟩ := hr
      have hS : (s.heap.push (setO (!byT w))).get? s.heap.objs.size = some (setO (!byT w)) := Heap.get?_push_size _ rfl
      have hT : Shared.TypeIs { s with heap := s.heap.push (setO (!byT w)) } (.ref s.heap.objs.size) "set" := ⟨_, hS, rfl⟩
      have u1 := PySem.F.called_set.init.lookup
      have u2 := PySem.F.called_set.init.bind (.ref s.heap.objs.size)
      repeat (any_goals (first | assumption | wp_step))
      refine codeAny_mono (codeAny_call_builtin (R := wants (fun r z => r = .none ∧ ∃ h' tk L, z = { s with heap := h', toks := tk } ∧ SetP P w h' s.heap.objs.size L ∧ TupsOk P w s.heap L ∧ (L.map (·.1)).Nodup ∧ L.length ≤ its.size ∧ (∀ k, k ∈ L.map (·.1) ↔ ∃ j, j < its.size ∧ (val j).1 = k) ∧ (∀ y ∈ L, ∃ j, j < its.size ∧ val j = y) ∧ (∀ b o, s.heap.get? b = some o → h'.get? b = some o)) E)
        PySem.F.called_set.init.plain PySem.F.entry_set_init (check_set_init_1 hT ?_)) fun r z hr => ?_
      · obtain ⟨ol, hol, oc, nl, od⟩ := hL
        obtain ⟨c0, d0, x0, sl0⟩ := ol
        simp only at oc od
        subst oc
        subst od
        have hol1 : (s.heap.push (setO (!byT w))).get? l = some { cls := .type "list", dict := d0, data := .seq its nl, slots := sl0 } := Heap.get?_push_of_some _ hol
        have v1 := PySem.F.sub_list_set
        have v2 := PySem.F.sub_list_frozenset
        have v3 : (Value.type "list" == Value.type "dict") = false := by decide
        have hl1 : (s.heap.push (setO (!byT w))).IsList l its := ⟨_, hol1, rfl, nl, rfl⟩
        unfold Builtin.«set.__init__» noKeywords Builtin.Frozenset.updateFrom
        have hS' : (s.heap.push (setO (!byT w))).get? s.heap.objs.size = some { cls := .type "set", dict := none, data := .set #[] 0 (.fresh 0 0 (!byT w)) } := hS
        generalize hPI : pyIter = PI
        wp_walk
        subst hPI
        refine wpAny_pyIter_list hl1 (wpAny_bind (wpAny_runValue ?_))
        have lS : l < s.heap.objs.size := Heap.lt_size hol
        have calm3 : A.in1.in1.in1.handled = none := by simp [hcalm]
        have nI : l ≠ (s.heap.push (setO (!byT w))).objs.size := by rw [Heap.size_push]; exact Nat.ne_of_lt (Nat.lt_succ_of_lt lS)
        have nS : s.heap.objs.size ∉ [(s.heap.push (setO (!byT w))).objs.size, l] := by
          rw [Heap.size_push]
          intro q
          rcases List.mem_cons.mp q with q | q
          · exact absurd q (Nat.ne_of_lt (Nat.lt_succ_self _))
          · rw [List.mem_singleton] at q
            exact absurd q (Nat.ne_of_gt lS)
        refine loop_tup ((Walks.list calm3 _ l nI its).toS) nS (h₀ := s.heap) val hns (by show A.units + 1 + 1 + 1 < cLine; omega) hb (fun k q x => ?_) its.size 0 _ [] (by omega) (Nat.zero_le _)
          ⟨⟨_, Heap.get?_push_size _ rfl, rfl, rfl⟩, hl1.push _⟩ (setP_new (Heap.get?_push_of_some _ hS)) (fun x hx => by cases hx) List.nodup_nil (Nat.le_refl _) (fun b o _ _ q => Heap.get?_push_of_some _ (Heap.get?_push_of_some _ q)) fun z' L mv hI ok nd hk hx ha => ?_
        · obtain ⟨o, _, _, ho, _⟩ := x
          have lt := Heap.lt_size ho
          refine ⟨Nat.ne_of_lt lt, fun m => ?_⟩
          rw [List.mem_singleton, Heap.size_push] at m
          exact absurd m (Nat.ne_of_lt (Nat.lt_succ_of_lt lt))
        obtain ⟨zh, zg, zd, zt, zo⟩ := z'
        have e1 : zg = s.gens := mv.gens
        have e2 : zd = s.drawn := mv.drawn
        have e3 : zo = s.os := mv.os
        subst e1
        subst e2
        subst e3
        refine wpAny_pure (wpAny_pure ⟨rfl, zh, zt, L, rfl, hI, ok, nd, hk, fun k => ?_, fun y hy => ?_, fun b o q => ?_⟩)
        · rw [hx k]
          constructor
          · rintro (q | ⟨j, _, h2, h3⟩)
            · cases q
            · exact ⟨j, h2, h3⟩
          · rintro ⟨j, h2, h3⟩
            exact .inr ⟨j, Nat.zero_le _, h2, h3⟩
        · rcases ha y hy with q | ⟨j, _, h2, h3⟩
          · cases q
          · exact ⟨j, h2, h3⟩
        · have lb := Heap.lt_size q
          refine mv.heap b o (fun m => ?_) (Heap.get?_push_of_some _ (Heap.get?_push_of_some _ q))
          rcases List.mem_cons.mp m with m | m
          · exact absurd m (Nat.ne_of_lt lb)
          · rw [List.mem_singleton, Heap.size_push] at m
            exact absurd m (Nat.ne_of_lt (Nat.lt_succ_of_lt lb))
      · cases r with
        | error e => exact hr
        | ok fl =>
          cases fl with
          | ret r =>
            obtain ⟨rfl, h', tk, L, rfl, a1, a2, a3, a4, a5, a6, a7⟩ := hr
            repeat (any_goals (first | assumption | wp_step))
            exact h _ _ L a1 a2 a3 a4 a5 a6 a7
          | _ => exact hr.elim
    | _ => exact hr.elim
end
end L2
namespace L2
open PySem PySem.Spec PyProof.Rows STab
section
variable {P : Program} {w : World} {A : Around} {E : Value → Shared → Prop} {s : Shared}
end
end L2
namespace L2
open PySem PySem.Spec PyProof.Rows
def zipO (f0 f1 : Value) (TI TO : Addr) : Obj := { cls := .type "zip", dict := none, data := .fields #[f0, f1, .bool false, .ref TI, .ref TO], slots := #[] }
section
variable {P : Program} {w : World} {A : Around} {E : Value → Shared → Prop} {s : Shared}
end
end L2
namespace L2
open PySem PySem.Spec PyProof.Rows
section
variable {P : Program} {w : World} {A : Around} {E : Value → Shared → Prop} {s : Shared}
def lstO (its : Array Value) (c : Nat) : Obj := { cls := .type "list", data := .seq its c }
structure ZP (h : Heap) (N S : Addr) (xs ys : Array Value) (Ts : List Addr) (c : Nat) : Prop where
  lst : h.get? S = some (lstO (Ts.map Value.ref).toArray c)
  prs : ∀ (j : Nat) (T : Addr), Ts[j]? = some T → ∃ x y, xs[j]? = some x ∧ ys[j]? = some y ∧ IsPair h T x y
  lo : ∀ T ∈ Ts, N ≤ T
  nd : Ts.Nodup
structure ZS (h : Heap) (z TI TO i1 i2 l1 l2 N S : Addr) (xs ys : Array Value) (Ts : List Addr) (c : Nat) : Prop where
  zp : ZP h N S xs ys Ts c
  zip : (Ts = [] ∧ IsZip h z TI TO .none ∧ ∃ a b, IsPair h TO a b) ∨ (∃ T f1, T ∈ Ts ∧ h.get? z = some (zipO (rawInt T) f1 TI TO))
  ti : IsPair h TI (.ref i1) (.ref i2)
  a1 : h.IsListIter i1 l1 Ts.length
  a2 : h.IsListIter i2 l2 Ts.length
  b1 : h.IsList l1 xs
  b2 : h.IsList l2 ys
  sz : N ≤ h.objs.size
end
section
variable {X : Cx} {pins : List (Addr × Obj)} {σ : St} {H H' : Hp} {s : Shared} {h' : Heap}
end
end L2
namespace L2
open PySem PySem.Spec PyProof.Rows STab
def setTO (P : Program) (w : World) (a : Addr) (L : List (List Int × Addr)) : HO := .ext fun h => SetP P w h a L
section
variable {X : Cx}
theorem tk_of {P : Program} {w : World} {H : Hp} {h : Heap} {a : Addr} {k : List Int} (ok : HOk P w H h) (e : H a = some (.tup (k.map V.int))) : (TK P w).is h k a := by
  obtain ⟨z0, its, r, o, h1, h2, n, h3⟩ := (show ObjOk P w H h a (.tup (k.map V.int)) from ok a _ e)
  refine ⟨o, its.toArray, n, h1, h2, h3, ?_⟩
  show ItemsAre _ k its
  clear e h3 h1 z0
  induction k generalizing its with
  | nil => cases r; exact .nil
  | cons x k ih =>
    cases r with
    | cons rx rt =>
      obtain ⟨t, rfl⟩ := rx
      exact .cons (intKind_is _ _ _ _) (ih _ rt)
def rSetT (P : Program) (w : World) : List V → Hp → VK → Prop := fun xs H Q => ∃ (p : Addr) (as : List Addr) (ks : List (List Int)), xs = [.ref p] ∧ H p = some (.lst (as.map V.ref)) ∧ Paired (fun a k => H a = some (.tup (k.map V.int))) as ks ∧ ks.length ≤ 75 ∧
  ∀ L : List (List Int × Addr), (L.map (·.1)).Nodup → L.length ≤ ks.length → (∀ k, k ∈ L.map (·.1) ↔ k ∈ ks) → (∀ y ∈ L, H y.2 = some (.tup (y.1.map V.int))) → ∀ q, H q = none → Q (.ref q) (upd H q (setTO P w q L))
theorem call_set_tups (hc : X.calm = true) (hu : X.A.units + 8 < cLine) : CallR X (.type "set") (rSetT X.prog X.w) := by
  intro pins s σ H xs us Q I r h
  obtain ⟨p, as, ks, rfl, hp, ht, hn, q⟩ := h
  obtain ⟨u, rfl, rx⟩ := vals1 r
  cases rx
  obtain ⟨z, its, n, rv, e⟩ := (show ObjOk X.prog X.w H s.heap p (.lst (as.map V.ref)) from I.hok p _ hp)
  have er := refs_are rv
  subst er
  have hl := Paired.length ht
  have val : ∀ (i : Nat) (v : Value), (as.map Value.ref).toArray[i]? = some v → v = .ref (as.getD i 0) ∧ (TK X.prog X.w).is s.heap (ks.getD i []) (as.getD i 0) ∧ ks[i]? = some (ks.getD i []) ∧ H (as.getD i 0) = some (.tup ((ks.getD i []).map V.int)) := fun i v hv => by
    rw [List.getElem?_toArray, List.getElem?_map] at hv
    cases ha : as[i]? with
    | none => rw [ha] at hv; cases hv
    | some a =>
      rw [ha] at hv
      obtain ⟨k, hk, hH⟩ := Toy.paired_at ht ha
      have e1 : as.getD i 0 = a := by rw [List.getD_eq_getElem?_getD, ha]; rfl
      have e2 : ks.getD i [] = k := by rw [List.getD_eq_getElem?_getD, hk]; rfl
      rw [e1, e2]
      exact ⟨(Option.some.inj hv).symm, tk_of I.hok hH, hk, hH⟩
  have some_at : ∀ i, i < (as.map Value.ref).toArray.size → ∃ v, (as.map Value.ref).toArray[i]? = some v := fun i hi => ⟨_, Array.getElem?_eq_getElem hi⟩
  refine set_of_tups (its := (as.map Value.ref).toArray) (val := fun i => (ks.getD i [], as.getD i 0)) (I.ok.hd hc) ⟨_, e, rfl, n, rfl⟩ (fun i v hv => ⟨(val i v hv).1, (val i v hv).2.1⟩) (by rw [List.size_toArray, List.length_map]; omega) (by omega) fun h' tk L a1 a2 a3 a4 a5 a6 a7 => ?_
  rw [List.size_toArray, List.length_map] at a4
  refine ⟨.ref s.heap.objs.size, _, I.laid (a := s.heap.objs.size) (o := setTO X.prog X.w s.heap.objs.size L) (t' := tk) a7 (Nat.le_refl _) ⟨a1, ?_, ?_⟩, rfl, q L a3 (by omega) (fun k => ?_) (fun y hy => ?_) _ (I.hok.fresh (Nat.le_refl _))⟩
  · obtain ⟨o, _, _, _, ho, _⟩ := a1
    exact ⟨o, ho⟩
  · intro h1 h2 x k
    exact x.stay k
  · rw [a5 k]
    constructor
    · rintro ⟨j, hj, rfl⟩
      obtain ⟨v, hv⟩ := some_at j hj
      exact List.mem_of_getElem? (val j v hv).2.2.1
    · intro m
      obtain ⟨j, hj⟩ := List.mem_iff_getElem?.mp m
      have := (List.getElem?_eq_some_iff.mp hj).1
      exact ⟨j, by rw [List.size_toArray, List.length_map]; omega, by show ks.getD j [] = k; rw [List.getD_eq_getElem?_getD, hj]; rfl⟩
  · obtain ⟨j, hj, rfl⟩ := a6 y hy
    obtain ⟨v, hv⟩ := some_at j hj
    exact (val j v hv).2.2.2
end
end L2
namespace L2
open PySem PySem.Spec PyProof.Rows
section
variable {P : Program} {w : World} {H : Hp} {h h' : Heap} {T : Addr} {ps more : Array Value} {fs ex : List Addr}
theorem HOk.grow (x : HOk P w H h) (hT : H T = some (.tbl ps)) (k : ∀ b o, b ≠ T → h.get? b = some o → h'.get? b = some o) (hT' : h'.get? T = some { cls := .none, data := .fields (ps ++ more) }) : HOk P w (upd H T (.tbl (ps ++ more))) h' := fun b u e => by
  by_cases hb : b = T
  · subst hb; rw [upd_same] at e; cases e; exact hT'
  · rw [upd_ne hb] at e
    refine (x b u e).stay (fun c v hc q => k c v ?_ q) (fun c q => ?_) fun c xs q => ?_
    · rcases hc with rfl | hc
      · exact hb
      · rintro rfl; rw [hT] at hc; cases hc
    · rw [upd_ne (by rintro rfl; rw [hT] at q; cases q)]; exact q
    · rw [upd_ne (by rintro rfl; rw [hT] at q; cases q)]; exact q
theorem Un.grow (hT : H T = some (.tbl ps)) (k : ∀ b o, b ≠ T → h.get? b = some o → h'.get? b = some o) (hT' : h'.get? T = some { cls := .none, data := .fields (ps ++ more) }) : Un fs ex H (upd H T (.tbl (ps ++ more))) h h' := by
  have hn : ∀ b, H b = none → b ≠ T := fun b n z => by rw [z, hT] at n; cases n
  refine ⟨fun b o e n _ _ => k b o (hn b n) e, fun b o e n _ _ => ⟨o.slots, k b o (hn b n) e⟩, fun b o e n _ => by rw [upd_ne (hn b n)]; exact n, fun b o e _ => ?_, fun b xs q => ?_, fun b o u q => ?_, fun b qs q => ?_⟩
  · by_cases hb : b = T
    · rw [hb]; exact ⟨_, hT'⟩
    · exact ⟨o, k b o hb e⟩
  · rw [upd_ne (by rintro rfl; rw [hT] at q; cases q)]; exact q
  · rw [upd_ne (by rintro rfl; rw [hT] at q; cases q)]; exact q
  · by_cases hb : b = T
    · subst hb
      rw [hT] at q; cases q
      exact ⟨more, upd_same⟩
    · exact ⟨#[], by rw [upd_ne hb, q]; simp⟩
end
def TabAt (H : Hp) (T : Addr) (pos : Pos) (q : Str) : Prop :=
  ∃ ps : Array Value, H T = some (.tbl ps) ∧ TriplesOk ps.toList ∧ (codeAmong pos ps.toList = none ∨ ∃ c, codeAmong pos ps.toList = some (.ref c) ∧ H c = some (.ext fun h => h.CodeRec (.ref c) q))
def SameT (T : Addr) (H H' : Hp) : Prop := ∀ b u, b ≠ T → H b = some u → H' b = some u
theorem SameT.refl {T : Addr} {H : Hp} : SameT T H H := fun _ _ _ e => e
theorem SameT.trans {T : Addr} {H H1 H2 : Hp} (a : SameT T H H1) (b : SameT T H1 H2) : SameT T H H2 := fun c u n e => b c u n (a c u n e)
theorem TabAt.same {H H' : Hp} {T : Addr} {pos : Pos} {q : Str} (x : TabAt H T pos q) (s : ∀ b u, H b = some u → H' b = some u) : TabAt H' T pos q := by
  obtain ⟨ps, h1, h2, h3⟩ := x
  refine ⟨ps, s _ _ h1, h2, h3.imp id ?_⟩
  rintro ⟨c, e1, e2⟩
  exact ⟨c, e1, s _ _ e2⟩
theorem codeRec_keeps {h h' : Heap} {v : Value} {q : Str} (x : h.CodeRec v q) (k : ∀ b o, h.get? b = some o → h'.get? b = some o) : h'.CodeRec v q := by
  obtain ⟨c, o, vs, t, e, ho, r⟩ := x
  exact ⟨c, o, vs, t, e, k _ _ ho, r⟩
section
variable {X : Cx} {pins : List (Addr × Obj)} {σ : St} {H : Hp} {s : Shared}
theorem lam_make {params : Arguments} {body : Expr} {scope : Scope} {pos : Pos} {c T : Addr} {Q : Value → Shared → Prop} {E : Value → Shared → Prop} (I : Inv X pins σ H s) (hcode : X.env.code = .ref c) (hC : PySem.W.CodeHd X.base c T)
    (hB : X.base.BuiltinsAt X.mg T) (hfr : ∀ p ∈ scope.names, p.2 = .free → X.env.kindOf p.1 = some .cell ∨ X.env.kindOf p.1 = some .free) (hdef : defaultsOf params X.env = ([], [])) (hT : TabAt H T pos (X.env.qual ++ "<lambda>"))
    (h : ∀ f c' ctv H' s', Inv X pins σ H' s' → s'.heap.get? f = some (PySem.W.kla_obj "<lambda>" (X.env.qual ++ "<lambda>") params body scope (clOf scope X.env) ((X.mg "__name__").getD .none) c' ctv) → s'.heap.CodeRec (.ref c') (X.env.qual ++ "<lambda>") →
      H' f = none → TabAt H' T pos (X.env.qual ++ "<lambda>") → SameT T H H' → s'.heap.objs.size = f + 1 → Q (.ref f) s') :
    wpAny (model X.prog X.w) X.A (eval (.Lambda params body scope pos) X.env) Q E s := by
  have hclos : closureFor scope X.env = pure (clOf scope X.env) := closure_eq fun p hp e => I.ok.has p.1 (hfr p hp e)
  obtain ⟨ps, hP, htr, hk⟩ := hT
  have hPh : s.heap.get? T = some { cls := .none, data := .fields ps } := I.hok T _ hP
  have hg : s.heap.Ns mainGlobals X.mg := I.mod.glob.keeps I.bk
  have hgP : mainGlobals ≠ T := fun q => by
    obtain ⟨o, es, ep, e, hd, _⟩ := hg
    rw [q, hPh] at e; cases e; cases hd
  have hb : s.heap.BuiltinsAt X.mg T := by
    obtain ⟨bm, ob, b1, b2, b3, b4, b5, b6⟩ := hB
    exact ⟨bm, ob, b1, b2, b3, b4, I.bk _ _ b5, b6⟩
  refine PySem.W.kla_eval hdef ?_
  rcases hk with hk | ⟨c', hk, hc'⟩
  · refine PySem.W.kla_makeFunction (mg := X.mg) hclos I.ok.glob hg hcode (hC.keeps I.bk) hPh htr hk hgP hb fun c' ctv h' tk hx hge hlt hrec htb => ?_
    have kx : ∀ b o, b ≠ T → s.heap.get? b = some o → (h'.push (PySem.W.kla_obj "<lambda>" (X.env.qual ++ "<lambda>") params body scope (clOf scope X.env) ((X.mg "__name__").getD .none) c' ctv)).get? b = some o := fun b o hb e => Heap.get?_push_of_some _ (hx b o hb e)
    have htb' := Heap.get?_push_of_some (PySem.W.kla_obj "<lambda>" (X.env.qual ++ "<lambda>") params body scope (clOf scope X.env) ((X.mg "__name__").getD .none) c' ctv) htb
    have hrec' := codeRec_keeps hrec fun b o e => Heap.get?_push_of_some (PySem.W.kla_obj "<lambda>" (X.env.qual ++ "<lambda>") params body scope (clOf scope X.env) ((X.mg "__name__").getD .none) c' ctv) e
    have hTlt : T < s.heap.objs.size := Heap.lt_size hPh
    have cT : c' ≠ T := fun z => absurd (Nat.lt_of_lt_of_le hTlt hge) (by rw [z]; exact Nat.lt_irrefl _)
    have hn : (upd H T (.tbl (ps ++ #[rawInt pos.line, rawInt pos.col, .ref c']))) c' = none := by rw [upd_ne cT]; exact I.hok.fresh hge
    have ok1 := HOk.grow (more := #[rawInt pos.line, rawInt pos.col, .ref c']) I.hok hP kx htb'
    have new : ObjOk X.prog X.w (upd (upd H T (.tbl (ps ++ #[rawInt pos.line, rawInt pos.col, .ref c']))) c' (.ext fun h => h.CodeRec (.ref c') (X.env.qual ++ "<lambda>"))) (h'.push (PySem.W.kla_obj "<lambda>" (X.env.qual ++ "<lambda>") params body scope (clOf scope X.env) ((X.mg "__name__").getD .none) c' ctv)) c'
        (.ext fun h => h.CodeRec (.ref c') (X.env.qual ++ "<lambda>")) := by
      refine ⟨hrec', ?_, fun h1 h2 p k => ?_⟩
      · obtain ⟨c2, o, vs, t, e, ho, _⟩ := hrec'
        cases e
        exact ⟨o, ho⟩
      · obtain ⟨c2, o, vs, t, e, ho, r⟩ := p
        cases e
        exact ⟨c', o, vs, t, rfl, k o ho, r⟩
    refine h h'.objs.size c' ctv (upd (upd H T (.tbl (ps ++ #[rawInt pos.line, rawInt pos.col, .ref c']))) c' (.ext fun h => h.CodeRec (.ref c') (X.env.qual ++ "<lambda>"))) _ (I.un ((Un.grow hP kx htb').track hn hge) (HOk.track ok1 hn new)) (Heap.get?_push_size _ rfl) hrec' ?_ ?_ ?_ (Heap.size_push _ _)
    · rw [upd_ne (Nat.ne_of_gt hlt), upd_ne (Nat.ne_of_gt (Nat.lt_trans (Nat.lt_of_lt_of_le hTlt hge) hlt))]
      exact I.hok.fresh (Nat.le_trans hge (Nat.le_of_lt hlt))
    · refine ⟨_, by rw [upd_ne (Ne.symm cT)]; exact upd_same, ?_, .inr ⟨c', ?_, upd_same⟩⟩
      · rw [Array.toList_append]
        exact TriplesOk_snoc _ _ _ _ htr
      · rw [Array.toList_append]
        exact codeAmong_snoc _ htr hk
    · intro b u nb e
      rw [upd_ne (fun z => by rw [z, I.hok.fresh hge] at e; cases e), upd_ne nb]
      exact e
  · have hrec : s.heap.CodeRec (.ref c') (X.env.qual ++ "<lambda>") := (I.hok c' _ hc').1
    refine PySem.W.kla_makeFunctionHit (mg := X.mg) hclos I.ok.glob hg hcode (hC.keeps I.bk) hPh htr hk hb fun ctv h' tk hkp hsz => ?_
    have kx : ∀ b o, s.heap.get? b = some o → (h'.push (PySem.W.kla_obj "<lambda>" (X.env.qual ++ "<lambda>") params body scope (clOf scope X.env) ((X.mg "__name__").getD .none) c' ctv)).get? b = some o := fun b o e => Heap.get?_push_of_some _ (hkp b o e)
    exact h h'.objs.size c' ctv H _ (I.kept kx) (Heap.get?_push_size _ rfl) (codeRec_keeps hrec kx) (I.hok.fresh hsz) ⟨ps, hP, htr, .inr ⟨c', hk, hc'⟩⟩ SameT.refl (Heap.size_push _ _)
end
section
variable {X : Cx} {pins : List (Addr × Obj)} {σ : St} {H : Hp} {s : Shared}
theorem Inv.butL {h' : Heap} {t' : Nat} {m : Str → Option Value} (I : Inv X pins σ H s) (hm : s.heap.Ns X.env.locals m) (hm' : h'.Ns X.env.locals m) (k : ∀ b o, b ≠ X.env.locals → s.heap.get? b = some o → h'.get? b = some o) :
    Inv X pins σ H { s with heap := h', toks := t' } := by
  have nL : ∀ b u, H b = some u → b ≠ X.env.locals := fun b u e z => by rw [z, I.free] at e; cases e
  refine I.step (g' := s.gens) (d' := s.drawn) (ch := []) (fun _ z => nomatch z) (fun b o hb _ _ e _ => k b o hb e) (fun b o hb _ _ e _ => ⟨o.slots, k b o hb e⟩) (fun _ _ _ _ n => n) (fun b o _ e => ?_) (fun _ _ e => e) (fun _ _ _ e => e) (fun b ps e => ⟨#[], by rw [e]; simp⟩) (fun m' hn => ?_) (fun b u e => ?_) I.bare
  · by_cases hb : b = X.env.locals
    · obtain ⟨o', _, _, e', _⟩ := hm'
      exact ⟨o', by rw [hb]; exact e'⟩
    · exact ⟨o, k b o hb e⟩
  · have em : m' = m := by
      obtain ⟨o1, es1, ep1, e1, d1, _, f1⟩ := hn
      obtain ⟨o2, es2, ep2, e2, d2, _, f2⟩ := hm
      rw [e1] at e2; cases e2
      rw [d1] at d2; cases d2
      funext x
      rw [← f1 x, ← f2 x]
    rw [em]; exact hm'
  · refine (I.hok b u e).stay (fun c v hc q => k c v ?_ q) (fun _ q => q) fun _ _ q => q
    rcases hc with z | z
    · rw [z]; exact nL b u e
    · exact nL c _ z
theorem Inv.track {a : Addr} {o : HO} (I : Inv X pins σ H s) (hn : H a = none) (hp : X.s₀.heap.objs.size ≤ a) (hL : a ≠ X.env.locals) (hc : ∀ x c, X.env.cells.lookup x = some c → c ≠ a) (hpn : ∀ p ∈ X.pn ++ pins, p.1 ≠ a)
    (new : ObjOk X.prog X.w (upd H a o) s.heap a o) : Inv X pins σ (upd H a o) s :=
  ⟨I.ok, I.os, I.bare, I.base.track hn hp, I.loc, I.cell, by rw [upd_ne (Ne.symm hL)]; exact I.free, fun x c e => by rw [upd_ne (hc x c e)]; exact I.freeC x c e, fun p hp => by
    obtain ⟨e, n, r⟩ := I.pin p hp
    exact ⟨e, by rw [upd_ne (hpn p hp)]; exact n, r⟩, HOk.track I.hok hn new, I.len⟩
end
structure LamSc (scope : Scope) (x y : Str) : Prop where
  cell : ∀ z ∈ scope.names, z.2 ≠ .cell
  kind : scope.kind = .function
  co : scope.isCoroutine = false
  gen : scope.isGenerator = false
  xl : scope.names.lookup x = some .local
  yf : scope.names.lookup y = some .free
  gl : scope.names.lookup ("len" : Str) = some .globalImplicit
  dx : (x == ("__debug__" : Str)) = false
  dy : (y == ("__debug__" : Str)) = false
  cy : (y == ("__classdict__" : Str)) = false
section
variable {prog : Program} {w : World} {A : Around} {s : Shared}
end
end L2
namespace L2
open PySem PySem.Spec PyProof.Rows
theorem SqL.sameT {K : PySem.W.Frag} {H H' : Hp} {T a : Addr} {ps : Array Value} {xs : List V} (h : SqL K H a xs) (hT : H T = some (.tbl ps)) (s : SameT T H H') : SqL K H' a xs := by
  rcases h with (h | ⟨o, h⟩) | h
  · exact .inl (.inl (s a _ (by rintro rfl; rw [hT] at h; cases h) h))
  · exact .inl (.inr ⟨o, s a _ (by rintro rfl; rw [hT] at h; cases h) h⟩)
  · exact .inr h
end L2
namespace L2
open PySem PySem.Spec PyProof.Rows
def cutK (K : PySem.W.Frag) (T : Addr) : PySem.W.Frag := K.filter fun p => p.1 != T
theorem cutK_ne {T b : Addr} (h : b ≠ T) : ∀ (K : PySem.W.Frag), (cutK K T).lookup b = K.lookup b
  | [] => rfl
  | (a, o) :: r => by
    have ih := cutK_ne h r
    unfold cutK at ih ⊢
    rw [List.filter_cons]
    by_cases e : a = T
    · have e1 : ((a, o).1 != T) = false := by simp [e]
      have e2 : (b == a) = false := by simp [e, h]
      rw [e1, List.lookup_cons, e2]
      simpa using ih
    · have e1 : ((a, o).1 != T) = true := by simp [e]
      rw [e1]
      simp only [if_true, List.lookup_cons]
      cases b == a with
      | true => rfl
      | false => exact ih
theorem cutK_at {T : Addr} : ∀ (K : PySem.W.Frag), (cutK K T).lookup T = none
  | [] => rfl
  | (a, o) :: r => by
    have ih := @cutK_at T r
    unfold cutK at ih ⊢
    rw [List.filter_cons]
    by_cases e : a = T
    · have e1 : ((a, o).1 != T) = false := by simp [e]
      rw [e1]
      simpa using ih
    · have e1 : ((a, o).1 != T) = true := by simp [e]
      have e2 : (T == a) = false := by simp [Ne.symm e]
      rw [e1]
      simp only [if_true, List.lookup_cons, e2]
      exact ih
theorem cutK_of {K : PySem.W.Frag} {hp : Heap} {T b : Addr} {o u : Obj} (KX : K.In hp) (hT : hp.get? T = some o) (h : K.lookup b = some u) (ne : u ≠ o) : (cutK K T).lookup b = some u := by
  rw [cutK_ne (fun e => ne (by rw [e] at h; have q := KX _ _ h; rw [hT] at q; exact (Option.some.inj q).symm))]
  exact h
theorem Fun.cut {K : PySem.W.Frag} {T : Addr} {x qual : Str} {st : Stmt} {f : Addr} {fd : FuncData} {hp : Heap} (F : Fun K x qual st f fd) (KX : K.In hp) (hT : hp.get? T = some (PySem.W.tabObj #[])) : Fun (cutK K T) x qual st f fd := by
  obtain ⟨⟨oc, od, kV, doc, pm, an, cdv, ct, osl, e, lk, hcd⟩, kp⟩ := F
  have lk' : (cutK K T).lookup f = some ⟨oc, od, .func fd, osl⟩ := cutK_of KX hT lk (fun z => by cases z)
  refine ⟨⟨oc, od, kV, doc, pm, an, cdv, ct, osl, e, lk', ?_⟩, ?_⟩
  · unfold PySem.W.codeIn at hcd ⊢
    cases cdv with
    | ref c =>
      simp only at hcd ⊢
      cases hc : K.lookup c with
      | none => rw [hc] at hcd; cases hcd
      | some o =>
        rw [cutK_of (u := o) KX hT hc (fun z => by rw [hc, z] at hcd; simp at hcd)]
        rw [hc] at hcd
        exact hcd
    | _ => exact hcd
  · unfold PySem.W.keepIn
    simp only [lk']
theorem law_callT {P : Program} {w : World} {K : PySem.W.Frag} {mg mb : Str → Option Value} {CX : CXT} {k : Nat} {fa a c T : Addr} {fd : FuncData} {x : Str} {sp : Sp} {s₁ : Shared} {vs : List Value} {ns : List Int}
    (KX : K.In s₁.heap) (hTh : s₁.heap.get? T = some (PySem.W.tabObj #[])) (hC : PySem.W.CodeHd s₁.heap c T) (hbm : ∃ bm ob, mg "__builtins__" = some (.ref bm) ∧ bm ≠ builtinsNs ∧ s₁.heap.get? bm = some ob ∧ ob.cls = .type "module" ∧ ob.dict = some builtinsNs ∧ ob.data = .plain)
    (hns : s₁.heap.Ns mainGlobals mg) (hb : s₁.heap.Ns builtinsNs mb) (hbb : ∀ x : Str, x ≠ "__name__" → mb x = bootBuiltins x) (hlim : s₁.heap.NoLimit) (hg : s₁.gens = #[])
    (ha : s₁.heap.get? a = some { cls := .type "list", data := .seq vs.toArray }) (hi : IntsAre vs ns) (hl : ns.length ≤ sizeLine) (hr : Room k callerA)
    (F : ∀ base : Heap, (cutK K T).In base → base.Ns mainGlobals mg → PySem.W.CodeHd base c T → base.BuiltinsAt mg T → FnOk P w (cutK K T) mg base CX k fa fd [x] sp) (hbind : ∀ (s : Shared) (u : Value), BindsTo s fd ⟨[u], []⟩ [(x, u)])
    (hsp : ∀ H : Hp, H T = some (.tbl #[]) → SqL (cutK K T) H a (ns.map V.int) → sp [.ref a] H (fun v _ => v = .bl true) fun _ _ _ => False)
    (hCX : ∀ H e s', CX [] H s₁ (fun _ _ _ => False) e s' → False) :
    codeAny (model P w) callerA (.call (.ref fa) ⟨[.ref a], []⟩) (fun r s' => r = .ok (.ret (.bool true)) ∧ OldK s₁.heap s'.heap ∧ s'.os = s₁.os ∧ AllBare s'.gens) s₁ := by
  have rv := vals_ints hi
  have lenV := hi.length
  have aT : a ≠ T := fun z => by rw [z, hTh] at ha; cases ha
  have core : ∀ H : Hp, H T = some (.tbl #[]) → SqL (cutK K T) H a (ns.map V.int) → HOk P w H s₁.heap → (∀ b, H b ≠ none → b = T ∨ (b = a ∧ ∃ o xs, H b = some (.frz o (.lst xs)))) → (H a ≠ none → K.lookup a = none) →
      codeAny (model P w) callerA (.call (.ref fa) ⟨[.ref a], []⟩) (fun r s' => r = .ok (.ret (.bool true)) ∧ OldK s₁.heap s'.heap ∧ s'.os = s₁.os ∧ AllBare s'.gens) s₁ := by
    intro H hHT hS hok hA hK
    have base_of : ∀ {b : Addr} {o : Obj}, s₁.heap.get? b = some o → H b = none → (hidT s₁.heap H).get? b = some o := fun e n => hidT_get e n
    have other : ∀ {b : Addr} {o : Obj}, s₁.heap.get? b = some o → o.cls ≠ .none → o.cls ≠ .type "list" ∨ (∀ xs n, o.data ≠ .seq xs n) → H b = none := fun {b o} e c1 c2 => by
      cases q : H b with
      | none => rfl
      | some u =>
        exfalso
        rcases hA b (by rw [q]; simp) with z | ⟨z, _⟩
        · rw [z, hTh] at e; cases e; exact c1 rfl
        · rw [z, ha] at e; cases e
          rcases c2 with c2 | c2
          · exact c2 rfl
          · exact c2 _ _ rfl
    have noD : ∀ {b : Addr} {o : Obj} {es : Array DictEntry} {ep : Nat}, s₁.heap.get? b = some o → o.data = .dict es ep → H b = none := fun {b o es ep} e d => by
      cases q : H b with
      | none => rfl
      | some u =>
        exfalso
        rcases hA b (by rw [q]; simp) with z | ⟨z, _⟩
        · rw [z, hTh] at e; cases e; cases d
        · rw [z, ha] at e; cases e; cases d
    have nsK : ∀ {b : Addr} {m : Str → Option Value}, s₁.heap.Ns b m → (hidT s₁.heap H).Ns b m := fun {b m} ⟨o, es, ep, e, d, r⟩ => ⟨o, es, ep, base_of e (noD e d), d, r⟩
    have hKb : (cutK K T).In (hidT s₁.heap H) := fun b o e => by
      have bT : b ≠ T := fun z => by rw [z, cutK_at] at e; cases e
      rw [cutK_ne bT] at e
      refine base_of (KX b o e) ?_
      cases q : H b with
      | none => rfl
      | some u =>
        exfalso
        rcases hA b (by rw [q]; simp) with z | ⟨z, _⟩
        · exact bT z
        · subst z
          rw [hK (by rw [q]; simp)] at e; cases e
    have hM : Mod (cutK K T) mg (hidT s₁.heap H) := ⟨hKb, nsK hns, ⟨mb, nsK hb, hbb⟩, let ⟨mc, h1, h2⟩ := hlim; ⟨mc, nsK h1, h2⟩⟩
    have e0 : Env0 P w (cutK K T) mg (hidT s₁.heap H) callerA [] s₁ H := ⟨rfl, hM, fun b o e => of_hidT e, Nat.le_of_eq (hidT_size _ _), trivial, fun b hb => absurd (show b ∈ ([] : List Addr) from hb) (by simp), hok, .of_eq hg⟩
    have hCb : PySem.W.CodeHd (hidT s₁.heap H) c T := by
      obtain ⟨o, us, file, tf, flags, tg, inF, text, tt, e1, e2, r⟩ := hC
      exact ⟨o, us, file, tf, flags, tg, inF, text, tt, base_of e1 (other e1 (by rw [e2]; simp) (.inl (by rw [e2]; simp))), e2, r⟩
    have hBb : (hidT s₁.heap H).BuiltinsAt mg T := by
      obtain ⟨bm, ob, b1, b2, b3, b4, b5, b6⟩ := hbm
      refine ⟨bm, ob, b1, b2, fun z => ?_, fun z => ?_, base_of b3 (other b3 (by rw [b4]; simp) (.inl (by rw [b4]; simp))), b4, b5, b6⟩
      · obtain ⟨o, es, ep, e, d, _⟩ := hns
        rw [z, e] at b3; cases b3; rw [d] at b6; cases b6
      · rw [z, hTh] at b3; cases b3; cases b4
    refine codeAny_mono ((F _ hKb (nsK hns) hCb hBb).run callerA [] s₁ H ⟨[.ref a], []⟩ [.ref a] [.ref a] _ _ hr e0 (hbind s₁ (.ref a)) (.cons rfl .nil) (hsp H hHT hS)) fun r s' h => ?_
    cases r with
    | error e => exact (hCX H e s' h).elim
    | ok fl =>
      cases fl with
      | next => exact False.elim h
      | brk => exact False.elim h
      | cont => exact False.elim h
      | ret u =>
        obtain ⟨v, H', os, bare, un, hok', r', q⟩ := h
        have q' : v = .bl true := q
        subst q'
        obtain rfl : u = Value.bool true := r'
        have tab : ∃ more : Array Value, s'.heap.get? T = some { cls := .none, data := .fields (#[] ++ more) } := by
          obtain ⟨more, e⟩ := un.tbls T _ hHT
          exact ⟨more, hok' T _ e⟩
        refine ⟨rfl, ⟨fun b o e => ?_, fun b o e => un.there b o e (by simp)⟩, os, bare⟩
        cases q : H b with
        | none => exact .inl (un.keep b o e q (by intro z; exact absurd (show b ∈ ([] : List Addr) from z) (by simp)) (by simp))
        | some u =>
          rcases hA b (by rw [q]; simp) with z | ⟨_, ob, xs, z⟩
          · subst z
            obtain ⟨more, e3⟩ := tab
            rw [hTh] at e; cases e
            exact .inr (.inl ⟨(hC.tab hTh).isCodeTable, rfl, #[], more, rfl, e3⟩)
          · have z2 := un.frzs b ob _ z
            obtain ⟨e1, _⟩ := hok b _ z
            obtain ⟨e2, _⟩ := hok' b _ z2
            rw [e] at e1; cases e1
            exact .inl e2
  cases hk : K.lookup a with
  | some o =>
    have e := KX a o hk
    rw [ha] at e
    cases e
    refine core (fun b => if b = T then some (.tbl #[]) else none) (if_pos rfl) (.inr ⟨_, vs.toArray, _, (cutK_ne aT K).trans hk, rfl, rfl, rfl, by rw [List.size_toArray, lenV]; exact hl, by simpa using rv⟩) (fun b u z => ?_) (fun b z => ?_) fun z => absurd (if_neg aT) z
    · by_cases hb : b = T
      · subst hb
        have z' := (if_pos rfl).symm.trans z
        cases z'
        exact hTh
      · exact absurd ((if_neg hb).symm.trans z) (by simp)
    · by_cases hb : b = T
      · exact .inl hb
      · exact absurd (if_neg hb) z
  | none =>
    refine core (fun b => if b = T then some (.tbl #[]) else if b = a then some (.frz { cls := .type "list", data := .seq vs.toArray } (.lst (ns.map V.int))) else none) (if_pos rfl)
      (.inl (.inr ⟨{ cls := .type "list", data := .seq vs.toArray }, (if_neg aT).trans (if_pos rfl)⟩)) (fun b u z => ?_) (fun b z => ?_) fun _ => hk
    · by_cases hb : b = T
      · subst hb
        have z' := (if_pos rfl).symm.trans z
        cases z'
        exact hTh
      · have z1 := (if_neg hb).symm.trans z
        by_cases hb2 : b = a
        · have z' := (if_pos hb2).symm.trans z1
          cases z'
          subst hb2
          exact ⟨ha, by rw [List.length_map]; exact hl, vs, _, rv, ha⟩
        · exact absurd ((if_neg hb2).symm.trans z1) (by simp)
    · by_cases hb : b = T
      · exact .inl hb
      · by_cases hb2 : b = a
        · exact .inr ⟨hb2, _, _, (if_neg hb).trans (if_pos hb2)⟩
        · exact absurd ((if_neg hb).trans (if_neg hb2)) z
structure FunC (K : PySem.W.Frag) (x qual : Str) (st : Stmt) (f : Addr) (fd : FuncData) (c : Addr) : Prop where
  ex : ∃ (oc : Value) (od : Option Addr) (kV doc pm : Value) (an : Option Addr) (ct : Value) (osl : Array (Option Value)),
    fd = PySem.W.fnOf x qual (defArgs st) (defBody st) (defScope st) .none kV doc pm an (.ref c) ct ∧ K.lookup f = some ⟨oc, od, .func fd, osl⟩ ∧ PySem.W.codeIn K (.ref c) qual = true
theorem FunC.ok {P : Program} {w : World} {K : PySem.W.Frag} {mg : Str → Option Value} {base : Heap} {x qual : Str} {st : Stmt} {f c : Addr} {fd : FuncData} {N ps : List Str} {k : Nat} {sp : Sp} (F : FunC K x qual st f fd c) (S : FnScope N ps (defScope st)) (len : ∀ vs H Q E, sp vs H Q E → vs.length = ps.length)
    (hbody : ∀ (A : Around) (outer : List Env) (s : Shared) (H : Hp) (vs : List V) (Q : VK) (E : XK), Room k (A.deeper (envOfC qual (defScope st) s.heap.objs.size f (.ref c))) → sp vs H Q E →
      ∃ t, PSs (cxOf CX0 P w K mg base N qual (defScope st) f (.ref c) A outer s H E).nox (defBody st) t ∧ t { nx := fun _ H' => Q .non H', rt := Q } (start N vs) H) : FnOk P w K mg base CX0 (k + 1) f fd ps sp := by
  obtain ⟨oc, od, kV, doc, pm, an, ct, osl, rfl, lk, hcd⟩ := F.ex
  refine fn_of lk hcd S len fun A outer s H vs Q E hr hsp => ?_
  obtain ⟨t, h, q⟩ := hbody A outer s H vs Q E hr hsp
  exact ⟨t, h.nox, q⟩
theorem tab_code {K : PySem.W.Frag} {x : Str} {f c T : Addr} {oc : Value} {od : Option Addr} {fd : FuncData} {osl : Array (Option Value)} (a : PySem.W.nsIn K mainGlobals x = some (some (.ref f))) (l : K.lookup f = some ⟨oc, od, .func fd, osl⟩) (t : PySem.W.tabIn K x = some (c, T)) :
    fd.code = .ref c := by
  unfold PySem.W.tabIn at t
  rw [a] at t
  simp only [l] at t
  cases e : fd.code with
  | ref c' =>
    rw [e] at t
    simp only at t
    cases hk : K.lookup c' with
    | none => rw [hk] at t; cases t
    | some o =>
      rw [hk] at t
      obtain ⟨cls, dict, data, sl⟩ := o
      cases data with
      | fields vs =>
        simp only at t
        split at t
        · cases t; rfl
        · cases t
      | _ => cases t
  | _ => rw [e] at t; cases t
theorem funC_mk {K : PySem.W.Frag} {hp : Heap} {x qual : Str} {st : Stmt} {f c T : Addr} {fd : FuncData} (F : Fun K x qual st f fd) (KX : K.In hp) (hT : hp.get? T = some (PySem.W.tabObj #[])) (e : fd.code = .ref c) : FunC (cutK K T) x qual st f fd c := by
  obtain ⟨⟨oc, od, kV, doc, pm, an, cdv, ct, osl, rfl, lk, hcd⟩, _⟩ := F.cut KX hT
  have e' : cdv = .ref c := e
  subst e'
  exact ⟨⟨oc, od, kV, doc, pm, an, ct, osl, rfl, lk, hcd⟩⟩
theorem walk_ofT {l : PySem.W.OpenLaw} {n k : Nat} {q : Program} {loose : List Str} {XP : (Str → Option Value) → Heap → Prop} {YP : World → Heap → Prop} {d dg : DefRec} {K : Params → PySem.W.Frag} {sp : PySem.W.Frag → Addr → Sp} {x g : Str}
    (hn : l.most = some n) (hn2 : n ≤ sizeLine) (hdf : d.params.defaults = []) (hr : Room k callerA) (hrec : (recsOf q).find? (fun e => e.name == g) = some dg)
    (hY : ∀ (w : World) (h : Heap), YP w h → (K w.params).In h)
    (F : ∀ (w : World) (mg : Str → Option Value) (fa : Addr) (h : Heap), (K w.params).In h → h.Ns mainGlobals mg → mg d.name = some (.ref fa) →
      ∃ (fd : FuncData) (c T : Addr), PySem.W.tabIn (K w.params) g = some (c, T) ∧ (∀ (s : Shared) (u : Value), BindsTo s fd ⟨[u], []⟩ [(x, u)]) ∧
        (h.get? T = some (PySem.W.tabObj #[]) → ∀ base : Heap, (cutK (K w.params) T).In base → base.Ns mainGlobals mg → PySem.W.CodeHd base c T → base.BuiltinsAt mg T → FnOk l.prog w (cutK (K w.params) T) mg base CX0 k fa fd [x] (sp (cutK (K w.params) T) T)))
    (hsp : ∀ (K : PySem.W.Frag) (T : Addr) (H : Hp) (a : Addr) (ns : List Int), ns.length ≤ n → H T = some (.tbl #[]) → SqL K H a (ns.map V.int) → sp K T [.ref a] H (fun v _ => v = .bl true) fun _ _ _ => False) :
    PySem.W.WalkO q loose XP YP l.row.toRowW d [] (fun f vs => PySem.call f vs) := by
  refine Att.attach_call hn hdf fun w s₀ s₁ mg mb fa o pm cd doc a vs ns G Y ho hd hcd hmg hobj hints hlen hg => ?_
  have KX := hY w _ Y
  obtain ⟨fd, c, T, ht, hb, hF⟩ := F w mg fa _ KX G.T.g hmg
  obtain ⟨hC, hTh⟩ := PySem.W.tab_of G.T KX hrec ht
  exact law_callT KX hTh hC G.T.bmain G.T.g G.T.b G.T.builtins G.T.nolimit hg hobj hints (Nat.le_trans hlen hn2) hr (hF hTh) hb (fun H hO hS => hsp _ T H a ns hlen hO hS) fun H e s' z => z
end L2
namespace L2
open PySem PySem.Spec PyProof.Rows
def headBody (x y : Str) (p1 p2 p3 p4 p5 p6 p7 : Pos) (j : Nat) : Expr := .Call (.Name "len" p1) [.Subscript (.Name y p2) (.Subscript (.Name x p3) (.Constant (.int 0) j p4) p5) p6] [] p7
section
variable {prog : Program} {w : World} {A : Around} {s : Shared}
theorem lam_head {x y : Str} {p1 p2 p3 p4 p5 p6 p7 : Pos} {j0 : Nat} {qual : Str} {params : Arguments} {scope : Scope} {cl : List (Str × Addr)} {pm ctv : Value} {c' f r q cy a : Addr} {mg mb : Str → Option Value} {n : Int} {t : Tok} {its ats : Array Value} {kvs : List (Key × Value)}
    (S : LamSc scope x y) (hroom : A.depth < recursionLimit) (hlim : s.heap.NoLimit) (hg : s.heap.Ns mainGlobals mg) (hm : mg "len" = none) (hb : s.heap.Ns builtinsNs mb) (hmb : mb "len" = some (.builtin "len"))
    (ho : s.heap.get? f = some (PySem.W.kla_obj "<lambda>" qual params (headBody x y p1 p2 p3 p4 p5 p6 p7 j0) scope cl pm c' ctv)) (hcd : s.heap.CodeRec (.ref c') qual)
    (hbind : ∀ v, bindArgs (PySem.W.kla_fn "<lambda>" qual params (headBody x y p1 p2 p3 p4 p5 p6 p7 j0) scope cl pm (.ref c') ctv) ⟨[v], []⟩ = pure [(x, v)])
    (hcy : cl.lookup y = some cy) (hcell : s.heap.IsCell cy (some (.ref r))) (ha : s.heap.IsList a ats) (hat : ats[0]? = some (.int n t)) (hr : s.heap.IsList r its) (h0 : 0 ≤ n) (hfit : n < 2 ^ 63) (hit : its[n.toNat]? = some (.ref q))
    (hs : (q == sysModules) = false) (hq : s.heap.DictOf (mixKind prog w) q kvs) (hkv : (kvs.length : Int) < 2 ^ 63) :
    wpAny (model prog w) A (call (.ref f) [.ref a]) (fun u s' => ∃ h' tk t', s' = { s with heap := h', toks := tk } ∧ u = .int kvs.length t' ∧ ∀ b o, s.heap.get? b = some o → h'.get? b = some o) (fun _ _ => False) s := by
  refine wpAny_call (PySem.W.kla_callFunE (body := headBody x y p1 p2 p3 p4 p5 p6 p7 j0) hroom ho rfl S.co S.gen rfl hcd ?_)
  rw [hbind]
  refine wpAny_pure ?_
  refine wpAny_newFunctionEnv S.cell (by intro z hz; rw [List.mem_singleton.mp hz]; exact S.xl) (fun h1 hns hsb => ?_) S.kind
  have hk : ∀ b o, s.heap.get? b = some o → h1.get? b = some o := fun b o e => hsb.extBut b o (Nat.ne_of_lt (Heap.lt_size e)) (Heap.get?_push_of_some _ e)
  refine ⟨hlim.keeps hk, PySem.W.kla_codeExpr ?_⟩
  unfold headBody
  refine wpAny_Call_Name_kw (Calls.Name_function_global S.kind S.gl (Calls.loadGlobal_builtin (hg.keeps hk) hm (hb.keeps hk) hmb ?_) (by decide))
  refine PyProof.Rows.callWith_builtin1 ?_ rfl rfl
  refine Calls.spliced_cons (Subscript_ (wpAny_Name (wpAny_loadName_free (v := .ref r) S.kind S.yf hcy ?_ ?_ S.cy) S.dy))
  · obtain ⟨o, e, d⟩ := hcell
    exact ⟨o, hk _ _ e, d⟩
  have lk : ∀ {a : Addr} {zs : Array Value}, s.heap.IsList a zs → h1.IsList a zs := fun {a zs} ⟨o, e, r⟩ => ⟨o, hk _ _ e, r⟩
  refine Subscript_ (wpAny_Name (wpAny_loadName_local (v := .ref a) S.kind S.xl hns ?_ ?_) S.dx)
  · show List.lookup x [(x, Value.ref a)] = _
    simp
  refine wpAny_Constant_int ?_
  refine item_listR (lk ha) (by decide) (by decide) hat ?_ rfl
  refine item_listR (lk hr) h0 hfit hit ?_ rfl
  refine Calls.spliced_nil ?_
  have hq' : h1.DictOf (mixKind prog w) q kvs := by
    obtain ⟨o, es, ep, e, rest⟩ := hq
    exact ⟨o, es, ep, hk _ _ e, rest⟩
  refine call_len_dict hs hq' hkv ?_
  exact ⟨h1, _, _, rfl, rfl, hk⟩
end
def headLen (K : PySem.W.Frag) (H : Hp) (r a : Addr) (k : Int) : Prop := ∃ (ns : List Int) (n : Int) (rs : List V) (q : Addr) (kvs : List (Key × V)), SqL K H a (ns.map V.int) ∧ ns[0]? = some n ∧ 0 ≤ n ∧ SqL K H r rs ∧ rs[n.toNat]? = some (.ref q) ∧ H q = some (.dK kvs) ∧ k = kvs.length
theorem refs_eq : ∀ {as : List Addr} {us : List Value}, Vals (as.map V.ref) us → us = as.map Value.ref
  | [], _, .nil => rfl
  | a :: as, _, .cons r t => by
    cases r
    rw [List.map_cons, refs_eq t]
theorem vals_refs : ∀ (as : List Addr), Vals (as.map V.ref) (as.map Value.ref)
  | [] => .nil
  | a :: as => .cons rfl (vals_refs as)
end L2
namespace L2
open PySem PySem.Spec PyProof.Rows
theorem lam_freeD {lam : Scope} {env : Env} {y : Str} (h : ∀ z ∈ lam.names, z.2 = .free → z.1 = y) (hy : env.kindOf y = some .cell) : ∀ z ∈ lam.names, z.2 = .free → env.kindOf z.1 = some .cell ∨ env.kindOf z.1 = some .free := fun z hz e => by
  rw [h z hz e]
  exact .inl hy
end L2
namespace L2
open PySem PySem.Spec PyProof.Rows
def tabOk (K : PySem.W.Frag) (x : Str) : Bool := match PySem.W.tabIn K x with
  | some (_, T) => (K.lookup T).isNone
  | none => false
theorem tabOk_of {K : PySem.W.Frag} {x : Str} (h : tabOk K x = true) : ∃ c T, PySem.W.tabIn K x = some (c, T) ∧ K.lookup T = none := by
  unfold tabOk at h
  cases e : PySem.W.tabIn K x with
  | none => rw [e] at h; cases h
  | some p =>
    rw [e] at h
    exact ⟨p.1, p.2, rfl, Option.isNone_iff_eq_none.mp h⟩
theorem cutK_self {T : Addr} : ∀ {K : PySem.W.Frag}, K.lookup T = none → cutK K T = K
  | [], _ => rfl
  | (a, o) :: r, h => by
    have ne : ¬ (T == a) = true := fun z => by
      rw [List.lookup_cons, z] at h; cases h
    have ne' : (T == a) = false := Bool.eq_false_iff.mpr ne
    rw [List.lookup_cons, ne'] at h
    have ih := cutK_self (K := r) h
    unfold cutK at ih ⊢
    rw [List.filter_cons, if_pos (by
      have : a ≠ T := fun z => ne (by rw [z]; exact beq_self_eq_true T)
      simpa using this), ih]
end L2
namespace L2
open PySem PySem.Spec PyProof.Rows PySem.W
def KOk {α : Type} (n : Nat) (c : Nat → Nat → Bool) : KasT α → (α → Prop) → Prop
  | .ret a, R => R a
  | .ask i j k, R => i < n ∧ j < n ∧ KOk n c (k (c i j)) R
def kev {α : Type} (c : Nat → Nat → Bool) : KasT α → α
  | .ret a => a
  | .ask i j k => kev c (k (c i j))
theorem KOk.bind {α β : Type} {n : Nat} {c : Nat → Nat → Bool} {f : α → KasT β} {R : β → Prop} : ∀ {t : KasT α}, KOk n c t (fun a => KOk n c (f a) R) → KOk n c (t.bind f) R
  | .ret _, h => h
  | .ask i j k, ⟨h1, h2, h3⟩ => ⟨h1, h2, KOk.bind h3⟩
theorem KOk.mono {α : Type} {n : Nat} {c : Nat → Nat → Bool} {R R' : α → Prop} (hr : ∀ a, R a → R' a) : ∀ {t : KasT α}, KOk n c t R → KOk n c t R'
  | .ret _, h => hr _ h
  | .ask i j k, ⟨h1, h2, h3⟩ => ⟨h1, h2, KOk.mono hr h3⟩
theorem KOk.ev {α : Type} {n : Nat} {c : Nat → Nat → Bool} {R : α → Prop} : ∀ {t : KasT α}, KOk n c t R → R (kev c t)
  | .ret _, h => h
  | .ask i j k, ⟨_, _, h3⟩ => KOk.ev (n := n) (t := k (c i j)) h3
theorem KOk.wp {α : Type} {n : Nat} {c : Nat → Nat → Bool} {cmp : Nat → Nat → (Bool → Shared → Prop) → Shared → Prop} {Q : α → Shared → Prop} {R : α → Prop} {s : Shared} (hc : ∀ i j, i < n → j < n → ∀ C : Bool → Shared → Prop, C (c i j) s → cmp i j C s) :
    ∀ {t : KasT α}, KOk n c t R → Q (kev c t) s → t.kasWp cmp Q s
  | .ret _, _, q => q
  | .ask i j k, ⟨h1, h2, h3⟩, q => hc i j h1 h2 _ (KOk.wp hc h3 q)
structure Swo (c : Nat → Nat → Bool) : Prop where
  irr : ∀ a, c a a = false
  tr : ∀ a b d, c a b = true → c b d = true → c a d = true
  neg : ∀ a b d, c a d = true → c a b = true ∨ c b d = true
section
variable {c : Nat → Nat → Bool} {n : Nat} {p : Array Nat}
def kle (c : Nat → Nat → Bool) (a b : Nat) : Prop := c b a = false
theorem kle_refl (S : Swo c) (a : Nat) : kle c a a := S.irr a
theorem kle_trans (S : Swo c) {a b d : Nat} (h : kle c a b) (h' : kle c b d) : kle c a d := by
  unfold kle at *
  cases e : c d a with
  | false => rfl
  | true => rcases S.neg d b a e with z | z <;> simp_all
theorem kle_of (S : Swo c) {a b : Nat} (h : c a b = true) : kle c a b := by
  unfold kle
  cases e : c b a with
  | false => rfl
  | true =>
    have := S.tr a b a h e
    rw [S.irr] at this; cases this
structure PInv (n : Nat) (p : Array Nat) : Prop where
  size : p.size = n
  perm : p.toList.Perm (List.range n)
theorem PInv.lt (h : PInv n p) {i : Nat} (hi : i < n) : p.getD i 0 < n := by
  have hi' : i < p.size := by rw [h.size]; exact hi
  have e : p.getD i 0 = p[i] := by simp [Array.getD, hi']
  rw [e]
  have : p[i] ∈ p.toList := by simp
  exact List.mem_range.mp (h.perm.mem_iff.mp this)
theorem PInv.of {q : Array Nat} (h : PInv n p) (hp : q.Perm p) : PInv n q := ⟨hp.size_eq.trans h.size, (Array.perm_iff_toList_perm.mp hp).trans h.perm⟩
theorem getD_opt (q : Array Nat) (i : Nat) : q.getD i 0 = (q[i]?).getD 0 := by
  by_cases h : i < q.size
  · simp [Array.getD, h]
  · simp [Array.getD, h]
theorem bub_at {k d : Nat} (hk : k < p.size) (hd : d ≤ k) (j : Nat) : (bubble p k d).getD j 0 = if j = k - d then p.getD k 0 else if k - d < j ∧ j ≤ k then p.getD (j - 1) 0 else p.getD j 0 := by
  rw [getD_opt, getElem?_bubble hk d hd j]
  by_cases h1 : j = k - d
  · rw [if_pos h1, if_pos h1, ← getD_opt]
  · rw [if_neg h1, if_neg h1]
    by_cases h2 : k - d < j ∧ j ≤ k
    · rw [if_pos h2, if_pos h2, ← getD_opt]
    · rw [if_neg h2, if_neg h2, ← getD_opt]
theorem rev_at {i j : Nat} (hj : j ≤ p.size) (k : Nat) : (kas_rev p i j).getD k 0 = if i ≤ k ∧ k < j then p.getD (i + j - 1 - k) 0 else p.getD k 0 := by
  unfold kas_rev
  rw [getD_opt, getElem?_mirror_all hj k]
  by_cases h1 : i ≤ k ∧ k < j
  · rw [if_pos h1, if_pos h1, ← getD_opt]
  · rw [if_neg h1, if_neg h1, ← getD_opt]
theorem rev_inv (h : PInv n p) (i j : Nat) : PInv n (kas_rev p i j) := h.of (mirror_perm _ _ _ _)
def Up (c : Nat → Nat → Bool) (p : Array Nat) (k : Nat) : Prop := ∀ i j, i ≤ j → j < k → kle c (p.getD i 0) (p.getD j 0)
def Dn (c : Nat → Nat → Bool) (p : Array Nat) (k : Nat) : Prop := ∀ i j, i ≤ j → j < k → kle c (p.getD j 0) (p.getD i 0)
theorem asc_ok (S : Swo c) (I : PInv n p) : ∀ (f k : Nat), 1 ≤ k → k + f = n → Up c p k → KOk n c (kas_asc p f k) fun m => k ≤ m ∧ m ≤ n ∧ Up c p m ∧ (m = n ∨ c (p.getD m 0) (p.getD (m - 1) 0) = true)
  | 0, k, h1, h2, h3 => ⟨Nat.le_refl _, by omega, h3, .inl (by omega)⟩
  | f + 1, k, h1, h2, h3 => by
    refine ⟨I.lt (by omega), I.lt (by omega), ?_⟩
    cases e : c (p.getD k 0) (p.getD (k - 1) 0) with
    | true =>
      (dsimp only; rw [if_pos rfl])
      exact ⟨Nat.le_refl _, by omega, h3, .inr e⟩
    | false =>
      (dsimp only; rw [if_neg Bool.false_ne_true])
      refine KOk.mono (fun m hm => ⟨by omega, hm.2⟩) (asc_ok S I f (k + 1) (by omega) (by omega) fun i j hij hj => ?_)
      by_cases ej : j = k
      · subst ej
        by_cases ei : i = j
        · subst ei; exact kle_refl S _
        · exact kle_trans S (h3 i (j - 1) (by omega) (by omega)) e
      · exact h3 i j hij (by omega)
def Eqs (c : Nat → Nat → Bool) (p : Array Nat) (k q : Nat) : Prop := ∀ i j, k - (q + 1) ≤ i → i < k → k - (q + 1) ≤ j → j < k → kle c (p.getD i 0) (p.getD j 0)
theorem dn_rev (S : Swo c) (I : PInv n p) {k q : Nat} (hk : k ≤ n) (hq : q + 1 ≤ k) (d : Dn c p k) (e : Eqs c p k q) : Dn c (kas_rev p (k - (q + 1)) k) k := fun i j hij hj => by
  rw [rev_at (by rw [I.size]; exact hk), rev_at (by rw [I.size]; exact hk)]
  by_cases ci : k - (q + 1) ≤ i
  · rw [if_pos ⟨by omega, hj⟩, if_pos ⟨ci, by omega⟩]
    exact e _ _ (by omega) (by omega) (by omega) (by omega)
  · rw [if_neg (show ¬ (k - (q + 1) ≤ i ∧ i < k) by omega)]
    by_cases cj : k - (q + 1) ≤ j
    · rw [if_pos ⟨cj, hj⟩]
      exact d i _ (by omega) (by omega)
    · rw [if_neg (show ¬ (k - (q + 1) ≤ j ∧ j < k) by omega)]
      exact d i j hij hj
theorem dn_snoc (S : Swo c) {k : Nat} (h1 : 1 ≤ k) (d : Dn c p k) (h : kle c (p.getD k 0) (p.getD (k - 1) 0)) : Dn c p (k + 1) := fun i j hij hj => by
  by_cases ej : j = k
  · subst ej
    by_cases ei : i = j
    · subst ei; exact kle_refl S _
    · exact kle_trans S h (d i (j - 1) (by omega) (by omega))
  · exact d i j hij (by omega)
theorem desc_ok (S : Swo c) : ∀ (f : Nat) (p : Array Nat) (k q : Nat), PInv n p → 1 ≤ k → k + f = n → q + 1 ≤ k → Dn c p k → Eqs c p k q →
    KOk n c (kas_desc f p k q) fun r => PInv n r.1 ∧ k ≤ r.2.1 ∧ r.2.1 ≤ n ∧ r.2.2 + 1 ≤ r.2.1 ∧ Dn c r.1 r.2.1 ∧ Eqs c r.1 r.2.1 r.2.2
  | 0, p, k, q, I, h1, h2, h3, d, e => ⟨I, Nat.le_refl _, by show k ≤ n; omega, h3, d, e⟩
  | f + 1, p, k, q, I, h1, h2, h3, d, e => by
    refine ⟨I.lt (by omega), I.lt (by omega), ?_⟩
    cases e1 : c (p.getD k 0) (p.getD (k - 1) 0) with
    | true =>
      (dsimp only; rw [if_pos rfl])
      have one : ∀ r : Array Nat, Eqs c r (k + 1) 0 := fun r i j a1 a2 a3 a4 => by
        have : i = j := by omega
        subst this; exact kle_refl S _
      by_cases hq : q > 0
      · rw [if_pos hq]
        have I' := rev_inv I (k - (q + 1)) k
        refine KOk.mono (fun r hr => ⟨hr.1, by omega, hr.2.2⟩) (desc_ok S f _ (k + 1) 0 I' (by omega) (by omega) (by omega) (dn_snoc S h1 (dn_rev S I (by omega) h3 d e) ?_) (one _))
        rw [rev_at (by rw [I.size]; omega), rev_at (by rw [I.size]; omega), if_neg (by omega), if_pos (by omega)]
        exact kle_trans S (kle_of S e1) (e _ _ (by omega) (by omega) (by omega) (by omega))
      · rw [if_neg hq]
        exact KOk.mono (fun r hr => ⟨hr.1, by omega, hr.2.2⟩) (desc_ok S f _ (k + 1) 0 I (by omega) (by omega) (by omega) (dn_snoc S h1 d (kle_of S e1)) (one _))
    | false =>
      (dsimp only; rw [if_neg Bool.false_ne_true])
      refine ⟨I.lt (by omega), I.lt (by omega), ?_⟩
      cases e2 : c (p.getD (k - 1) 0) (p.getD k 0) with
      | true =>
        (dsimp only; rw [if_pos rfl])
        exact ⟨I, Nat.le_refl _, by show k ≤ n; omega, h3, d, e⟩
      | false =>
        (dsimp only; rw [if_neg Bool.false_ne_true])
        refine KOk.mono (fun r hr => ⟨hr.1, by omega, hr.2.2⟩) (desc_ok S f _ (k + 1) (q + 1) I (by omega) (by omega) (by omega) (dn_snoc S h1 d e2) fun i j a1 a2 a3 a4 => ?_)
        have toK : ∀ i, k + 1 - (q + 1 + 1) ≤ i → i < k → kle c (p.getD i 0) (p.getD (k - 1) 0) ∧ kle c (p.getD (k - 1) 0) (p.getD i 0) := fun i b1 b2 => ⟨e _ _ (by omega) b2 (by omega) (by omega), e _ _ (by omega) (by omega) (by omega) b2⟩
        by_cases ei : i = k
        · by_cases ej : j = k
          · rw [ei, ej]; exact kle_refl S _
          · rw [ei]; exact kle_trans S e2 (toK j a3 (by omega)).2
        · by_cases ej : j = k
          · rw [ej]; exact kle_trans S (toK i a1 (by omega)).1 e1
          · exact kle_trans S (toK i a1 (by omega)).1 (toK j a3 (by omega)).2
theorem tail3_ok (S : Swo c) {k : Nat} (I : PInv n p) (h1 : 1 ≤ k) (hk : k ≤ n) (d : Dn c p k) : KOk n c (kas_tail3 k n p) fun r => 1 ≤ r.1 ∧ r.1 ≤ n ∧ PInv n r.2 ∧ Up c r.2 r.1 := by
  unfold kas_tail3
  have I' := rev_inv I 0 k
  refine KOk.bind (KOk.mono (fun m hm => ⟨by show 1 ≤ m; omega, hm.2.1, I', hm.2.2.1⟩) (asc_ok S I' (n - k) k h1 (by omega) fun i j hij hj => ?_))
  rw [rev_at (by rw [I.size]; exact hk), rev_at (by rw [I.size]; exact hk), if_pos (by omega), if_pos (by omega)]
  exact d _ _ (by omega) (by omega)
theorem descPart_ok (S : Swo c) {k : Nat} (I : PInv n p) (hk : k + 1 ≤ n) (d : Dn c p (k + 1)) : KOk n c (kas_descPart k n p) fun r => 1 ≤ r.1 ∧ r.1 ≤ n ∧ PInv n r.2 ∧ Up c r.2 r.1 := by
  unfold kas_descPart
  refine KOk.bind (KOk.mono (fun r hr => ?_) (desc_ok S (n - (k + 1)) p (k + 1) 0 I (by omega) (by omega) (by omega) d fun i j a1 a2 a3 a4 => ?_))
  · obtain ⟨b1, b2, b3, b4, b5, b6⟩ := hr
    by_cases hq : r.2.2 > 0
    · rw [if_pos hq]
      exact tail3_ok S (rev_inv b1 _ _) (by omega) b3 (dn_rev S b1 b3 b4 b5 b6)
    · rw [if_neg hq]
      exact tail3_ok S b1 (by omega) b3 b5
  · have : i = j := by omega
    subst this; exact kle_refl S _
theorem count_ok (S : Swo c) (I : PInv n p) (h1 : 1 ≤ n) : KOk n c (kas_count n p) fun r => 1 ≤ r.1 ∧ r.1 ≤ n ∧ PInv n r.2 ∧ Up c r.2 r.1 := by
  unfold kas_count
  refine KOk.bind (KOk.mono (fun m hm => ?_) (asc_ok S I (n - 1) 1 (Nat.le_refl _) (by omega) fun i j hij hj => ?_))
  · obtain ⟨b1, b2, b3, b4⟩ := hm
    by_cases e : m = n
    · rw [if_pos (by simpa using e)]
      exact ⟨b1, b2, I, b3⟩
    · rw [if_neg (by simpa using e)]
      have b5 : c (p.getD m 0) (p.getD (m - 1) 0) = true := b4.resolve_left e
      by_cases h2 : m > 1
      · rw [if_pos h2]
        refine ⟨I.lt (by omega), I.lt (by omega), ?_⟩
        cases e2 : c (p.getD 0 0) (p.getD (m - 1) 0) with
        | true =>
          (dsimp only; rw [if_pos rfl])
          exact ⟨b1, b2, I, b3⟩
        | false =>
          (dsimp only; rw [if_neg Bool.false_ne_true])
          -- all alike
          have all : ∀ i j, i < m → j < m → kle c (p.getD i 0) (p.getD j 0) := fun i j hi hj => kle_trans S (b3 i (m - 1) (by omega) (by omega)) (kle_trans S e2 (b3 0 j (by omega) hj))
          refine descPart_ok S (rev_inv I 0 m) (by omega) (dn_snoc S (by omega) (fun i j hij hj => ?_) ?_)
          · rw [rev_at (by rw [I.size]; exact b2), rev_at (by rw [I.size]; exact b2), if_pos (by omega), if_pos (by omega)]
            exact all _ _ (by omega) (by omega)
          · rw [rev_at (by rw [I.size]; exact b2), rev_at (by rw [I.size]; exact b2), if_neg (by omega), if_pos (by omega)]
            exact kle_trans S (kle_of S b5) (all _ _ (by omega) (by omega))
      · rw [if_neg h2]
        have hm1 : m = 1 := by omega
        subst hm1
        refine descPart_ok S I (by omega) (dn_snoc S (Nat.le_refl _) (fun i j hij hj => ?_) (kle_of S b5))
        have e1 : i = 0 := by omega
        have e2 : j = 0 := by omega
        subst e1 e2; exact kle_refl S _
  · have e1 : i = 0 := by omega
    have e2 : j = 0 := by omega
    subst e1 e2; exact kle_refl S _
theorem place_ok (S : Swo c) (I : PInv n p) {k : Nat} (hk : k < n) (u : Up c p k) : ∀ (f l r : Nat), l ≤ r → r ≤ k → r - l ≤ f → (∀ i, i < l → kle c (p.getD i 0) (p.getD k 0)) → (∀ i, r ≤ i → i < k → c (p.getD k 0) (p.getD i 0) = true) →
    KOk n c (kas_place p k f l r) fun m => m ≤ k ∧ (∀ i, i < m → kle c (p.getD i 0) (p.getD k 0)) ∧ ∀ i, m ≤ i → i < k → c (p.getD k 0) (p.getD i 0) = true
  | 0, l, r, h1, h2, h3, lo, hi => ⟨by omega, lo, fun i a b => hi i (by omega) b⟩
  | f + 1, l, r, h1, h2, h3, lo, hi => by
    unfold kas_place
    by_cases h : l ≥ r
    · rw [if_pos h]
      exact ⟨by omega, lo, fun i a b => hi i (by omega) b⟩
    · rw [if_neg h]
      have hm : (l + r) / 2 < r ∧ l ≤ (l + r) / 2 := by omega
      refine ⟨I.lt hk, I.lt (by omega), ?_⟩
      cases e : c (p.getD k 0) (p.getD ((l + r) / 2) 0) with
      | true =>
        (dsimp only; rw [if_pos rfl])
        refine place_ok S I hk u f l _ hm.2 (by omega) (by omega) lo fun i a b => ?_
        have := u _ i a b
        rcases S.neg _ (p.getD i 0) _ e with z | z
        · exact z
        · unfold kle at this
          rw [this] at z; cases z
      | false =>
        (dsimp only; rw [if_neg Bool.false_ne_true])
        refine place_ok S I hk u f _ r (by omega) h2 (by omega) (fun i a => ?_) hi
        exact kle_trans S (u i _ (by omega) (by omega)) e
theorem bin_ok (S : Swo c) : ∀ (f : Nat) (p : Array Nat) (k : Nat), PInv n p → k + f = n → Up c p k → KOk n c (kas_bin f p k) fun r => PInv n r ∧ Up c r n
  | 0, p, k, I, h, u => by
    have : k = n := by omega
    subst this; exact ⟨I, u⟩
  | f + 1, p, k, I, h, u => by
    refine KOk.bind (KOk.mono (fun l hl => ?_) (place_ok S I (by omega) u k 0 k (Nat.zero_le _) (Nat.le_refl _) (by omega) (fun i hi => absurd hi (Nat.not_lt_zero _)) fun i a b => absurd b (by omega)))
    obtain ⟨b1, b2, b3⟩ := hl
    refine bin_ok S f _ (k + 1) (I.of (bubble_perm _ _ _)) (by omega) fun i j hij hj => ?_
    have hkp : k < p.size := by rw [I.size]; omega
    rw [bub_at hkp (by omega), bub_at hkp (by omega)]
    have ekl : k - (k - l) = l := by omega
    rw [ekl]
    by_cases ei : i = l
    · rw [if_pos ei]
      by_cases ej : j = l
      · rw [if_pos ej]; exact kle_refl S _
      · rw [if_neg ej, if_pos (by omega)]
        exact kle_of S (b3 _ (by omega) (by omega))
    · rw [if_neg ei]
      by_cases ej : j = l
      · rw [if_pos ej, if_neg (by omega)]
        exact b2 i (by omega)
      · rw [if_neg ej]
        by_cases ci : l < i
        · rw [if_pos (by omega), if_pos (by omega)]
          exact u _ _ (by omega) (by omega)
        · rw [if_neg (by omega)]
          by_cases cj : l < j
          · rw [if_pos (by omega)]
            exact u _ _ (by omega) (by omega)
          · rw [if_neg (by omega)]
            exact u _ _ hij (by omega)
end
theorem sort_ok {c : Nat → Nat → Bool} (S : Swo c) {n : Nat} (h1 : 1 ≤ n) : KOk n c (kas_sort n) fun p => PInv n p ∧ Up c p n := by
  unfold kas_sort
  have I : PInv n (List.toArray (List.range n)) := ⟨by simp, by simp⟩
  refine KOk.bind (KOk.mono (fun r hr => ?_) (count_ok S I h1))
  obtain ⟨b1, b2, b3, b4⟩ := hr
  by_cases h : r.1 < n
  · rw [if_pos h]
    have e : max r.1 1 = r.1 := by omega
    rw [e]
    exact bin_ok S (n - r.1) r.2 r.1 b3 (by omega) b4
  · rw [if_neg h]
    have e : r.1 = n := by omega
    exact ⟨b3, by rw [← e]; exact b4⟩
end L2
namespace L2
open PySem PySem.Spec PyProof.Rows PySem.W
def zlt (kz : List Int) (i j : Nat) : Bool := decide (kz.getD i 0 < kz.getD j 0)
theorem zlt_swo (kz : List Int) : Swo (zlt kz) where
  irr := fun a => decide_eq_false (by omega)
  tr := fun a b d h1 h2 => by
    have h1' := of_decide_eq_true h1
    have h2' := of_decide_eq_true h2
    exact decide_eq_true (by omega)
  neg := fun a b d h => by
    have h' := of_decide_eq_true h
    by_cases e : kz.getD a 0 < kz.getD b 0
    · exact .inl (decide_eq_true e)
    · exact .inr (decide_eq_true (by omega))
def ordBy (b : Bool) (kz : List Int) : List Nat := (kev (zlt (katRev b kz)) (kas_sort kz.length)).toList
def sortBy {α : Type} (d : α) (b : Bool) (kz : List Int) (vs : List α) : List α := if vs.length < 2 then vs else katRev b ((ordBy b kz).map fun i => (katRev b vs).getD i d)
theorem ints_rev {vs : List Value} {kz : List Int} (h : IntsAre vs kz) (b : Bool) : IntsAre (katRev b vs) (katRev b kz) := by
  unfold katRev
  cases b with
  | false => exact h
  | true =>
    rw [if_pos rfl, if_pos rfl]
    induction h with
    | nil => exact .nil
    | cons n t _ ih =>
      rw [List.reverse_cons, List.reverse_cons]
      exact ksk_snoc ih
theorem ints_at : ∀ {vs : List Value} {kz : List Int} {i : Nat}, IntsAre vs kz → i < kz.length → ∃ t, vs.getD i Value.none = .int (kz.getD i 0) t
  | _, _, _, .nil, h => absurd h (Nat.not_lt_zero _)
  | _, _, 0, .cons n t r, _ => ⟨t, rfl⟩
  | _, _, i + 1, .cons n t r, h => by
    obtain ⟨u, e⟩ := ints_at (i := i) r (by simpa using h)
    exact ⟨u, by simpa using e⟩
theorem perm_short {α : Type} : ∀ {l m : List α}, l.Perm m → m.length < 2 → l = m
  | _, [], h, _ => List.perm_nil.mp h
  | _, [v], h, _ => List.perm_singleton.mp h
  | _, _ :: _ :: _, _, h => absurd h (by simp)
section
variable {prog : Program} {w : World} {A : Around} {E : Value → Shared → Prop} {s : Shared} {h₀ : Heap} {L l kS D : Addr} {m : Str → Option Value} {news : List (Addr × Obj)} {b : Bool} {vs : List Value} {kz : List Int} {f : Value} {e1 : Nat} {Q : Value → Shared → Prop}
theorem keysD (hn1 : ∀ p ∈ news, p.1 < D) (hDk : D < kS) (hlen : kz.length = vs.length)
    (turn : ∀ (i : Nat) (v : Value) (k : Int), vs[i]? = some v → kz[i]? = some k → ∀ (h : Heap) (tk : Nat) (own : List (Addr × Obj)), Fr h₀ L h m → News h₀ L h (news ++ own) →
      wpAny (model prog w) A (call f [v]) (KskEnd h₀ L m (news ++ own) k { s with heap := h, toks := tk }) (fun _ _ => False) { s with heap := h, toks := tk })
    {Fin : List Value → Nat → Shared → Prop} (fin : ∀ ks e h tk, IntsAre ks kz → Fr h₀ L h m → News h₀ L h ((kS, seqObj "list" (List.toArray ks) e) :: (D, seqObj "list" #[] e1) :: news) → Fin ks e { s with heap := h, toks := tk }) :
    ∀ (r : List Value) (i : Nat) (ks : List Value) (e : Nat) (h : Heap) (tk : Nat), vs.drop i = r → i ≤ vs.length → IntsAre ks (kz.take i) → Fr h₀ L h m → News h₀ L h ((kS, seqObj "list" (List.toArray ks) e) :: (D, seqObj "list" #[] e1) :: news) →
      KatKeys prog w A h₀ L m kS f Fin r ks e { s with heap := h, toks := tk }
  | [], i, ks, e, h, tk, hr, hi, hk, F, N => by
    have hl : vs.length ≤ i := by
      have := congrArg List.length hr
      rw [List.length_drop, List.length_nil] at this
      omega
    refine KatKeys.nil (fin ks e h tk ?_ F N)
    rw [List.take_of_length_le (by omega)] at hk
    exact hk
  | v :: r, i, ks, e, h, tk, hr, hi, hk, F, N => by
    have hlt : i < vs.length := by
      by_cases c : i < vs.length
      · exact c
      · rw [List.drop_of_length_le (by omega)] at hr; cases hr
    have hv : vs[i]? = some v := by
      have := congrArg (fun l => l[0]?) hr
      simpa using this
    have hz : kz[i]? = some (kz[i]'(by omega)) := List.getElem?_eq_getElem _
    refine KatKeys.cons (thn (turn i v _ hv hz h tk [(kS, seqObj "list" (List.toArray ks) e), (D, seqObj "list" #[] e1)] F fun p hp => N p ?_) fun u s' hs => ?_)
    · rcases List.mem_append.mp hp with y | y
      · exact List.mem_cons_of_mem _ (List.mem_cons_of_mem _ y)
      · rcases List.mem_cons.mp y with y | y
        · rw [y]; exact List.mem_cons_self
        · rw [List.mem_singleton.mp y]; exact List.mem_cons_of_mem _ List.mem_cons_self
    · obtain ⟨h', tk', t', es, eu, F', N'⟩ := hs
      subst es eu
      refine KatBack.intro (news := (kS, seqObj "list" (List.toArray ks) e) :: (D, seqObj "list" #[] e1) :: news) F' (fun p hp => N' p ?_) (UpdF.head fun p hp => ?_) fun h2 c2 F2 N2 => ?_
      · rcases List.mem_cons.mp hp with y | y
        · rw [y]; exact List.mem_append_right _ List.mem_cons_self
        · rcases List.mem_cons.mp y with y | y
          · rw [y]; exact List.mem_append_right _ (List.mem_cons_of_mem _ List.mem_cons_self)
          · exact List.mem_append_left _ y
      · rcases List.mem_cons.mp hp with y | y
        · rw [y]; exact Nat.ne_of_lt hDk
        · exact Nat.ne_of_lt (Nat.lt_trans (hn1 p y) hDk)
      · refine keysD hn1 hDk hlen turn fin r (i + 1) _ c2 h2 tk' ?_ (by omega) ?_ F2 N2
        · rw [← List.tail_drop, hr]; rfl
        · rw [List.take_add_one, hz]
          exact ksk_snoc hk
theorem ksk_sortedD {kw : List (Str × Value)} (F : Fr h₀ L s.heap m) (N : News h₀ L s.heap news) (hl : s.heap.IsList l vs.toArray) (hlen : kz.length = vs.length) (h64 : vs.length < 64)
    (ha1 : argsOk "sorted" ⟨[.ref l], kw⟩) (ha2 : ∀ x, argsOk "list.sort" ⟨[.ref x], kw⟩) (ht : ∀ x, Builtin.«list.sort» ⟨[.ref x], kw⟩ = ksk_tree x f b)
    (turn : ∀ (i : Nat) (v : Value) (k : Int), vs[i]? = some v → kz[i]? = some k → ∀ (h : Heap) (tk : Nat) (own : List (Addr × Obj)), Fr h₀ L h m → News h₀ L h (news ++ own) →
      wpAny (model prog w) A.in1.in1 (call f [v]) (KskEnd h₀ L m (news ++ own) k { s with heap := h, toks := tk }) (fun _ _ => False) { s with heap := h, toks := tk })
    (h : ∀ D h' tk out c, Fr h₀ L h' m → News h₀ L h' ((D, seqObj "list" out c) :: news) → (∀ q ∈ news, q.1 < D) → out.toList = sortBy Value.none b kz vs → Q (.ref D) { s with heap := h', toks := tk }) :
    wpAny (model prog w) A (call (.builtin "sorted") [.ref l] kw) Q E s := by
  by_cases h2 : vs.length < 2
  · refine ksk_sorted F N hl hlen h64 ha1 ha2 ht turn fun D h' tk out c F' N' hlt ho => h D h' tk out c F' N' hlt ?_
    unfold sortBy
    rw [if_pos h2]
    obtain ⟨ps, hp, e, _⟩ := ho
    have e2 : (kz.zip vs).map Prod.snd = vs := by
      rw [List.map_snd_zip]; omega
    have : out.toList.Perm vs := by
      rw [e, ← e2]
      exact hp.map _
    exact perm_short this h2
  · refine kat_sortedK F N hl (by omega) h64 ha1 ha2 ht fun D kS e1 h' F' N' hDk hlt => ?_
    refine keysD (s := s) hlt hDk hlen turn (fun ks e h1 tk hk F1 N1 => ?_) vs 0 [] 0 h' s.toks rfl (Nat.zero_le _) .nil F' N'
    have hks : ks.length = vs.length := by rw [hk.length]; exact hlen
    rw [ksk_kind (keys := List.toArray ks) hk (by rw [List.size_toArray]; omega)]
    refine wpAny_pure ?_
    have S := zlt_swo (katRev b kz)
    have ok := sort_ok S (n := vs.length) (by omega)
    have hrz : (katRev b kz).length = vs.length := by rw [kat_len]; exact hlen
    refine KOk.wp (fun i j hi hj C hC => ?_) ok ?_
    · obtain ⟨t, ei⟩ := ints_at (i := i) (ints_rev hk b) (by omega)
      obtain ⟨u, ej⟩ := ints_at (i := j) (ints_rev hk b) (by omega)
      unfold kas_ask
      rw [ei, ej]
      exact kat_lt_int hC
    · refine KatFin.intro F1 N1 (UpdF.head fun p hp => ?_) fun h3 c3 F3 N3 => KasFin.intro F3 N3 (UpdF.tail (Nat.ne_of_gt hDk) (UpdF.head fun p hp => Nat.ne_of_lt (hlt p hp))) fun h4 c4 F4 N4 => ?_
      · rcases List.mem_cons.mp hp with y | y
        · rw [y]; exact Nat.ne_of_lt hDk
        · exact Nat.ne_of_lt (Nat.lt_trans (hlt p y) hDk)
      · refine h D h4 tk _ c4 F4 (fun p hp => N4 p (List.mem_cons_of_mem _ hp)) hlt ?_
        unfold sortBy ordBy
        rw [if_neg h2, hlen]
end
section
variable {α β : Type}
theorem ord_ok (b : Bool) {kz : List Int} (h : 1 ≤ kz.length) : (ordBy b kz).Perm (List.range kz.length) ∧ (ordBy b kz).Pairwise fun i j => (katRev b kz).getD i 0 ≤ (katRev b kz).getD j 0 := by
  obtain ⟨I, U⟩ := (sort_ok (zlt_swo (katRev b kz)) h).ev
  unfold ordBy
  refine ⟨I.perm, ?_⟩
  rw [List.pairwise_iff_getElem]
  intro i j hi hj hij
  have hi' : i < (kev (zlt (katRev b kz)) (kas_sort kz.length)).size := by simpa using hi
  have hj' : j < (kev (zlt (katRev b kz)) (kas_sort kz.length)).size := by simpa using hj
  have := U i j (Nat.le_of_lt hij) (by rw [← I.size]; exact hj')
  unfold L2.kle at this
  have e1 : (kev (zlt (katRev b kz)) (kas_sort kz.length)).getD i 0 = (kev (zlt (katRev b kz)) (kas_sort kz.length)).toList[i] := by simp [Array.getD, hi']
  have e2 : (kev (zlt (katRev b kz)) (kas_sort kz.length)).getD j 0 = (kev (zlt (katRev b kz)) (kas_sort kz.length)).toList[j] := by simp [Array.getD, hj']
  rw [e1, e2] at this
  have := of_decide_eq_false this
  omega
theorem rev_map (b : Bool) (g : α → β) (l : List α) : katRev b (l.map g) = (katRev b l).map g := by
  unfold katRev
  cases b with
  | false => rfl
  | true => rw [if_pos rfl, if_pos rfl, List.map_reverse]
theorem rev_permL (b : Bool) (l : List α) : (katRev b l).Perm l := by
  unfold katRev
  cases b with
  | false => exact .refl _
  | true => rw [if_pos rfl]; exact List.reverse_perm _
theorem range_getD (d : α) (l : List α) : (List.range l.length).map (fun i => l.getD i d) = l := by
  refine List.ext_getElem? fun i => ?_
  rw [List.getElem?_map]
  by_cases h : i < l.length
  · rw [List.getElem?_range h, List.getElem?_eq_getElem h]
    simp [h]
  · rw [List.getElem?_eq_none (by rw [List.length_range]; omega), List.getElem?_eq_none (by omega)]; rfl
theorem sortBy_map {d : α} {d' : β} {b : Bool} {kz : List Int} {vs : List α} (g : α → β) (hl : kz.length = vs.length) : sortBy d' b kz (vs.map g) = (sortBy d b kz vs).map g := by
  unfold sortBy
  rw [List.length_map]
  by_cases h : vs.length < 2
  · rw [if_pos h, if_pos h]
  · rw [if_neg h, if_neg h, ← rev_map, List.map_map]
    refine congrArg (katRev b) (List.map_congr_left fun i hi => ?_)
    have hi' : i < vs.length := by
      have := List.mem_range.mp ((ord_ok b (kz := kz) (by omega)).1.mem_iff.mp hi)
      omega
    have hi2 : i < (katRev b vs).length := by rw [kat_len]; exact hi'
    show (katRev b (vs.map g)).getD i d' = g ((katRev b vs).getD i d)
    rw [rev_map, List.getD_eq_getElem?_getD, List.getD_eq_getElem?_getD, List.getElem?_map, List.getElem?_eq_getElem hi2]
    rfl
theorem sortBy_perm {d : α} {b : Bool} {kz : List Int} {vs : List α} (hl : kz.length = vs.length) : (sortBy d b kz vs).Perm vs := by
  unfold sortBy
  by_cases h : vs.length < 2
  · rw [if_pos h]
  · rw [if_neg h]
    refine (rev_permL b _).trans ?_
    have h1 := (ord_ok b (kz := kz) (by omega)).1.map fun i => (katRev b vs).getD i d
    have e : kz.length = (katRev b vs).length := by rw [kat_len]; exact hl
    rw [e, range_getD] at h1
    exact h1.trans (rev_permL b vs)
theorem sortBy_falls {d : α} {key : α → Int} {vs : List α} : (sortBy d true (vs.map key) vs).Pairwise fun x y => key y ≤ key x := by
  unfold sortBy
  by_cases h : vs.length < 2
  · rw [if_pos h]
    match vs, h with
    | [], _ => exact .nil
    | [v], _ => exact List.pairwise_singleton _ _
  · rw [if_neg h]
    have hz : 1 ≤ (vs.map key).length := by rw [List.length_map]; omega
    obtain ⟨p1, p2⟩ := ord_ok true hz
    show List.Pairwise _ (List.reverse _)
    rw [List.pairwise_reverse, List.pairwise_map]
    refine (List.Pairwise.and_mem.mp p2).imp fun {i j} ⟨hi, hj, h⟩ => ?_
    have hi' : i < (katRev true vs).length := by
      have := List.mem_range.mp (p1.mem_iff.mp hi)
      rw [List.length_map] at this
      rw [kat_len]; exact this
    have hj' : j < (katRev true vs).length := by
      have := List.mem_range.mp (p1.mem_iff.mp hj)
      rw [List.length_map] at this
      rw [kat_len]; exact this
    rw [rev_map, List.getD_eq_getElem?_getD, List.getD_eq_getElem?_getD, List.getElem?_map, List.getElem?_map, List.getElem?_eq_getElem hi', List.getElem?_eq_getElem hj'] at h
    rw [List.getD_eq_getElem?_getD, List.getD_eq_getElem?_getD, List.getElem?_eq_getElem hi', List.getElem?_eq_getElem hj']
    exact h
end
theorem out_ord {ks : List Int} {as : List Addr} {us out : List Value} (r : Vals (as.map V.ref) us) (hl : ks.length = as.length) (h : out = sortBy Value.none true ks us) : ∃ as' : List Addr, as' = sortBy 0 true ks as ∧ Vals (as'.map V.ref) out ∧ as'.length ≤ as.length := by
  have eu := refs_eq r
  subst eu
  rw [sortBy_map (d := 0) Value.ref hl] at h
  refine ⟨_, rfl, by rw [h]; exact vals_refs _, ?_⟩
  exact Nat.le_of_eq (sortBy_perm hl).length_eq
def tSortHeadD (K : PySem.W.Frag) (j : Nat) (T : Addr) (lpos : Pos) (q : Str) (te : TE) : TE := fun σ H Q => te σ H fun v H1 => ∃ (p r : Addr) (as : List Addr) (ks : List Int), v = .ref p ∧ SqL K H1 p (as.map V.ref) ∧ as.length < 64 ∧ σ[j]? = some (some (.ref r)) ∧ ks.length = as.length ∧
  (∀ (i : Nat) (a : Addr) (k : Int), as[i]? = some a → ks[i]? = some k → headLen K H1 r a k) ∧ TabAt H1 T lpos q ∧
  ∀ (as' : List Addr) (H2 : Hp) (D : Addr), SameT T H1 H2 → TabAt H2 T lpos q → as' = sortBy 0 true ks as → H2 D = none → Q (.ref D) (upd H2 D (.lst (as'.map V.ref)))
theorem pe_sortheadD {X : Cx} {e : Expr} {te : TE} {x y : Str} {j : Nat} {params : Arguments} {scope : Scope} {p p1 p2 p3 p4 p5 p6 p7 p8 lpos kp kp2 pos : Pos} {j0 j1 : Nat} {c T : Addr}
    (hg : Gl X "sorted") (hm : X.mg "sorted" = none) (hml : X.mg "len" = none) (he : PE X e te) (S : LamSc scope x y) (hfr : ∀ z ∈ scope.names, z.2 = .free → X.env.kindOf z.1 = some .cell ∨ X.env.kindOf z.1 = some .free)
    (hN : X.N[j]? = some y) (hcode : X.env.code = .ref c) (hC : PySem.W.CodeHd X.base c T) (hB : X.base.BuiltinsAt X.mg T) (hroom : X.A.depth < recursionLimit) (hdef : defaultsOf params X.env = ([], []))
    (hbind : ∀ (qual : Str) (cl : List (Str × Addr)) (pm : Value) (c' : Addr) (ctv v : Value), bindArgs (PySem.W.kla_fn "<lambda>" qual params (headBody x y p1 p2 p3 p4 p5 p6 p7 j0) scope cl pm (.ref c') ctv) ⟨[v], []⟩ = pure [(x, v)])
    (hst : starEach [e] X.env = [(false, eval e X.env)] := by rfl) :
    PE X (.Call (.Name "sorted" p) [e] [⟨some "key", .Lambda params (headBody x y p1 p2 p3 p4 p5 p6 p7 j0) scope lpos, kp⟩, ⟨some "reverse", .Constant (.bool true) j1 p8, kp2⟩] pos) (tSortHeadD X.K j T lpos (X.env.qual ++ "<lambda>") te) := by
  intro pins s σ H Q I h
  refine wpAny_Call_Name_kw (ld_blt I hg hm bt_sorted ?_)
  refine PyProof.Rows.callWith_kw ?_ (by rw [hst]; rfl) (by rw [hst]; rfl)
  rw [hst]
  show wpAny _ _ (spliced ((false, eval e X.env) :: [])) _ _ s
  refine Calls.spliced_cons (thn (he pins s σ H _ I h) fun u s1 ⟨v, H1, I1, r1, q1⟩ => Calls.spliced_nil ?_)
  obtain ⟨a, r, as, ks, rfl, hp, hlen, hσ, hkl, hrow, hT, fin⟩ := q1
  cases r1
  refine PyProof.Rows.kws_cons (lam_make I1 hcode hC hB hfr hdef hT fun f c' ctv H2 s2 I2 ho hcd hf hT2 sT hsz => PyProof.Rows.kws_cons (Constant_bool (PyProof.Rows.kws_nil ?_)))
  obtain ⟨ps, hP, _⟩ := id hT
  obtain ⟨its, rv, pl, hz⟩ := I2.list (hp.sameT hP sT)
  obtain ⟨m, hm2, hl2⟩ := id I2.loc
  have hky : X.env.kindOf y = some .cell ∨ X.env.kindOf y = some .free := hfr (y, .free) (PySem.mem_of_lookup S.yf) rfl
  obtain ⟨ur, rr, look⟩ := hl2 j y (.ref r) hN hσ (.inr hky)
  cases rr
  obtain ⟨cy, ecy, hcell⟩ : ∃ cy, (clOf scope X.env).lookup y = some cy ∧ s2.heap.IsCell cy (some (.ref r)) := by
    have hfree : ∀ p ∈ scope.names, p.2 = .free → ∃ c, X.env.cells.lookup p.1 = some c := fun p hp e => I2.ok.has p.1 (hfr p hp e)
    obtain ⟨cy, e1⟩ := cl_has (env := X.env) (y := y) scope.names [] (.inl (PySem.mem_of_lookup S.yf))
    have e2 := cl_fold scope.names [] hfree (fun z => by simp at z) e1
    rcases look with ⟨k, _⟩ | ⟨_, c2, ec, z⟩
    · rcases hky with q | q
      · rw [q] at k; cases k
      · rw [q] at k; cases k
    · rw [e2] at ec; cases ec
      exact ⟨cy, e1, z⟩
  have hlv := rv.length
  rw [List.length_map] at hlv
  have nofn : ∀ {o : Obj}, s2.heap.get? X.env.locals = some o → ∃ es ep, o.data = .dict es ep := fun {o} e => by
    obtain ⟨o', es, ep, e', d, _⟩ := hm2
    rw [e] at e'; cases e'
    exact ⟨es, ep, d⟩
  have hn63 := line63
  refine ksk_sortedD (kz := ks) (f := .ref f) (b := true) (L := X.env.locals) (m := m) (news := Att.ledger s2.heap X.env.locals X.env.locals) (Att.fr_all hm2) ?_ pl.isList (by omega) (by omega) (ksk_s2 _ _ _) (fun x => ksk_l2 _ _ _) (fun x => ksk_t2 _ _ _) ?_ ?_
  · rintro ⟨b, o⟩ hp
    obtain ⟨n1, _, e⟩ := Att.mem_ledger.mp hp
    exact ⟨e, n1, Att.noObjs_get _ _⟩
  · intro i v k hvi hki h tk own F N
    have keep : ∀ b o, b ≠ X.env.locals → s2.heap.get? b = some o → h.get? b = some o := fun b o nb e => (N (b, o) (List.mem_append_left _ (Att.mem_ledger.mpr ⟨nb, nb, e⟩))).1
    have I3 : Inv X pins σ H2 { s2 with heap := h, toks := tk } := I2.butL hm2 F.ns keep
    obtain ⟨hil, _⟩ := List.getElem?_eq_some_iff.mp hvi
    have hni : as[i]? = some (as[i]'(by omega)) := List.getElem?_eq_getElem _
    obtain ⟨u, hu, ru⟩ := rv.get (i := i) (x := .ref (as[i]'(by omega))) (by rw [List.getElem?_map, hni]; rfl)
    rw [hvi] at hu; cases hu
    cases ru
    obtain ⟨ns, n, rs, q, kvs, h1, h2, h3, h4, h5, h6, h7⟩ := hrow i _ k hni hki
    obtain ⟨ats, rva, pla, za⟩ := I3.list (h1.sameT hP sT)
    obtain ⟨rits, rvr, plr, zr⟩ := I3.list (h4.sameT hP sT)
    have h6' : H2 q = some (.dK kvs) := sT q _ (by rintro rfl; rw [hP] at h6; cases h6) h6
    obtain ⟨zz, hd, ws, rel, dd⟩ := dk_of I3.hok h6'
    obtain ⟨u, hu, ru⟩ := rvr.get h5
    cases ru
    obtain ⟨u0, hu0, ru0⟩ := rva.get (i := 0) (x := .int n) (by rw [List.getElem?_map, h2]; rfl)
    obtain ⟨t0, rfl⟩ := ru0
    have hlr := rvr.length
    obtain ⟨hnl, _⟩ := List.getElem?_eq_some_iff.mp h5
    obtain ⟨mb, b1, b2⟩ := I3.mod.blt
    have ho' : h.get? f = some (PySem.W.kla_obj "<lambda>" (X.env.qual ++ "<lambda>") params (headBody x y p1 p2 p3 p4 p5 p6 p7 j0) scope (clOf scope X.env) ((X.mg "__name__").getD .none) c' ctv) := keep f _ (fun z => by
      obtain ⟨es, ep, d⟩ := nofn (z ▸ ho)
      cases d) ho
    have hcd' : h.CodeRec (.ref c') (X.env.qual ++ "<lambda>") := by
      obtain ⟨c2, o, vs, t2, e2, ho2, hd2, hv2⟩ := hcd
      refine ⟨c2, o, vs, t2, e2, keep c2 o (fun z => ?_) ho2, hd2, hv2⟩
      obtain ⟨es, ep, d⟩ := nofn (z ▸ ho2)
      rw [hd2] at d; cases d
    have hcell' : h.IsCell cy (some (.ref r)) := by
      obtain ⟨o, eo, d⟩ := hcell
      refine ⟨o, keep cy o (fun z => ?_) eo, d⟩
      obtain ⟨es, ep, d'⟩ := nofn (z ▸ eo)
      rw [d] at d'; cases d'
    have hrl := rel.length
    refine thn (lam_head (s := { s2 with heap := h, toks := tk }) (q := q) S hroom I3.nolimit (I3.mod.glob.keeps I3.bk) hml (b1.keeps I3.bk) ((b2 "len" (by decide)).trans (by decide +kernel)) ho' hcd' (hbind _ _ _ _ _) ecy hcell' pla.isList (by simpa using hu0) plr.isList h3 (by omega)
      (by simpa using hu) hd dd (by rw [sizeLine_eq] at zz; omega)) fun u s' ⟨h'', tk', t', e1, e2, hk⟩ => ?_
    subst e1
    refine ⟨h'', tk', t', rfl, ?_, F.kept hk, N.grown hk⟩
    rw [e2, h7, hrl]
  · intro D h' tk out c3 F' N' hlt hout
    obtain ⟨as', hby, rvo, hll⟩ := out_ord rv (by omega) hout
    have keep : ∀ b o, b ≠ X.env.locals → s2.heap.get? b = some o → h'.get? b = some o := fun b o nb e => (N' (b, o) (List.mem_cons_of_mem _ (Att.mem_ledger.mpr ⟨nb, nb, e⟩))).1
    have I3 : Inv X pins σ H2 { s2 with heap := h', toks := tk } := I2.butL hm2 F'.ns keep
    obtain ⟨eD, nD, _⟩ := N' (D, seqObj "list" out c3) List.mem_cons_self
    have hD : s2.heap.objs.size ≤ D := by
      have nf : f ≠ X.env.locals := fun z => by
        obtain ⟨es, ep, d⟩ := nofn (z ▸ ho)
        cases d
      have := hlt (f, _) (Att.mem_ledger.mpr ⟨nf, nf, ho⟩)
      rw [hsz]; exact this
    have hDn : H2 D = none := I2.hok.fresh hD
    refine ⟨.ref D, upd H2 D (.lst (as'.map V.ref)), I3.track hDn (Nat.le_trans I2.sz hD) nD (fun x c e z => ?_) (fun p hp z => ?_) ⟨by rw [List.length_map] at hz ⊢; omega, out.toList, c3, rvo, ?_⟩, rfl, fin as' H2 D sT hT2 hby hDn⟩
    · obtain ⟨v, o, eo, _⟩ := I2.cell x c e
      exact absurd (Nat.lt_of_lt_of_le (Heap.lt_size eo) hD) (by rw [z]; exact Nat.lt_irrefl _)
    · obtain ⟨eo, _⟩ := I2.pin p hp
      exact absurd (Nat.lt_of_lt_of_le (Heap.lt_size eo) hD) (by rw [z]; exact Nat.lt_irrefl _)
    · rw [eD]
theorem pe_sortheadDK {X : Cx} {e : Expr} {te : TE} {x y : Str} {j : Nat} {params : Arguments} {scope : Scope} {p p1 p2 p3 p4 p5 p6 p7 p8 lpos kp kp2 pos : Pos} {j0 j1 : Nat} {c T : Addr} {K : PySem.W.Frag} {Q0 : Str} (hK : X.K = K) (hQ : X.env.qual ++ "<lambda>" = Q0)
    (hg : Gl X "sorted") (hm : X.mg "sorted" = none) (hml : X.mg "len" = none) (he : PE X e te) (S : LamSc scope x y) (hfr : ∀ z ∈ scope.names, z.2 = .free → X.env.kindOf z.1 = some .cell ∨ X.env.kindOf z.1 = some .free)
    (hN : X.N[j]? = some y) (hcode : X.env.code = .ref c) (hC : PySem.W.CodeHd X.base c T) (hB : X.base.BuiltinsAt X.mg T) (hroom : X.A.depth < recursionLimit) (hdef : defaultsOf params X.env = ([], []))
    (hbind : ∀ (qual : Str) (cl : List (Str × Addr)) (pm : Value) (c' : Addr) (ctv v : Value), bindArgs (PySem.W.kla_fn "<lambda>" qual params (headBody x y p1 p2 p3 p4 p5 p6 p7 j0) scope cl pm (.ref c') ctv) ⟨[v], []⟩ = pure [(x, v)])
    (hst : starEach [e] X.env = [(false, eval e X.env)] := by rfl) :
    PE X (.Call (.Name "sorted" p) [e] [⟨some "key", .Lambda params (.Call (.Name "len" p1) [.Subscript (.Name y p2) (.Subscript (.Name x p3) (.Constant (.int 0) j0 p4) p5) p6] [] p7) scope lpos, kp⟩, ⟨some "reverse", .Constant (.bool true) j1 p8, kp2⟩] pos) (tSortHeadD K j T lpos Q0 te) := by
  subst hK hQ
  exact pe_sortheadD hg hm hml he S hfr hN hcode hC hB hroom hdef hbind hst
end L2
namespace L2
open PySem PySem.Spec PyProof.Rows PySem.W STab
def plt (a b : Int × Int) : Prop := a.1 < b.1 ∨ (a.1 = b.1 ∧ a.2 < b.2)
instance (a b : Int × Int) : Decidable (plt a b) := by unfold plt; exact inferInstance
def pltz (kz : List (Int × Int)) (i j : Nat) : Bool := decide (plt (kz.getD i (0, 0)) (kz.getD j (0, 0)))
theorem pltz_swo (kz : List (Int × Int)) : Swo (pltz kz) where
  irr := fun a => decide_eq_false (by unfold plt; omega)
  tr := fun a b d h1 h2 => by
    have h1' := of_decide_eq_true h1
    have h2' := of_decide_eq_true h2
    unfold plt at h1' h2'
    exact decide_eq_true (by unfold plt; omega)
  neg := fun a b d h => by
    have h' := of_decide_eq_true h
    by_cases e : plt (kz.getD a (0, 0)) (kz.getD b (0, 0))
    · exact .inl (decide_eq_true e)
    · refine .inr (decide_eq_true ?_)
      unfold plt at h' e ⊢
      omega
abbrev Zs := List (Addr × Int × Int)
def pairOf (k : Int × Int) : List V := [.int k.1, .int k.2]
section
variable {prog : Program} {w : World} {A : Around} {E : Value → Shared → Prop} {s : Shared}
theorem sort_short {a : Addr} {vs : List Value} {n : Nat} {P : PySem.Fin → Shared → Prop} (ho : s.heap.get? a = some (seqObj "list" vs.toArray n)) (h2 : vs.length < 2)
    (h : ∀ out : Array Value, out.toList = vs → P (.done (.ret .none)) { s with heap := sortedHeap s.heap a vs out }) : wpAny (model prog w) A (Builtin.«list.sort» ⟨[.ref a], []⟩) P E s := by
  rw [list_sort_plain]
  have ha : a < s.heap.objs.size := Heap.lt_size ho
  refine wpAny_bind (listItems_at ho rfl ?_)
  refine wpAny_bind (listUpdate_at ho rfl ?_ (by rw [List.size_toArray, sizeLine_eq]; omega) (Nat.zero_le _))
  obtain ⟨e1, ho1⟩ : ∃ e1, (s.heap.update a (Obj.mapSeq fun _ => (#[] : Array Value))).get? a = some (seqObj "list" #[] e1) := ⟨_, get?_update_seq ho (fun _ => #[])⟩
  refine wpAny_bind (seqEpoch_at ho1 rfl ?_)
  refine wpAny_bind (wpAny_newTuple ?_ (by show vs.length ≤ _; rw [sizeLine_eq]; omega))
  refine wpAny_bind (wpAny_newList ?_ (Nat.zero_le _))
  refine wpAny_holding ?_
  have ho6 : (((s.heap.update a (Obj.mapSeq fun _ => #[])).push (seqObj "tuple" vs.toArray 0)).push (seqObj "list" #[] 0)).get? a = some (seqObj "list" #[] e1) := by
    rw [Heap.get?_push_ne _ _ _ (by rw [size_push', Heap.size_update]; exact Nat.ne_of_lt (Nat.lt_succ_of_lt ha)), Heap.get?_push_ne _ _ _ (by rw [Heap.size_update]; exact Nat.ne_of_lt ha)]
    exact ho1
  show wpAny (model prog w) A _ P E { s with heap := ((s.heap.update a (Obj.mapSeq fun _ => #[])).push (seqObj "tuple" vs.toArray 0)).push (seqObj "list" #[] 0) }
  dsimp only
  have h2' : vs.toArray.size < 2 := by rw [List.size_toArray]; exact h2
  rw [if_pos h2', if_pos h2']
  refine wpAny_bind (wpAny_pure ?_)
  rw [StateT.run_pure]
  refine wpAny_bind (wpAny_pure ?_)
  dsimp only
  refine wpAny_bind (seqEpoch_at ho6 rfl ?_)
  have eo : ((vs.toArray.zip vs.toArray).map (·.2)).toList = vs := by
    clear h ho h2' ho6
    match vs, h2 with
    | [], _ => simp
    | [v], _ => simp
  refine wpAny_bind (listUpdate_at ho6 rfl ?_ (hsz2 := by
    show ((vs.toArray.zip vs.toArray).map (·.2)).size ≤ _
    rw [← Array.length_toList, eo, sizeLine_eq]; omega))
  simp only [bne_self_eq_false, Bool.false_eq_true, if_false]
  exact wpAny_pure (h _ eo)
end
section
variable {X : Cx} {pins : List (Addr × Obj)} {σ : St} {H : Hp} {s : Shared}
theorem pair_at {a : Addr} {k : Int × Int} (ok : HOk X.prog X.w H s.heap) (e : H a = some (.tup (pairOf k))) : ∃ (o : Obj) (t u : Tok) (n : Nat), s.heap.get? a = some o ∧ o.cls = .type "tuple" ∧ o.data = .seq #[.int k.1 t, .int k.2 u] n := by
  obtain ⟨z0, its, r, o, h1, h2, n, h3⟩ := (show ObjOk X.prog X.w H s.heap a (.tup (pairOf k)) from ok a _ e)
  unfold pairOf at r
  cases r with
  | cons r1 rt =>
    obtain ⟨t, rfl⟩ := r1
    cases rt with
    | cons r2 rn =>
      obtain ⟨u, rfl⟩ := r2
      cases rn
      exact ⟨o, t, u, n, h1, h2, h3⟩
theorem tups_of {h : Heap} (ok : HOk X.prog X.w H s.heap) (keep : ∀ b o, H b ≠ none → s.heap.get? b = some o → h.get? b = some o) : ∀ {zs : Zs}, (∀ z ∈ zs, H z.1 = some (.tup (pairOf z.2))) → ∃ fs : List Value, KatTups h (zs.map fun z => Value.ref z.1) fs ∧ fs.length = zs.length ∧ ∀ v ∈ fs, ∃ n t, v = Value.int n t
  | [], _ => ⟨[], KatTups.nil, rfl, fun _ h => by cases h⟩
  | z :: zs, hz => by
    obtain ⟨fs, h1, h2, h3⟩ := tups_of ok keep (zs := zs) fun x hx => hz x (List.mem_cons_of_mem _ hx)
    obtain ⟨o, t, u, n, e1, e2, e3⟩ := pair_at ok (hz z List.mem_cons_self)
    refine ⟨.int z.2.1 t :: fs, KatTups.cons (keep _ _ (by rw [hz z List.mem_cons_self]; exact fun q => by cases q) e1) e2 e3 rfl h1, by rw [List.length_cons, List.length_cons, h2], fun v hv => ?_⟩
    rcases List.mem_cons.mp hv with q | q
    · exact ⟨_, _, q⟩
    · exact h3 v q
theorem lt_pairs {prog : Program} {w : World} {A : Around} {E : Value → Shared → Prop} {s : Shared} {x y : Addr} {ox oy : Obj} {k j : Int × Int} {t u t' u' : Tok} {n n' : Nat} {Q : Bool → Shared → Prop} (hx : s.heap.get? x = some ox) (dx : ox.data = .seq #[.int k.1 t, .int k.2 u] n)
    (hy : s.heap.get? y = some oy) (dy : oy.data = .seq #[.int j.1 t', .int j.2 u'] n') (h : Q (decide (plt k j)) s) : wpAny (model prog w) A (keyLt' (tuples' true) (.ref x) (.ref y)) Q E s := by
  refine kat_lt hx dx hy dy ?_
  show KatLex prog w A true (decide (2 < 2)) Q [(.int k.1 t, .int j.1 t'), (.int k.2 u, .int j.2 u')] 0 s
  refine kat_cons (wpAny_eqBool_int (kat_go (fun e => kat_yes ?_) fun e => kat_no ?_))
  · have e' : k.1 = j.1 := by simpa using e
    refine kat_cons (wpAny_eqBool_int (kat_go (fun e2 => kat_yes (kat_nil ?_)) fun e2 => kat_no ?_))
    · have e2' : k.2 = j.2 := by simpa using e2
      have : decide (plt k j) = decide (2 < 2) := by
        rw [decide_eq_false (p := plt k j) (by unfold plt; omega)]; rfl
      rw [← this]; exact h
    · have : decide (plt k j) = decide (k.2 < j.2) := by
        by_cases c : k.2 < j.2
        · rw [decide_eq_true (p := plt k j) (by unfold plt; omega), decide_eq_true c]
        · rw [decide_eq_false (p := plt k j) (by unfold plt; omega), decide_eq_false c]
      rw [this] at h
      exact kat_one _ _ (PyProof.Rows.lt_int h)
  · have e' : k.1 ≠ j.1 := by simpa using e
    have : decide (plt k j) = decide (k.1 < j.1) := by
      by_cases c : k.1 < j.1
      · rw [decide_eq_true (p := plt k j) (by unfold plt; omega), decide_eq_true c]
      · rw [decide_eq_false (p := plt k j) (by unfold plt; omega), decide_eq_false c]
    rw [this] at h
    exact oneLt_int h
def pLe (a b : Addr × Int × Int) : Prop := ¬ plt b.2 a.2
theorem sort_newT {zs : Zs} {A : Around} {E : Value → Shared → Prop} {Q : VK} (I : Inv X pins σ H s) (hz : ∀ z ∈ zs, H z.1 = some (.tup (pairOf z.2))) (h64 : zs.length < 64)
    (q : ∀ zs' : Zs, zs'.Perm zs → zs'.Pairwise pLe → ∀ p, H p = none → Q (.ref p) (upd H p (.lst (zs'.map fun z => V.ref z.1)))) :
    wpAny (model X.prog X.w) A (call (.builtin "list.sort") [.ref s.heap.objs.size]) (fun _ s' => EP X pins σ Q (.ref s.heap.objs.size) s') E { s with heap := s.heap.push (seqObj "list" (zs.map fun z => Value.ref z.1).toArray 0) } := by
  have hoL : (s.heap.push (seqObj "list" (zs.map fun z => Value.ref z.1).toArray 0)).get? s.heap.objs.size = some (seqObj "list" (zs.map fun z => Value.ref z.1).toArray 0) := Heap.get?_push_size _ rfl
  have hlv : (zs.map fun z => Value.ref z.1).length = zs.length := List.length_map _
  have rvals : ∀ l : Zs, Vals (l.map fun z => V.ref z.1) (l.map fun z => Value.ref z.1) := fun l => by
    induction l with
    | nil => exact .nil
    | cons z l ih => exact .cons rfl ih
  by_cases h2 : zs.length < 2
  · refine wpAny_call_entry slot_list_sort ⟨_, hoL, rfl⟩ entry_list_sort (sort_short hoL (by omega) fun out ho => ⟨_, rfl, ?_⟩) (args_list_sort _)
    obtain ⟨e, he⟩ := sortedHeap_at (vs := zs.map fun z => Value.ref z.1) (out := out) hoL
    refine ⟨.ref s.heap.objs.size, _, I.laid (a := s.heap.objs.size) (o := .lst (zs.map fun z => V.ref z.1)) (t' := s.toks) (fun b o hb => ?_) (Nat.le_refl _) ?_, rfl, q zs (.refl _) ?_ _ (I.hok.fresh (Nat.le_refl _))⟩
    · have hlt := Heap.lt_size hb
      show (sortedHeap (s.heap.push (seqObj "list" (zs.map fun z => Value.ref z.1).toArray 0)) s.heap.objs.size (zs.map fun z => Value.ref z.1) out).get? b = some o
      rw [sortedHeap_old (Nat.ne_of_lt hlt) (by rw [size_push']; exact Nat.lt_succ_of_lt hlt)]
      exact Heap.get?_push_of_some _ hb
    · refine ⟨by rw [List.length_map, sizeLine_eq]; omega, out.toList, e, by rw [ho]; exact rvals zs, ?_⟩
      show (sortedHeap (s.heap.push (seqObj "list" (zs.map fun z => Value.ref z.1).toArray 0)) s.heap.objs.size (zs.map fun z => Value.ref z.1) out).get? s.heap.objs.size = _
      rw [he]
    · match zs, h2 with
      | [], _ => exact .nil
      | [v], _ => exact List.pairwise_singleton _ _
  · obtain ⟨m, hm2, hl2⟩ := id I.loc
    have keepP : ∀ b o, s.heap.get? b = some o → (s.heap.push (seqObj "list" (zs.map fun z => Value.ref z.1).toArray 0)).get? b = some o := fun b o e => Heap.get?_push_of_some _ e
    have N0 : News (Att.noObjs s.heap) X.env.locals s.heap (Att.ledger s.heap X.env.locals X.env.locals) := by
      rintro ⟨b, o⟩ hp
      obtain ⟨n1, _, e⟩ := Att.mem_ledger.mp hp
      exact ⟨e, n1, Att.noObjs_get _ _⟩
    refine wpAny_call_entry slot_list_sort ⟨_, hoL, rfl⟩ entry_list_sort (kat_list_sort (h₀ := Att.noObjs s.heap) (L := X.env.locals) (m := m) (news := Att.ledger s.heap X.env.locals X.env.locals) ((Att.fr_all hm2).kept keepP) (N0.grown keepP) hoL (Nat.ne_of_gt (Att.fr_all hm2).ns.lt) (Att.noObjs_get _ _)
      (fun p hp => Nat.ne_of_lt (Heap.lt_size (N0 p hp).1)) (by omega) (by omega) fun e1 h' F' N' => ?_) (args_list_sort _)
    have keep : ∀ b o, b ≠ X.env.locals → s.heap.get? b = some o → h'.get? b = some o := fun b o nb e => (N' (b, o) (List.mem_cons_of_mem _ (Att.mem_ledger.mpr ⟨nb, nb, e⟩))).1
    have nL : ∀ b, H b ≠ none → b ≠ X.env.locals := fun b e z => e (by rw [z, I.free])
    obtain ⟨fs, t1, t2, t3⟩ := tups_of (h := h') I.hok (fun b o hb e => keep b o (nL b hb) e) hz
    refine kat_kind (T := .type "int") t1 (by omega) (fun v hv => ?_) (by decide) ?_
    · obtain ⟨n, t, rfl⟩ := t3 v hv
      exact .now
    have eT : (Value.type "int" != Value.type "tuple") = true := by decide
    rw [eT]
    have S := pltz_swo (zs.map (·.2))
    have ok := sort_ok S (n := zs.length) (by omega)
    rw [hlv]
    have at_ : ∀ i, i < zs.length → ∃ z, zs[i]? = some z ∧ (zs.map fun z => Value.ref z.1).getD i Value.none = .ref z.1 ∧ (zs.map (·.2)).getD i (0, 0) = z.2 := fun i hi => by
      refine ⟨zs[i], List.getElem?_eq_getElem hi, ?_, ?_⟩
      · rw [List.getD_eq_getElem?_getD, List.getElem?_map, List.getElem?_eq_getElem hi]; rfl
      · rw [List.getD_eq_getElem?_getD, List.getElem?_map, List.getElem?_eq_getElem hi]; rfl
    refine KOk.wp (fun i j hi hj C hC => ?_) ok ?_
    · obtain ⟨z, hz1, ez, kz⟩ := at_ i hi
      obtain ⟨y, hy1, ey, ky⟩ := at_ j hj
      unfold kas_ask
      rw [ez, ey]
      have hz' := hz z (List.mem_of_getElem? hz1)
      have hy' := hz y (List.mem_of_getElem? hy1)
      obtain ⟨o, t, u, n, a1, a2, a3⟩ := pair_at I.hok hz'
      obtain ⟨o', t', u', n', b1, b2, b3⟩ := pair_at I.hok hy'
      unfold pltz at hC
      rw [kz, ky] at hC
      exact lt_pairs (keep _ _ (nL _ (by rw [hz']; exact fun q => by cases q)) a1) a3 (keep _ _ (nL _ (by rw [hy']; exact fun q => by cases q)) b1) b3 hC
    · obtain ⟨PI, U⟩ := ok.ev
      refine KasFin.intro F' N' (UpdF.head fun p hp => Nat.ne_of_lt (Heap.lt_size (N0 p hp).1)) fun h3 c3 F3 N3 => ⟨_, rfl, ?_⟩
      have keep3 : ∀ b o, b ≠ X.env.locals → s.heap.get? b = some o → h3.get? b = some o := fun b o nb e => (N3 (b, o) (List.mem_cons_of_mem _ (Att.mem_ledger.mpr ⟨nb, nb, e⟩))).1
      have I3 : Inv X pins σ H { s with heap := h3, toks := s.toks } := I.butL hm2 F3.ns keep3
      have hDn : H s.heap.objs.size = none := I.hok.fresh (Nat.le_refl _)
      have eo : ((kev (pltz (zs.map (·.2))) (kas_sort zs.length)).toList.map fun i => (zs.map fun z => Value.ref z.1).getD i Value.none) = ((kev (pltz (zs.map (·.2))) (kas_sort zs.length)).toList.map fun i => zs.getD i (0, 0, 0)).map fun z => Value.ref z.1 := by
        rw [List.map_map]
        refine List.map_congr_left fun i hi => ?_
        have hi' : i < zs.length := List.mem_range.mp (PI.perm.mem_iff.mp hi)
        show _ = Value.ref (zs.getD i (0, 0, 0)).1
        rw [List.getD_eq_getElem?_getD, List.getD_eq_getElem?_getD, List.getElem?_map, List.getElem?_eq_getElem hi']; rfl
      have hpm : ((kev (pltz (zs.map (·.2))) (kas_sort zs.length)).toList.map fun i => zs.getD i (0, 0, 0)).Perm zs := by
        have := PI.perm.map fun i => zs.getD i (0, 0, 0)
        rwa [range_getD] at this
      refine ⟨.ref s.heap.objs.size, _, I3.track (o := .lst (((kev (pltz (zs.map (·.2))) (kas_sort zs.length)).toList.map fun i => zs.getD i (0, 0, 0)).map fun z => V.ref z.1)) hDn (I.sz) (Nat.ne_of_gt (Att.fr_all hm2).ns.lt) (fun x c e z => ?_) (fun p hp z => ?_) ⟨?_, ((kev (pltz (zs.map (·.2))) (kas_sort zs.length)).toList.map fun i => zs.getD i (0, 0, 0)).map fun z => Value.ref z.1, c3, rvals _, ?_⟩, rfl, q _ hpm ?_ _ hDn⟩
      · obtain ⟨v, o, eo, _⟩ := I.cell x c e
        exact absurd (Heap.lt_size eo) (by rw [z]; exact Nat.lt_irrefl _)
      · obtain ⟨eo, _⟩ := I.pin p hp
        exact absurd (Heap.lt_size eo) (by rw [z]; exact Nat.lt_irrefl _)
      · rw [List.length_map, hpm.length_eq, sizeLine_eq]; omega
      · have := (N3 (s.heap.objs.size, _) List.mem_cons_self).1
        rw [this, eo]
      · rw [List.pairwise_map, List.pairwise_iff_getElem]
        intro i j hi hj hij
        have hi' : i < (kev (pltz (zs.map (·.2))) (kas_sort zs.length)).size := by simpa using hi
        have hj' : j < (kev (pltz (zs.map (·.2))) (kas_sort zs.length)).size := by simpa using hj
        have := U i j (Nat.le_of_lt hij) (by rw [← PI.size]; exact hj')
        unfold L2.kle at this
        have e1 : (kev (pltz (zs.map (·.2))) (kas_sort zs.length)).getD i 0 = (kev (pltz (zs.map (·.2))) (kas_sort zs.length)).toList[i] := by simp [Array.getD, hi']
        have e2 : (kev (pltz (zs.map (·.2))) (kas_sort zs.length)).getD j 0 = (kev (pltz (zs.map (·.2))) (kas_sort zs.length)).toList[j] := by simp [Array.getD, hj']
        rw [e1, e2] at this
        have hi2 : (kev (pltz (zs.map (·.2))) (kas_sort zs.length)).toList[i] < zs.length := List.mem_range.mp (PI.perm.mem_iff.mp (List.getElem_mem _))
        have hj2 : (kev (pltz (zs.map (·.2))) (kas_sort zs.length)).toList[j] < zs.length := List.mem_range.mp (PI.perm.mem_iff.mp (List.getElem_mem _))
        have := of_decide_eq_false this
        unfold pLe
        rw [List.getD_eq_getElem?_getD, List.getD_eq_getElem?_getD, List.getElem?_map, List.getElem?_map, List.getElem?_eq_getElem hi2, List.getElem?_eq_getElem hj2] at this
        rw [List.getD_eq_getElem?_getD, List.getD_eq_getElem?_getD, List.getElem?_eq_getElem hi2, List.getElem?_eq_getElem hj2]
        exact this
theorem call_sorted_gen {us : List Value} {a : Addr} {C : Value → Shared → Prop} {A : Around} {E : Value → Shared → Prop} (hl : s.heap.IsList a us.toArray) (hz : us.length ≤ sizeLine)
    (h : ∀ h' : Heap, (∀ b o, s.heap.get? b = some o → h'.get? b = some o) → wpAny (model X.prog X.w) A.in1 (call (.builtin "list.sort") [.ref h'.objs.size]) (fun _ s' => C (.ref h'.objs.size) s') E { s with heap := h'.push (seqObj "list" us.toArray 0) }) :
    wpAny (model X.prog X.w) A (call (.builtin "sorted") [.ref a]) C E s := by
  refine Calls.call_function_entry kind_sorted plain_sorted entry_sorted (args_sorted1 _) ?_
  unfold Builtin.«sorted»
  refine wpAny_bind (m := checkCount "sorted" 1 1 _) (wpAny_pure ?_)
  refine wpAny_bind (collect_list hl ?_ hz)
  refine wpAny_bind (wpAny_newList ?_ hz)
  refine wpAny_bind (wpAny_holding (wpAny_mono (h _ fun b o q => ?_) (fun _ s' x => ?_) fun _ _ e => e))
  · have hlt : b < s.heap.objs.size := Heap.lt_size q
    rw [Heap.get?_update_ne _ _ _ _ (Nat.ne_of_lt hlt), Heap.get?_push_ne _ _ _ (Nat.ne_of_lt hlt)]
    exact q
  · exact wpAny_pure ⟨_, rfl, x⟩
def rSortP : List V → Hp → VK → Prop := fun xs H Q => ∃ (p : Addr) (zs : Zs), xs = [.ref p] ∧ H p = some (.lst (zs.map fun z => V.ref z.1)) ∧ (∀ z ∈ zs, H z.1 = some (.tup (pairOf z.2))) ∧ zs.length < 64 ∧
  ∀ zs' : Zs, zs'.Perm zs → zs'.Pairwise pLe → ∀ l, H l = none → Q (.ref l) (upd H l (.lst (zs'.map fun z => V.ref z.1)))
theorem call_sortedP : CallR X (.builtin "sorted") rSortP := by
  intro pins s σ H xs us Q I r h
  obtain ⟨p, zs, rfl, hp, hz, h64, q⟩ := h
  obtain ⟨u, rfl, rx⟩ := vals1 r
  cases rx
  obtain ⟨its, rv, pl, hzl⟩ := I.list (xs := zs.map fun z => V.ref z.1) (.inl (.inl hp))
  have er : its = zs.map fun z => Value.ref z.1 := by
    have e0 : (zs.map fun z => V.ref z.1) = (zs.map (·.1)).map V.ref := by rw [List.map_map]; rfl
    rw [e0] at rv
    have := refs_eq rv
    rw [this, List.map_map]; rfl
  subst er
  refine call_sorted_gen pl.isList (by rw [List.length_map, sizeLine_eq]; omega) fun h' hk => ?_
  exact sort_newT (A := X.A.in1) (E := X.xe) (I.kept (t' := s.toks) hk) hz h64 q
def rSortSetP (P : Program) (w : World) : List V → Hp → VK → Prop := fun xs H Q => ∃ (p : Addr) (zs : Zs), xs = [.ref p] ∧ H p = some (setTO P w p (zs.map fun z => ([z.2.1, z.2.2], z.1))) ∧ (∀ z ∈ zs, H z.1 = some (.tup (pairOf z.2))) ∧ zs.length < 64 ∧
  ∀ zs' : Zs, zs'.Perm zs → zs'.Pairwise pLe → ∀ l, H l = none → Q (.ref l) (upd H l (.lst (zs'.map fun z => V.ref z.1)))
theorem perm_back {α β : Type} {f : α → β} : ∀ {l : List β} {m : List α}, l.Perm (m.map f) → ∃ m' : List α, m'.Perm m ∧ m'.map f = l := by
  intro l m h
  generalize hx : m.map f = x at h
  induction h generalizing m with
  | nil => exact ⟨[], by rw [List.map_eq_nil_iff.mp hx], rfl⟩
  | cons a _ ih =>
    obtain ⟨b, m2, rfl, rfl, h2⟩ := List.map_eq_cons_iff.mp hx
    obtain ⟨m', p1, p2⟩ := ih h2
    exact ⟨b :: m', p1.cons b, by rw [List.map_cons, p2]⟩
  | swap a b l =>
    obtain ⟨x1, m2, rfl, rfl, h2⟩ := List.map_eq_cons_iff.mp hx
    obtain ⟨x2, m3, rfl, rfl, h3⟩ := List.map_eq_cons_iff.mp h2
    exact ⟨x2 :: x1 :: m3, List.Perm.swap _ _ _, by rw [List.map_cons, List.map_cons, h3]⟩
  | trans _ _ ih1 ih2 =>
    obtain ⟨m1, p1, e1⟩ := ih2 hx
    obtain ⟨m2, p2, e2⟩ := ih1 e1
    exact ⟨m2, p2.trans p1, e2⟩
theorem call_sorted_setP (hc : X.calm = true) : CallR X (.builtin "sorted") (rSortSetP X.prog X.w) := by
  intro pins s σ H xs us Q I r h
  obtain ⟨p, zs, rfl, hp, hz, h64, q⟩ := h
  obtain ⟨u, rfl, rx⟩ := vals1 r
  cases rx
  obtain ⟨⟨o, es, ep, t, ho, hx, hd, hperm, T, _, _⟩, _, _⟩ := (show ObjOk X.prog X.w H s.heap p (setTO X.prog X.w p _) from I.hok p _ hp)
  have hsz : es.size = zs.length := by rw [← Array.length_toList, hperm.length_eq, List.length_map, List.length_map]
  refine Calls.call_function_entry kind_sorted plain_sorted entry_sorted (args_sorted1 _) ?_
  unfold Builtin.«sorted»
  refine wpAny_bind (m := checkCount "sorted" 1 1 _) (wpAny_pure ?_)
  refine wpAny_bind (PySem.W.kdu_collect (A := X.A.in1) (src_set (P := X.prog) hx hd T) (I.ok.hd hc) ho (by rw [sizeLine_eq]; omega) fun h' tk acc hk hacc => ?_)
  have hl : acc.toList.length = es.size := by rw [Array.length_toList]; exact hacc.1
  refine wpAny_bind (wpAny_newList ?_ (by rw [hl, sizeLine_eq]; omega))
  have I' : Inv X pins σ H { s with heap := h', toks := tk } := I.kept hk
  have op := ord_perm X.w p ep es
  have ea : acc.toList = (ordS X.w p ep es).map (·.2) := by
    refine List.ext_getElem? fun j => ?_
    rcases Nat.lt_or_ge j acc.toList.length with c | c
    · obtain ⟨e, h1, h2⟩ := hacc.2 j _ (by rw [← Array.getElem?_toList]; exact List.getElem?_eq_getElem c)
      rw [List.getElem?_eq_getElem c, List.getElem?_map, h1]
      exact congrArg some h2.symm
    · rw [List.getElem?_eq_none c, List.getElem?_eq_none (by rw [List.length_map, ord_len]; omega)]
  have kp : acc.toList.Perm (zs.map fun z => Value.ref z.1) := by
    rw [ea]
    have := (op.trans hperm).map (·.2)
    rw [List.map_map, List.map_map] at this
    exact this
  obtain ⟨zs1, p1, e1⟩ := perm_back kp
  rw [← e1]
  refine wpAny_bind (wpAny_holding (wpAny_mono (sort_newT (A := X.A.in1) (E := X.xe) I' (fun z hz' => hz z (p1.mem_iff.mp hz')) (by rw [p1.length_eq]; exact h64) fun zs' b1 b2 => q zs' (b1.trans p1) b2) (fun _ s' x => ?_) fun _ _ e => e))
  exact wpAny_pure ⟨_, rfl, x⟩
def rMaxI (K : PySem.W.Frag) : List V → Hp → VK → Prop := fun xs H Q => ∃ (p : Addr) (ns : List Int), xs = [.ref p] ∧ SqL K H p (ns.map V.int) ∧ ns ≠ [] ∧ ∀ M, M ∈ ns → (∀ a ∈ ns, a ≤ M) → Q (.int M) H
theorem call_maxI (hc : X.calm = true) : CallR X (.builtin "max") (rMaxI X.K) := by
  intro pins s σ H xs us Q I r h
  obtain ⟨p, ns, rfl, hq, hne, q⟩ := h
  obtain ⟨u, rfl, rx⟩ := vals1 r
  cases rx
  obtain ⟨its, rv, pl, hz⟩ := I.list hq
  obtain ⟨m, hm2, hl2⟩ := id I.loc
  refine max_list_N (h₀ := Att.noObjs s.heap) (L := X.env.locals) (m := m) (news := Att.ledger s.heap X.env.locals X.env.locals) (I.ok.hd hc) (Att.fr_all hm2) ?_ pl.isList (intsAre_of rv) (List.length_pos_iff.mpr hne) fun h' M t tk F' N' a1 a2 => ?_
  · rintro ⟨b, o⟩ hp
    obtain ⟨n1, _, e⟩ := Att.mem_ledger.mp hp
    exact ⟨e, n1, Att.noObjs_get _ _⟩
  · exact ⟨.int M, H, I.butL hm2 F'.ns fun b o nb e => (N' (b, o) (Att.mem_ledger.mpr ⟨nb, nb, e⟩)).1, ⟨t, rfl⟩, q M a1 a2⟩
end
theorem args_mx (a v d : Value) : argsOk "max" ⟨[a], [(Str.ofString "key", v), (Str.ofString "default", d)]⟩ := by unfold argsOk; kernel_rfl
section
variable {prog : Program} {w : World} {A : Around} {E : Value → Shared → Prop} {s : Shared} {h0 : Heap} {l I S : Addr} {d : Value} {as : List Addr} {ls : List Nat} {R : Result → Shared → Prop}
theorem mx_len (lens : ∀ (i : Nat) (a : Addr), as[i]? = some a → ∃ its : Array Value, h0.IsList a its ∧ its.size = ls.getD i 0 ∧ its.size ≤ sizeLine) {i : Nat} {a : Addr} {h : Heap} {tk : Nat} {Q : Value → Shared → Prop} (ha : as[i]? = some a)
    (keep : ∀ b o, h0.get? b = some o → h.get? b = some o) (hQ : ∀ t tk', Q (.int (ls.getD i 0 : Nat) t) { s with heap := h, toks := tk' }) : wpAny (model prog w) A (call (.builtin "len") [.ref a]) Q E { s with heap := h, toks := tk } := by
  obtain ⟨its, ⟨o, ho, hc⟩, h2, h3⟩ := lens i a ha
  refine Calls.call_len_list (s := { s with heap := h, toks := tk }) ⟨o, keep _ _ ho, hc⟩ (by have := line63; omega) ?_
  rw [h2]
  exact hQ _ _
theorem mx_loop (hh : A.handled = none) (lens : ∀ (i : Nat) (a : Addr), as[i]? = some a → ∃ its : Array Value, h0.IsList a its ∧ its.size = ls.getD i 0 ∧ its.size ≤ sizeLine) (hl : h0.IsList l (as.map Value.ref).toArray)
    (hI : h0.objs.size ≤ I) (hS : h0.objs.size ≤ S) (hSI : S ≠ I)
    (hR : ∀ i a h' tk, as[i]? = some a → (∀ j, j < as.length → ls.getD j 0 ≤ ls.getD i 0) → (∀ b o, h0.get? b = some o → h'.get? b = some o) → R (.ok (.ret (.ref a))) { s with heap := h', toks := tk }) :
    ∀ (r j i : Nat) (a : Addr) (h : Heap) (tk : Nat) (tb : Tok) (c : Nat), as.length - (j + 1) = r → j + 1 ≤ as.length → (∀ b o, h0.get? b = some o → h.get? b = some o) → h.get? S = some (seqObj "list" #[.ref a, .int (ls.getD i 0 : Nat) tb] c) →
      h.IsListIter I l (j + 1) → as[i]? = some a → (∀ j', j' ≤ j → ls.getD j' 0 ≤ ls.getD i 0) →
      codeAny (model prog w) A (.builtin "max.loop" ⟨[.ref I, .builtin "len", .ref S], [(Str.ofString "default", d)]⟩) R { s with heap := h, toks := tk } := by
  have hname : (toString "max" ++ toString ".loop" : String) = "max.loop" := by decide
  obtain ⟨ol, hol, _⟩ := id hl
  have hlI : l ≠ I := Nat.ne_of_lt (Nat.lt_of_lt_of_le (Heap.lt_size hol) hI)
  have W := Walks.list (prog := prog) (w := w) (A := A.in1) hh I l hlI (as.map Value.ref).toArray
  have hsz : (as.map Value.ref).toArray.size = as.length := by rw [List.size_toArray, List.length_map]
  have hlk : ∀ {h : Heap}, (∀ b o, h0.get? b = some o → h.get? b = some o) → h.IsList l (as.map Value.ref).toArray := fun {h} k => by
    obtain ⟨o, ho, x⟩ := id hl
    exact ⟨o, k _ _ ho, x⟩
  have off : ∀ {h h' : Heap} {D : Addr}, h0.objs.size ≤ D → (∀ b o, h0.get? b = some o → h.get? b = some o) → (∀ b o, b ∉ [D] → h.get? b = some o → h'.get? b = some o) → ∀ b o, h0.get? b = some o → h'.get? b = some o := fun {h h' D} hD k k' b o e => k' b o (fun z => by
    rw [List.mem_singleton.mp z] at e
    exact absurd (Heap.lt_size e) (Nat.not_lt.mpr hD)) (k b o e)
  have offU : ∀ {h : Heap} (f : Obj → Obj), (∀ b o, h0.get? b = some o → h.get? b = some o) → ∀ b o, h0.get? b = some o → (h.update S f).get? b = some o := fun {h} f k => off hS k fun b o hb e => by
    rw [Heap.get?_update_ne _ _ _ _ (fun z => hb (List.mem_singleton.mpr z))]; exact e
  intro r
  induction r with
  | zero =>
    intro j i a h tk tb c hr hj keep gS hit ha hbest
    have hin : j + 1 = as.length := by omega
    refine codeAny_builtin PySem.F.entry_max_loop ?_
    rw [Around.under_plainId PySem.F.plain_max_loop _]
    show wpAny _ A.in1 (seqItems? (.ref S) >>= _) _ _ _
    refine wpAny_bind (wpAny_seqItems gS rfl ?_)
    show wpAny _ A.in1 (tryCatch (pyNext (.ref I)) _ >>= _) _ _ _
    refine wpAny_bind (wpAny_tryCatch (W.done _ _ _ ⟨by rw [hsz, ← hin]; exact hit, hlk keep⟩ fun h' tk' hk' => ?_))
    have keep' := off hI keep hk'
    have gS' := hk' S _ (by simpa using hSI) gS
    show wpAny _ A.in1 (updateSeq S (fun _ => #[]) >>= _) _ _ _
    refine wpAny_bind ?_
    refine wpAny_updateSeq gS' rfl (wpAny_bind (wpAny_letGo (wpAny_pure ?_)))
    exact hR i a _ _ ha (fun j' hj' => hbest j' (by omega)) (offU _ keep')
  | succ r ih =>
    intro j i a h tk tb c hr hj keep gS hit ha hbest
    have hlt : j + 1 < as.length := by omega
    refine codeAny_builtin PySem.F.entry_max_loop ?_
    rw [Around.under_plainId PySem.F.plain_max_loop _]
    show wpAny _ A.in1 (seqItems? (.ref S) >>= _) _ _ _
    refine wpAny_bind (wpAny_seqItems gS rfl ?_)
    show wpAny _ A.in1 (tryCatch (pyNext (.ref I)) _ >>= _) _ _ _
    refine wpAny_bind (wpAny_tryCatch (W.item (j + 1) _ _ _ (by rw [hsz]; exact hlt) ⟨hit, hlk keep⟩ fun v h' tk' hP hst' hk' => ?_))
    have hv0 : (as.map Value.ref)[j + 1]? = some v := by simpa using hP
    have hx : as[j + 1]? = some as[j + 1] := List.getElem?_eq_getElem hlt
    rw [List.getElem?_map, hx] at hv0
    have ev : v = .ref as[j + 1] := (Option.some.inj hv0).symm
    subst ev
    have keep' := off hI keep hk'
    have gS' := hk' S _ (by simpa using hSI) gS
    have hit' := hst'.1
    show wpAny _ A.in1 (tryCatch (holding [.ref as[j + 1]] (call (.builtin "len") [.ref as[j + 1]])) _ >>= _) _ _ _
    refine wpAny_bind (wpAny_tryCatch (wpAny_holding (mx_len lens hx keep' fun t2 tk2 => ?_)))
    show wpAny _ A.in1 (tryCatch (holding [.ref as[j + 1], .int (ls.getD (j + 1) 0 : Nat) t2] (richCompare .Gt (.int (ls.getD (j + 1) 0 : Nat) t2) (.int (ls.getD i 0 : Nat) tb) >>= _)) _ >>= _) _ _ _
    refine wpAny_bind (wpAny_tryCatch (wpAny_holding (wpAny_bind (PyProof.Rows.gt_int ?_))))
    refine wpAny_bind (wpAny_holding (wpAny_truthy_bool ?_))
    refine wpAny_bind (wpAny_letGo (wpAny_pure ?_))
    by_cases hb' : ((ls.getD i 0 : Nat) : Int) < ((ls.getD (j + 1) 0 : Nat) : Int)
    · obtain ⟨c2, hc2⟩ : ∃ c2, (h'.update S (Obj.mapSeq fun _ => #[.ref as[j + 1], .int (ls.getD (j + 1) 0 : Nat) t2])).get? S = some (seqObj "list" #[.ref as[j + 1], .int (ls.getD (j + 1) 0 : Nat) t2] c2) := ⟨_, get?_update_seq gS' fun _ => #[.ref as[j + 1], .int (ls.getD (j + 1) 0 : Nat) t2]⟩
      simp only [hb', decide_true, if_true]
      refine wpAny_bind ?_
      refine wpAny_updateSeq gS' rfl (wpAny_bind (wpAny_letGo ?_))
      rw [hname]
      obtain ⟨oI, hoI, hoc⟩ := hit'
      refine wpAny_pure ⟨plainId_quiet PySem.F.plain_max_loop _, ih (j + 1) (j + 1) _ _ _ t2 c2 (by omega) hlt (offU _ keep') hc2 ⟨oI, by rw [Heap.get?_update_ne _ _ _ _ hSI.symm]; exact hoI, hoc⟩ hx fun j' hj' => ?_⟩
      by_cases e : j' = j + 1
      · subst e; exact Nat.le_refl _
      · have := hbest j' (by omega)
        omega
    · simp only [hb', decide_false, Bool.false_eq_true, if_false]
      refine wpAny_bind (wpAny_letGo ?_)
      rw [hname]
      refine wpAny_pure ⟨plainId_quiet PySem.F.plain_max_loop _, ih (j + 1) i a _ _ tb c (by omega) hlt keep' gS' hit' ha fun j' hj' => ?_⟩
      by_cases e : j' = j + 1
      · subst e; omega
      · exact hbest j' (by omega)
theorem mx_call {Q : Value → Shared → Prop} (hh : A.handled = none) (lens : ∀ (i : Nat) (a : Addr), as[i]? = some a → ∃ its : Array Value, s.heap.IsList a its ∧ its.size = ls.getD i 0 ∧ its.size ≤ sizeLine) (hl : s.heap.IsList l (as.map Value.ref).toArray)
    (h0 : as = [] → ∀ h' tk, (∀ b o, s.heap.get? b = some o → h'.get? b = some o) → Q d { s with heap := h', toks := tk })
    (hQ : ∀ i a h' tk, as[i]? = some a → (∀ j, j < as.length → ls.getD j 0 ≤ ls.getD i 0) → (∀ b o, s.heap.get? b = some o → h'.get? b = some o) → Q (.ref a) { s with heap := h', toks := tk }) :
    wpAny (model prog w) A (call (.builtin "max") [.ref l] [(Str.ofString "key", .builtin "len"), (Str.ofString "default", d)]) Q E s := by
  have hname : (toString "max" ++ toString ".loop" : String) = "max.loop" := by decide
  obtain ⟨ol, hol, _⟩ := id hl
  refine kmb_tree PySem.F.kind_max PySem.F.plain_max PySem.F.entry_max (args_mx _ _ _) ?_
  show wpAny _ A.in1 (Builtin.Builtins.bindParams "max" ["key", "default"] 0 ⟨[], [(Str.ofString "key", .builtin "len"), (Str.ofString "default", d)]⟩ >>= _) _ _ s
  refine wpAny_bind (wpAny_of_eq (show Builtin.Builtins.bindParams "max" ["key", "default"] 0 ⟨[], [(Str.ofString "key", .builtin "len"), (Str.ofString "default", d)]⟩ = pure [some (.builtin "len"), some d] from rfl) ?_)
  refine wpAny_bind (wpAny_pure ?_)
  refine wpAny_bind (wpAny_pyIter_list hl ?_)
  refine wpAny_bind (wpAny_newList ?_ (Nat.zero_le _))
  rw [hname]
  have hSz : (s.heap.push { cls := .type "list_iterator", data := .fields #[.ref l, .int 0 0] }).objs.size = s.heap.objs.size + 1 := size_push' ..
  have hSI : (s.heap.push { cls := .type "list_iterator", data := .fields #[.ref l, .int 0 0] }).objs.size ≠ s.heap.objs.size := by rw [hSz]; exact Nat.ne_of_gt (Nat.lt_succ_self _)
  have hlI : l ≠ s.heap.objs.size := Nat.ne_of_lt (Heap.lt_size hol)
  refine wpAny_pure ⟨plainId_quiet PySem.F.plain_max_loop _, ?_⟩
  have keep : ∀ b o, s.heap.get? b = some o → ((s.heap.push { cls := .type "list_iterator", data := .fields #[.ref l, .int 0 0] }).push (seqObj "list" #[] 0)).get? b = some o := fun b o e => Heap.get?_push_of_some _ (Heap.get?_push_of_some _ e)
  have gI : ((s.heap.push { cls := .type "list_iterator", data := .fields #[.ref l, .int 0 0] }).push (seqObj "list" #[] 0)).get? s.heap.objs.size = some { cls := .type "list_iterator", data := .fields #[.ref l, .int 0 0] } :=
    Heap.get?_push_of_some _ (Heap.get?_push_size _ rfl)
  have gS : ((s.heap.push { cls := .type "list_iterator", data := .fields #[.ref l, .int 0 0] }).push (seqObj "list" #[] 0)).get? (s.heap.push { cls := .type "list_iterator", data := .fields #[.ref l, .int 0 0] }).objs.size = some (seqObj "list" #[] 0) := Heap.get?_push_size _ rfl
  have W := Walks.list (prog := prog) (w := w) (A := A.in1) hh s.heap.objs.size l hlI (as.map Value.ref).toArray
  have hsz : (as.map Value.ref).toArray.size = as.length := by rw [List.size_toArray, List.length_map]
  have hlk : ((s.heap.push { cls := .type "list_iterator", data := .fields #[.ref l, .int 0 0] }).push (seqObj "list" #[] 0)).IsList l (as.map Value.ref).toArray := by
    obtain ⟨o, ho, x⟩ := id hl
    exact ⟨o, keep _ _ ho, x⟩
  refine codeAny_builtin PySem.F.entry_max_loop ?_
  rw [Around.under_plainId PySem.F.plain_max_loop _]
  show wpAny _ A.in1 (seqItems? (.ref _) >>= _) _ _ _
  refine wpAny_bind (wpAny_seqItems gS rfl ?_)
  show wpAny _ A.in1 (tryCatch (pyNext (.ref s.heap.objs.size)) _ >>= _) _ _ _
  have off : ∀ {h' : Heap}, (∀ b o, b ∉ [s.heap.objs.size] → ((s.heap.push { cls := .type "list_iterator", data := .fields #[.ref l, .int 0 0] }).push (seqObj "list" #[] 0)).get? b = some o → h'.get? b = some o) → ∀ b o, s.heap.get? b = some o → h'.get? b = some o := fun {h'} k' b o e => k' b o (fun z => by
    rw [List.mem_singleton.mp z] at e
    exact absurd (Heap.lt_size e) (Nat.lt_irrefl _)) (keep b o e)
  by_cases he : as = []
  · refine wpAny_bind (wpAny_tryCatch (W.done _ _ _ ⟨by rw [hsz, he]; exact ⟨_, gI, rfl, rfl⟩, hlk⟩ fun h' tk' hk' => ?_))
    exact wpAny_bind (wpAny_rule (wpAny_pure (h0 he h' tk' (off hk'))))
  · have hpos : 0 < as.length := List.length_pos_iff.mpr he
    refine wpAny_bind (wpAny_tryCatch (W.item 0 _ _ _ (by rw [hsz]; exact hpos) ⟨⟨_, gI, rfl, rfl⟩, hlk⟩ fun v h' tk' hP hst' hk' => ?_))
    have hv0 : (as.map Value.ref)[0]? = some v := by simpa using hP
    have hx : as[0]? = some as[0] := List.getElem?_eq_getElem hpos
    rw [List.getElem?_map, hx] at hv0
    have ev : v = .ref as[0] := (Option.some.inj hv0).symm
    subst ev
    have keep' := off hk'
    have gS' := hk' _ _ (by simpa using hSI) gS
    obtain ⟨oI, hoI, hoc⟩ := hst'.1
    show wpAny _ A.in1 (tryCatch (holding [.ref as[0]] (call (.builtin "len") [.ref as[0]])) _ >>= _) _ _ _
    refine wpAny_bind (wpAny_tryCatch (wpAny_holding (mx_len lens hx keep' fun t2 tk2 => ?_)))
    obtain ⟨c2, hc2⟩ : ∃ c2, (h'.update (s.heap.push { cls := .type "list_iterator", data := .fields #[.ref l, .int 0 0] }).objs.size (Obj.mapSeq fun _ => #[.ref as[0], .int (ls.getD 0 0 : Nat) t2])).get? (s.heap.push { cls := .type "list_iterator", data := .fields #[.ref l, .int 0 0] }).objs.size = some (seqObj "list" #[.ref as[0], .int (ls.getD 0 0 : Nat) t2] c2) := ⟨_, get?_update_seq gS' fun _ => #[.ref as[0], .int (ls.getD 0 0 : Nat) t2]⟩
    show wpAny _ A.in1 (updateSeq (s.heap.push { cls := .type "list_iterator", data := .fields #[.ref l, .int 0 0] }).objs.size (fun _ => #[.ref as[0], .int (ls.getD 0 0 : Nat) t2]) >>= _) _ _ _
    refine wpAny_bind ?_
    refine wpAny_updateSeq gS' rfl ?_
    rw [hname]
    refine wpAny_pure ⟨plainId_quiet PySem.F.plain_max_loop _, mx_loop (h0 := s.heap) hh lens hl (Nat.le_refl _) (by rw [hSz]; exact Nat.le_succ _) hSI (fun i a h' tk a1 a2 a3 => hQ i a h' tk a1 a2 a3) _ 0 0 as[0] _ _ t2 c2 rfl hpos (fun b o e => ?_) hc2 ⟨oI, ?_, hoc⟩ hx fun j' hj' => ?_⟩
    · rw [Heap.get?_update_ne _ _ _ _ (by rw [hSz]; exact Nat.ne_of_lt (Nat.lt_succ_of_lt (Heap.lt_size e)))]
      exact keep' b o e
    · rw [Heap.get?_update_ne _ _ _ _ hSI.symm]; exact hoI
    · have e : j' = 0 := by omega
      subst e; exact Nat.le_refl _
end
def tMaxLen (K : PySem.W.Frag) (te : TE) : TE := fun σ H Q => te σ H fun v H1 => ∃ (p : Addr) (as : List Addr) (ls : List Nat), v = .ref p ∧ SqL K H1 p (as.map V.ref) ∧ (∀ (i : Nat) (a : Addr), as[i]? = some a → ∃ xs, SqL K H1 a xs ∧ xs.length = ls.getD i 0) ∧
  ∀ d, H1 d = none → (as = [] → Q (.ref d) (upd H1 d (.lst []))) ∧ ∀ (i : Nat) (a : Addr), as[i]? = some a → (∀ j, j < as.length → ls.getD j 0 ≤ ls.getD i 0) → Q (.ref a) (upd H1 d (.lst []))
theorem pe_maxlen {X : Cx} {K : PySem.W.Frag} {e : Expr} {te : TE} {p p2 p3 kp kp2 pos : Pos} (hK : X.K = K) (hc : X.calm = true) (hg : Gl X "max") (hm : X.mg "max" = none) (hgl : Gl X "len") (hml : X.mg "len" = none) (he : PE X e te) (hst : starEach [e] X.env = [(false, eval e X.env)] := by rfl) :
    PE X (.Call (.Name "max" p) [e] [⟨some "key", .Name "len" p2, kp⟩, ⟨some "default", .List [] p3, kp2⟩] pos) (tMaxLen K te) := by
  subst hK
  intro pins s σ H Q I h
  refine wpAny_Call_Name_kw (ld_blt I hg hm bt_max ?_)
  refine PyProof.Rows.callWith_kw ?_ (by rw [hst]; rfl) (by rw [hst]; rfl)
  rw [hst]
  show wpAny _ _ (spliced ((false, eval e X.env) :: [])) _ _ s
  refine Calls.spliced_cons (thn (he pins s σ H _ I h) fun u s1 ⟨v, H1, I1, r1, q1⟩ => Calls.spliced_nil ?_)
  obtain ⟨a, as, ls, rfl, hp, hrow, fin⟩ := q1
  cases r1
  refine PyProof.Rows.kws_cons (ld_blt I1 hgl hml bt_len (PyProof.Rows.kws_cons (thn (pe_lst pa_nil pins s1 σ H1 (fun v H2 => ∃ d, v = .ref d ∧ H1 d = none ∧ H2 = upd H1 d (.lst [])) I1 ⟨Nat.zero_le _, fun d hd => ⟨d, rfl, hd, rfl⟩⟩) fun u2 s2 ⟨v2, H2, I2, r2, d, ev, hd, eH⟩ => PyProof.Rows.kws_nil ?_)))
  subst ev eH
  cases r2
  have lift : ∀ {x : Addr} {xs : List V}, SqL X.K H1 x xs → SqL X.K (upd H1 d (.lst [])) x xs := fun {x xs} hx => by
    rcases hx with (hx | ⟨o, hx⟩) | hx
    · exact .inl (.inl (by rw [upd_ne (fun z => by rw [z, hd] at hx; cases hx)]; exact hx))
    · exact .inl (.inr ⟨o, by rw [upd_ne (fun z => by rw [z, hd] at hx; cases hx)]; exact hx⟩)
    · exact .inr hx
  obtain ⟨its, rv, pl, hz⟩ := I2.list (lift hp)
  have er := refs_eq rv
  subst er
  refine mx_call (ls := ls) (I2.ok.hd hc) (fun i a ha => ?_) pl.isList (fun e h' tk k => ⟨.ref d, _, I2.kept k, rfl, (fin d hd).1 e⟩) fun i a h' tk ha hb k => ⟨.ref a, _, I2.kept k, rfl, (fin d hd).2 i a ha hb⟩
  obtain ⟨xs, hx, hl⟩ := hrow i a ha
  obtain ⟨its, rv, pl, hz⟩ := I2.list (lift hx)
  have e := rv.length
  exact ⟨its.toArray, pl.isList, by rw [List.size_toArray, ← hl]; exact e.symm, by rw [List.size_toArray, ← e]; exact hz⟩
theorem call_len_seqK {X : Cx} {K : PySem.W.Frag} (hK : X.K = K) : CallR X (.builtin "len") (fun xs H Q => ∃ p ys, xs = [.ref p] ∧ (SqL K H p ys ∨ SqT K H p ys) ∧ Q (.int ys.length) H) := by
  subst hK
  exact call_len_seq
end L2
namespace Toy
open PySem L2 Gra
def top (i : Nat) : Stmt := PySem.Challenge.pw_lanemap_k06_whole_depths.main.body.getD i (.Pass ⟨0, 0, 0, 0⟩)
abbrev sArePlaces : Stmt := top 4
theorem scArePlaces : FnScope ["count", "numbers"] ["count", "numbers"] (defScope sArePlaces) := ⟨rfl, rfl, rfl, by decide +kernel, rfl, by decide +kernel, by decide +kernel⟩
abbrev PArePlaces : List Str := ["count", "numbers"]
abbrev sCheckPlaces : Stmt := top 5
theorem scCheckPlaces : FnScope ["count", "numbers"] ["count", "numbers"] (defScope sCheckPlaces) := ⟨rfl, rfl, rfl, by decide +kernel, rfl, by decide +kernel, by decide +kernel⟩
abbrev PCheckPlaces : List Str := ["count", "numbers"]
abbrev sCheckLanes : Stmt := top 6
theorem scCheckLanes : FnScope ["count", "lanes", "lane"] ["count", "lanes"] (defScope sCheckLanes) := ⟨rfl, rfl, rfl, by decide +kernel, rfl, by decide +kernel, by decide +kernel⟩
abbrev PCheckLanes : List Str := ["count", "lanes"]
abbrev sEndsByPlace : Stmt := top 7
theorem scEndsByPlace : FnScope ["lanes", "ends", "lane"] ["lanes"] (defScope sEndsByPlace) := ⟨rfl, rfl, rfl, by decide +kernel, rfl, by decide +kernel, by decide +kernel⟩
abbrev PEndsByPlace : List Str := ["lanes"]
abbrev sReach : Stmt := top 8
theorem scReach : FnScope ["lanes", "start", "ends", "ahead", "found", "at", "place", "end"] ["lanes", "start"] (defScope sReach) := ⟨rfl, rfl, rfl, by decide +kernel, rfl, by decide +kernel, by decide +kernel⟩
abbrev PReach : List Str := ["lanes", "start"]
abbrev sPartWith : Stmt := top 10
theorem scPartWith : FnScope ["reached", "place"] ["reached", "place"] (defScope sPartWith) := ⟨rfl, rfl, rfl, by decide +kernel, rfl, by decide +kernel, by decide +kernel⟩
abbrev PPartWith : List Str := ["reached", "place"]
abbrev sParts : Stmt := top 11
theorem scParts : FnScope ["count", "lanes", "reached", "around_each", "each_once"] ["count", "lanes"] (defScope sParts) := ⟨rfl, rfl, rfl, by decide +kernel, rfl, by decide +kernel, by decide +kernel⟩
abbrev PParts : List Str := ["count", "lanes"]
abbrev sPartNumbers : Stmt := top 12
theorem scPartNumbers : FnScope ["count", "lanes", "told", "numbers", "number", "part", "place"] ["count", "lanes"] (defScope sPartNumbers) := ⟨rfl, rfl, rfl, by decide +kernel, rfl, by decide +kernel, by decide +kernel⟩
abbrev PPartNumbers : List Str := ["count", "lanes"]
abbrev sBetweenParts : Stmt := top 13
theorem scBetweenParts : FnScope ["count", "lanes", "numbers", "pairs"] ["count", "lanes"] (defScope sBetweenParts) := ⟨rfl, rfl, rfl, by decide +kernel, rfl, by decide +kernel, by decide +kernel⟩
abbrev PBetweenParts : List Str := ["count", "lanes"]
abbrev sLongestRows : Stmt := top 14
theorem scLongestRows : FnScope ["count", "lanes", "rows", "pair"] ["count", "lanes"] (defScope sLongestRows) := ⟨rfl, rfl, rfl, by decide +kernel, rfl, by decide +kernel, by decide +kernel⟩
abbrev PLongestRows : List Str := ["count", "lanes"]
abbrev sDepths : Stmt := top 15
theorem scDepths : FnScope ["count", "lanes"] ["count", "lanes"] (defScope sDepths) := ⟨rfl, rfl, rfl, by decide +kernel, rfl, by decide +kernel, by decide +kernel⟩
abbrev PDepths : List Str := ["count", "lanes"]
abbrev sDeepest : Stmt := top 16
theorem scDeepest : FnScope ["count", "lanes"] ["count", "lanes"] (defScope sDeepest) := ⟨rfl, rfl, rfl, by decide +kernel, rfl, by decide +kernel, by decide +kernel⟩
abbrev PDeepest : List Str := ["count", "lanes"]
abbrev sLUpto : Stmt := top 18
theorem scLUpto : FnScope ["_law_script", "_law_small", "_law_great"] ["_law_script", "_law_small", "_law_great"] (defScope sLUpto) := ⟨rfl, rfl, rfl, by decide +kernel, rfl, by decide +kernel, by decide +kernel⟩
abbrev PLUpto : List Str := ["_law_script", "_law_small", "_law_great"]
abbrev sLWhole : Stmt := top 19
theorem scLWhole : FnScope ["_law_found"] ["_law_found"] (defScope sLWhole) := ⟨rfl, rfl, rfl, by decide +kernel, rfl, by decide +kernel, by decide +kernel⟩
abbrev PLWhole : List Str := ["_law_found"]
abbrev sLAt : Stmt := top 20
theorem scLAt : FnScope ["_law_script", "_law_k"] ["_law_script", "_law_k"] (defScope sLAt) := ⟨rfl, rfl, rfl, by decide +kernel, rfl, by decide +kernel, by decide +kernel⟩
abbrev PLAt : List Str := ["_law_script", "_law_k"]
abbrev sLLanesBy : Stmt := top 21
theorem scLLanesBy : FnScope ["_law_cells", "_law_count", "_law_seed", "_law_lanes", "_law_hop", "_law_k", "_law_one", "_law_other"] ["_law_cells", "_law_count", "_law_seed"] (defScope sLLanesBy) := ⟨rfl, rfl, rfl, by decide +kernel, rfl, by decide +kernel, by decide +kernel⟩
abbrev PLLanesBy : List Str := ["_law_cells", "_law_count", "_law_seed"]
abbrev sLWholeRow : Stmt := top 22
theorem scLWholeRow : FnScope ["_law_found", "_law_one"] ["_law_found"] (defScope sLWholeRow) := ⟨rfl, rfl, rfl, by decide +kernel, rfl, by decide +kernel, by decide +kernel⟩
abbrev PLWholeRow : List Str := ["_law_found"]
abbrev sLReach : Stmt := top 23
theorem scLReach : FnScope ["_law_lanes", "_law_start", "_law_found", "_law_more", "_law_lane"] ["_law_lanes", "_law_start"] (defScope sLReach) := ⟨rfl, rfl, rfl, by decide +kernel, rfl, by decide +kernel, by decide +kernel⟩
abbrev PLReach : List Str := ["_law_lanes", "_law_start"]
abbrev sLAllReach : Stmt := top 24
theorem scLAllReach : FnScope ["_law_part", "_law_lanes", "_law_back", "_law_there", "_law_here", "_law_place"] ["_law_part", "_law_lanes"] (defScope sLAllReach) := ⟨rfl, rfl, rfl, by decide +kernel, rfl, by decide +kernel, by decide +kernel⟩
abbrev PLAllReach : List Str := ["_law_part", "_law_lanes"]
abbrev sLPartsHold : Stmt := top 25
theorem scLPartsHold : FnScope ["_law_found", "_law_count", "_law_lanes", "_law_number_of", "_law_k", "_law_lane", "_law_place"] ["_law_found", "_law_count", "_law_lanes"] (defScope sLPartsHold) := ⟨rfl, rfl, rfl, by decide +kernel, rfl, by decide +kernel, by decide +kernel⟩
abbrev PLPartsHold : List Str := ["_law_found", "_law_count", "_law_lanes"]
abbrev sLPairs : Stmt := top 26
theorem scLPairs : FnScope ["_law_found", "_law_due", "_law_k"] ["_law_found", "_law_due"] (defScope sLPairs) := ⟨rfl, rfl, rfl, by decide +kernel, rfl, by decide +kernel, by decide +kernel⟩
abbrev PLPairs : List Str := ["_law_found", "_law_due"]
abbrev sLaw : Stmt := top 27
theorem scLaw : FnScope ["_law_script", "_law_count", "_law_lanes", "_law_told", "_law_numbers", "_law_k", "_law_found", "_law_steps", "_law_lane", "_law_due", "_law_turn", "_law_deep", "_law_row", "_law_place", "_law_pair"] ["_law_script"] (defScope sLaw) := ⟨rfl, rfl, rfl, by decide +kernel, rfl, by decide +kernel, by decide +kernel⟩
abbrev PLaw : List Str := ["_law_script"]
theorem csArePlaces0 : CompSc (defScope sArePlaces) { kind := .function, names := [(".0", .local), ("number", .local), ("count", .free)], isGenerator := false, isCoroutine := false, more := [] } ["count", "numbers"] "number" ["count"] [0] := ⟨by decide +kernel, rfl, by decide +kernel, rfl, by decide +kernel, by decide +kernel, rfl, by decide +kernel⟩
theorem csPartWith0 : CompSc (defScope sPartWith) { kind := .function, names := [(".0", .local), ("other", .local), ("place", .free), ("reached", .free)], isGenerator := false, isCoroutine := false, more := [] } ["reached", "place"] "other" ["place", "reached"] [1, 0] := ⟨by decide +kernel, rfl, by decide +kernel, rfl, by decide +kernel, by decide +kernel, rfl, by decide +kernel⟩
theorem csParts0 : CompSc (defScope sParts) { kind := .function, names := [(".0", .local), ("place", .local), ("around_each", .free)], isGenerator := false, isCoroutine := false, more := [] } ["count", "lanes", "reached", "around_each", "each_once"] "place" ["around_each"] [3] := ⟨by decide +kernel, rfl, by decide +kernel, rfl, by decide +kernel, by decide +kernel, rfl, by decide +kernel⟩
theorem csParts1 : CompSc (defScope sParts) { kind := .function, names := [(".0", .local), ("place", .local), ("part_with", .globalImplicit), ("reached", .free)], isGenerator := false, isCoroutine := false, more := [] } ["count", "lanes", "reached", "around_each", "each_once"] "place" ["reached"] [2] := ⟨by decide +kernel, rfl, by decide +kernel, rfl, by decide +kernel, by decide +kernel, rfl, by decide +kernel⟩
theorem csParts2 : CompSc (defScope sParts) { kind := .function, names := [(".0", .local), ("place", .local), ("reach", .globalImplicit), ("lanes", .free)], isGenerator := false, isCoroutine := false, more := [] } ["count", "lanes", "reached", "around_each", "each_once"] "place" ["lanes"] [1] := ⟨by decide +kernel, rfl, by decide +kernel, rfl, by decide +kernel, by decide +kernel, rfl, by decide +kernel⟩
theorem csBetweenParts0 : CompSc (defScope sBetweenParts) { kind := .function, names := [(".0", .local), ("pair", .local)], isGenerator := false, isCoroutine := false, more := [] } ["count", "lanes", "numbers", "pairs"] "pair" [] [] := ⟨by decide +kernel, rfl, by decide +kernel, rfl, by decide +kernel, by decide +kernel, rfl, by decide +kernel⟩
theorem csBetweenParts1 : CompSc (defScope sBetweenParts) { kind := .function, names := [(".0", .local), ("lane", .local), ("numbers", .free)], isGenerator := false, isCoroutine := false, more := [] } ["count", "lanes", "numbers", "pairs"] "lane" ["numbers"] [2] := ⟨by decide +kernel, rfl, by decide +kernel, rfl, by decide +kernel, by decide +kernel, rfl, by decide +kernel⟩
theorem csLongestRows0 : CompSc (defScope sLongestRows) { kind := .function, names := [(".0", .local), ("number", .local)], isGenerator := false, isCoroutine := false, more := [] } ["count", "lanes", "rows", "pair"] "number" [] [] := ⟨by decide +kernel, rfl, by decide +kernel, rfl, by decide +kernel, by decide +kernel, rfl, by decide +kernel⟩
theorem csDepths0 : CompSc (defScope sDepths) { kind := .function, names := [(".0", .local), ("row", .local), ("len", .globalImplicit)], isGenerator := false, isCoroutine := false, more := [] } ["count", "lanes"] "row" [] [] := ⟨by decide +kernel, rfl, by decide +kernel, rfl, by decide +kernel, by decide +kernel, rfl, by decide +kernel⟩
theorem csLAllReach0 : CompSc (defScope sLAllReach) { kind := .function, names := [(".0", .local), ("_law_lane", .local)], isGenerator := false, isCoroutine := false, more := [] } ["_law_part", "_law_lanes", "_law_back", "_law_there", "_law_here", "_law_place"] "_law_lane" [] [] := ⟨by decide +kernel, rfl, by decide +kernel, rfl, by decide +kernel, by decide +kernel, rfl, by decide +kernel⟩
theorem lsParts0 : LamSc { kind := .function, names := [("part", .local), ("reached", .free), ("len", .globalImplicit)], isGenerator := false, isCoroutine := false, more := [] } "part" "reached" := ⟨by decide +kernel, rfl, rfl, rfl, by decide +kernel, by decide +kernel, by decide +kernel, by decide, by decide, by decide⟩
structure DefAt (K : PySem.W.Frag) (mg : Str → Option Value) (x : Str) (st : Stmt) (ps : List Str) (f : Addr) (fd : FuncData) : Prop where
  F : Fun K x x st f fd
  b : Binds K fd ps []
  m : mg x = some (.ref f)
structure Zs (mg : Str → Option Value) : Prop where
  all : mg "all" = none
  bool : mg "bool" = none
  enumerate : mg "enumerate" = none
  int : mg "int" = none
  isinstance : mg "isinstance" = none
  len : mg "len" = none
  list : mg "list" = none
  max : mg "max" = none
  range : mg "range" = none
  set : mg "set" = none
  sorted : mg "sorted" = none
  tuple : mg "tuple" = none
def spAre (K : PySem.W.Frag) : Sp := fun vs H Q _ => ∃ (n : Int) (a : Addr) (ns : List Int), vs = [.int n, .ref a] ∧ (SqL K H a (ns.map V.int) ∨ SqT K H a (ns.map V.int)) ∧ ns.length ≤ 1000 ∧
  ∀ H', Same H H' → Q (.bl (ns.all fun x => decide (0 ≤ x) && decide (x < n))) H'
def spCheck (K : PySem.W.Frag) : Sp := fun vs H Q _ => ∃ (n : Int) (a : Addr) (ns : List Int), vs = [.int n, .ref a] ∧ (SqL K H a (ns.map V.int) ∨ SqT K H a (ns.map V.int)) ∧ ns.length ≤ 1000 ∧ (∀ x ∈ ns, 0 ≤ x ∧ x < n) ∧ ∀ H', Same H H' → Q .non H'
def spCheckL : Sp := fun vs H Q _ => ∃ (n : Int) (l : Addr) (ps : Lanes), vs = [.int n, .ref l] ∧ LanesAt H l ps ∧ InR n ps ∧ ∀ H', Same H H' → Q .non H'
section
variable {P : Program} {w : World} {K : PySem.W.Frag} {mg : Str → Option Value} {base : Heap}
variable {fAre fCheck fCheckL fEnds fReach fRow fWW : Addr} {gAre gCheck gCheckL gEnds gReach gRow gWW : FuncData}
theorem all_true {ns : List Int} {n : Int} (h : ∀ x ∈ ns, 0 ≤ x ∧ x < n) : (ns.all fun x => decide (0 ≤ x) && decide (x < n)) = true := by
  rw [List.all_eq_true]
  intro x hx
  obtain ⟨h1, h2⟩ := h x hx
  rw [decide_eq_true h1, decide_eq_true h2]; rfl
theorem are_elem {n x : Int} {js : List Nat} {σ : St} {H : Hp} {N : List V → Hp → Prop} {zs : List V} (e1 : (innerO js σ (some (.int x)))[1]? = some (some (.int n))) (h : N (zs ++ [V.bl (decide (0 ≤ x) && decide (x < n))]) H) :
    tYes (innerO js σ (some (.int x))) H fun b H2 => if b = true then (tChain (rI0 fun i j => .bl (decide (i ≤ j))) (rI0 fun i j => .bl (decide (i < j))) (tC (.int 0)) (tVar 0) (tVar 1)) (innerO js σ (some (.int x))) H2 fun y H3 => N (zs ++ [y]) H3 else N zs H2 := by
  refine yes_of (iteT ?_)
  refine ⟨_, rfl, 0, x, rfl, rfl, _, rfl, ?_⟩
  by_cases c : 0 ≤ x
  · rw [decide_eq_true c] at h ⊢
    exact iteT ⟨_, e1, x, n, rfl, rfl, h⟩
  · rw [decide_eq_false c] at h ⊢
    exact iteF h
theorem ok_are (d : DefAt K mg "are_places" sArePlaces PArePlaces fAre gAre) (z : Zs mg) : FnOk P w K mg base CX0 1 fAre gAre PArePlaces (spAre K) := by
  refine d.F.ok scArePlaces (fun vs H Q E h => ?_) (fun cdv A outer s H vs Q E hr h => ?_)
  · obtain ⟨n, a, ns, rfl, _⟩ := h
    rfl
  obtain ⟨n, a, ns, rfl, hS, hl, q⟩ := h
  refine ⟨_, (pss_one (ps_ret (pe_callB (call_all rfl) rfl z.all bt_all (pa_cons (pe_lc csArePlaces0 rfl (pi_seq (pv 1)) (fun _ _ _ _ => pcs_nil) (fun _ _ _ _ => (pe_chain op_le op_lt pe_int (pv 0) (pv 1)))) pa_nil)))), ?_⟩
  have hlen : (ns.map V.int).length = ns.length := List.length_map _
  have fin : ∀ ys : List V, ys = (ns.take ns.length).map (fun x => V.bl (decide (0 ≤ x) && decide (x < n))) → ∀ p, H p = none →
      ∃ (p' : Addr) (bs : List Bool), ([V.ref p] : List V) = [.ref p'] ∧ SqL K (upd H p (.lst ys)) p' (bs.map V.bl) ∧ Q (.bl (bs.all id)) (upd H p (.lst ys)) := fun ys e p hp => by
    refine ⟨p, ns.map (fun x => decide (0 ≤ x) && decide (x < n)), rfl, SqL.of (by rw [upd_same, e, List.take_length, List.map_map]; rfl), ?_⟩
    have e2 : (ns.map fun x => decide (0 ≤ x) && decide (x < n)).all id = ns.all fun x => decide (0 ≤ x) && decide (x < n) := by rw [List.all_map]; rfl
    rw [e2]
    exact q _ (same_new hp _)
  have len : ∀ i, ((ns.take i).map (fun x => V.bl (decide (0 ≤ x) && decide (x < n)))).length ≤ i := fun i => by rw [List.length_map, List.length_take]; omega
  rcases hS with hS | hS
  · refine ⟨_, rfl, a, rfl, .inl ⟨⟨_, hS⟩, lc_list (K := K) (a := a) (xs := ns.map V.int) (fun i ys H' => H' = H ∧ ys = (ns.take i).map fun x => V.bl (decide (0 ≤ x) && decide (x < n))) ⟨rfl, rfl⟩ (fun i ys H' hi ⟨e, e2⟩ => ?_) (by rw [hlen]; exact small hl) (fun i x ys H' hx ⟨e, e2⟩ => ?_) (fun ys H' ⟨e, e2⟩ p hp => ?_)⟩⟩
    · subst e e2
      exact ⟨hS, len i⟩
    · subst e
      obtain ⟨v, rfl, hv⟩ := int_of hx
      refine are_elem (n := n) (N := fun ys H'' => H'' = H' ∧ ys = (ns.take (i + 1)).map fun x => V.bl (decide (0 ≤ x) && decide (x < n))) rfl ⟨rfl, ?_⟩
      rw [take_succ_get hv, List.map_append, e2]; rfl
    · subst e
      rw [hlen] at e2
      exact fin ys e2 p hp
  · refine ⟨_, rfl, a, rfl, .inr ⟨⟨_, hS⟩, lc_tup (K := K) (a := a) (xs := ns.map V.int) (fun i ys H' => H' = H ∧ ys = (ns.take i).map fun x => V.bl (decide (0 ≤ x) && decide (x < n))) ⟨rfl, rfl⟩ (fun i ys H' hi ⟨e, e2⟩ => ?_) (by rw [hlen]; exact small hl) (fun i x ys H' hx ⟨e, e2⟩ => ?_) (fun ys H' ⟨e, e2⟩ p hp => ?_)⟩⟩
    · subst e e2
      exact ⟨hS, len i⟩
    · subst e
      obtain ⟨v, rfl, hv⟩ := int_of hx
      refine are_elem (n := n) (N := fun ys H'' => H'' = H' ∧ ys = (ns.take (i + 1)).map fun x => V.bl (decide (0 ≤ x) && decide (x < n))) rfl ⟨rfl, ?_⟩
      rw [take_succ_get hv, List.map_append, e2]; rfl
    · subst e
      rw [hlen] at e2
      exact fin ys e2 p hp
theorem ok_check (d : DefAt K mg "check_places" sCheckPlaces PCheckPlaces fCheck gCheck) (dArePlaces : DefAt K mg "are_places" sArePlaces PArePlaces fAre gAre) (GArePlaces : FnOk P w K mg base CX0 1 fAre gAre PArePlaces (spAre K)) : FnOk P w K mg base CX0 2 fCheck gCheck PCheckPlaces (spCheck K) := by
  refine d.F.ok scCheckPlaces (fun vs H Q E h => ?_) (fun cdv A outer s H vs Q E hr h => ?_)
  · obtain ⟨n, a, ns, rfl, _⟩ := h
    rfl
  obtain ⟨n, a, ns, rfl, hS, hl, hin, q⟩ := h
  refine ⟨_, (pss_one (ps_if (pt_not (pt_val (pe_call GArePlaces (hr.mono (by decide)) rfl dArePlaces.m dArePlaces.F.kp dArePlaces.b .nil pass0 (pa_cons (pv 0) (pa_cons (pv 1) pa_nil))))) (pss_one ps_never) pss_nil)), ?_⟩
  refine ⟨_, rfl, _, rfl, n, a, ns, rfl, hS, hl, fun H' s' => ⟨_, rfl, ?_⟩⟩
  rw [all_true hin]
  exact iteF (q _ s')
theorem ok_checkL (d : DefAt K mg "check_lanes" sCheckLanes PCheckLanes fCheckL gCheckL) (dCheckPlaces : DefAt K mg "check_places" sCheckPlaces PCheckPlaces fCheck gCheck) (GCheckPlaces : FnOk P w K mg base CX0 2 fCheck gCheck PCheckPlaces (spCheck K)) :
    FnOk P w K mg base CX0 3 fCheckL gCheckL PCheckLanes spCheckL := by
  refine d.F.ok scCheckLanes (fun vs H Q E h => ?_) (fun cdv A outer s H vs Q E hr h => ?_)
  · obtain ⟨n, a, ns, rfl, _⟩ := h
    rfl
  obtain ⟨n, l, ps, rfl, ⟨as, hl, hp⟩, hin, q⟩ := h
  refine ⟨_, (pss_one (ps_for PassesOwn.never rfl (pi_list (pv 1)) (pg_name (i := 2) scCheckLanes.nd rfl (by first | exact Or.inl rfl | exact Or.inr rfl)) (pss_one (ps_expr (pe_call GCheckPlaces (hr.mono (by decide)) rfl dCheckPlaces.m dCheckPlaces.F.kp dCheckPlaces.b .nil pass0 (pa_cons (pv 0) (pa_cons (pv 2) pa_nil))))))), ?_⟩
  refine ⟨_, rfl, l, rfl, ⟨_, SqL.of hl⟩, for_list (K := K) (a := l) (xs := as.map V.ref) (fun i σ H2 => ∃ v, σ = [some (.int n), some (.ref l), v] ∧ Same H H2) ⟨none, rfl, Same.refl _⟩ (fun i σ H2 _ ⟨_, _, s2⟩ => SqL.of (s2 _ _ hl)) ?_ ?_⟩
  · rintro i y σ H2 hi ⟨v, rfl, s2⟩
    obtain ⟨a, p, rfl, hpi, ha⟩ := lane_at hp hi
    have hr' := hin p (List.mem_of_getElem? hpi)
    refine ⟨_, rfl, _, rfl, n, a, [p.1, p.2], rfl, .inr (SqT.of (s2 _ _ ha)), (by show 2 ≤ 1000; decide), fun x hx => ?_, fun H' s' => ⟨_, rfl, s2.trans s'⟩⟩
    rcases List.mem_cons.mp hx with e | hx
    · rw [e]; exact hr'.1
    · rw [List.mem_singleton.mp hx]; exact hr'.2
  · rintro σ H2 ⟨v, rfl, s2⟩
    exact q _ s2
end
def spEnds : Sp := fun vs H Q _ => ∃ (l : Addr) (ps : Lanes), vs = [.ref l] ∧ LanesAt H l ps ∧ ps.length ≤ 1000 ∧ ∀ d H', Same H H' → EndsAt H' d ps → Q (.ref d) H'
def spReach : Sp := fun vs H Q _ => ∃ (l : Addr) (ps : Lanes) (n start : Int), vs = [.ref l, .int start] ∧ LanesAt H l ps ∧ ps.length ≤ 1000 ∧ InR n ps ∧ (0 ≤ start ∧ start < n) ∧ n ≤ 500 ∧
  ∀ d t H', Same H H' → H d = none → H' d = some (.dK (treeKV t)) → Reach ps start t → Done ps t t.length → Q (.ref d) H'
section
variable {P : Program} {w : World} {K : PySem.W.Frag} {mg : Str → Option Value} {base : Heap}
variable {fAre fCheck fCheckL fEnds fReach fRow fWW : Addr} {gAre gCheck gCheckL gEnds gReach gRow gWW : FuncData}
theorem ok_ends (d : DefAt K mg "ends_by_place" sEndsByPlace PEndsByPlace fEnds gEnds) : FnOk P w K mg base CX0 1 fEnds gEnds PEndsByPlace spEnds := by
  refine d.F.ok scEndsByPlace (fun vs H Q E h => ?_) (fun cdv A outer s H vs Q E hr h => ?_)
  · obtain ⟨l, ps, rfl, _⟩ := h
    rfl
  obtain ⟨l, ps, rfl, ⟨as, hl, hp⟩, hlen, q⟩ := h
  refine ⟨_, (pss_cons (ps_set (i := 1) scEndsByPlace.nd rfl (by first | exact Or.inl rfl | exact Or.inr rfl) pe_dnewK)
      (pss_cons (ps_for PassesOwn.never rfl (pi_list (pv 0)) (pg_name (i := 2) scEndsByPlace.nd rfl (by first | exact Or.inl rfl | exact Or.inr rfl)) (pss_one (ps_expr (pe_bm PySem.F.plainAttrs_list PySem.F.slot_list_append PySem.F.type_list_append mt_append (pe_bm PySem.F.plainAttrs_dict PySem.F.slot_dict_setdefault PySem.F.type_dict_setdefault mt_setdefault (pv 1) (pa_cons (pe_ix ix_tup (pv 2) pe_int (fun _ _ => rfl)) (pa_cons (pe_lst pa_nil) pa_nil))) (pa_cons (pe_ix ix_tup (pv 2) pe_int (fun _ _ => rfl)) pa_nil)))))
      (pss_one (ps_ret (pv 1))))), ?_⟩
  intro dd hdd
  have hpl := Paired.len hp
  refine ⟨_, rfl, l, rfl, ⟨_, SqL.of (same_new hdd _ _ _ hl)⟩, for_list (K := K) (a := l) (xs := as.map V.ref) (fun i σ H2 => ∃ v tab, σ = [some (.ref l), some (.ref dd), v] ∧ Same H H2 ∧ EndsTab H2 dd (ps.take i) tab ∧ (∀ q ∈ tab, H q.2 = none) ∧ tab.length ≤ i)
    ⟨none, [], rfl, same_new hdd _, ⟨upd_same, List.nodup_nil, List.nodup_nil, fun q hq => (List.not_mem_nil hq).elim, fun p hp => by simp at hp⟩, fun q hq => (List.not_mem_nil hq).elim, Nat.le_refl _⟩ (fun i σ H2 _ ⟨_, _, _, s2, _⟩ => SqL.of (s2 _ _ hl)) ?_ ?_⟩
  · rintro i y σ H2 hi ⟨v, tab, rfl, s2, T, fr, ht⟩
    obtain ⟨a, p, rfl, hpi, ha⟩ := lane_at hp hi
    have hil : i < ps.length := (List.getElem?_eq_some_iff.mp hpi).1
    have ha2 := s2 _ _ ha
    have tk := take_succ_get hpi
    have tk2 : (ps.take i).length ≤ i := by rw [List.length_take]; omega
    refine ⟨_, rfl, .inr (.inr (.inl ⟨rfl, .inl ⟨_, T.dict⟩⟩)), _, rfl, a, _, 0, _, rfl, rfl, SqT.of ha2, rfl, (by show 0 ≤ sizeLine; decide), fun e he => ?_⟩
    have se : Same H2 (upd H2 e (.lst [])) := same_new he _
    have nde : dd ≠ e := ne_of_none T.dict he
    refine ⟨dd, tabKV tab, Sum.inl p.1, .ref e, rfl, rfl, se _ _ T.dict, small1000 (by rw [tabKV_len]; omega), fun v hv => ?_, fun hn => ?_⟩
    · obtain ⟨q, hq, hk, rfl⟩ := val_tab_some hv
      have hql := T.ls q hq
      have hel := endsOf_len (ps.take i) q.1
      refine ⟨.inl ⟨rfl, _, SqL.of (se _ _ hql)⟩, _, rfl, a, _, 1, _, rfl, rfl, SqT.of (se _ _ ha2), rfl, q.2, _, _, rfl, rfl, se _ _ hql, small1000 (by rw [List.length_map]; omega), ?_⟩
      have nq : q.2 ≠ e := ne_of_none hql he
      have ndq : dd ≠ q.2 := ne_of T.dict hql (by intro z; cases z)
      refine ⟨_, tab, rfl, same_put (s2.trans se) (fr q hq) _, ⟨?_, T.nd, T.na, fun q' hq' => ?_, fun p' hp' => ?_⟩, fr, by omega⟩
      · rw [upd_ne ndq, upd_ne nde]; exact T.dict
      · rw [tk, endsOf_snoc]
        by_cases c : q'.2 = q.2
        · have eq : q' = q := by
            obtain ⟨i1, h1⟩ := List.mem_iff_getElem?.mp hq'
            obtain ⟨i2, h2⟩ := List.mem_iff_getElem?.mp hq
            have e1 : (tab.map (·.2))[i1]? = some q.2 := by rw [List.getElem?_map, h1, ← c]; rfl
            have e2 : (tab.map (·.2))[i2]? = some q.2 := by rw [List.getElem?_map, h2]; rfl
            have : i1 = i2 := by
              obtain ⟨l1, f1⟩ := List.getElem?_eq_some_iff.mp e1
              obtain ⟨l2, f2⟩ := List.getElem?_eq_some_iff.mp e2
              exact (List.getElem_inj T.na).mp (f1.trans f2.symm)
            rw [this] at h1
            exact Option.some.inj (h1.symm.trans h2)
          rw [eq, upd_same, if_pos hk.symm, List.map_append]; rfl
        · have nk : ¬ p.1 = q'.1 := fun z => by
            have : q' = q := by
              obtain ⟨i1, h1⟩ := List.mem_iff_getElem?.mp hq'
              obtain ⟨i2, h2⟩ := List.mem_iff_getElem?.mp hq
              have e1 : (tab.map (·.1))[i1]? = some p.1 := by rw [List.getElem?_map, h1, z]; rfl
              have e2 : (tab.map (·.1))[i2]? = some p.1 := by rw [List.getElem?_map, h2, ← hk]; rfl
              have : i1 = i2 := by
                obtain ⟨l1, f1⟩ := List.getElem?_eq_some_iff.mp e1
                obtain ⟨l2, f2⟩ := List.getElem?_eq_some_iff.mp e2
                exact (List.getElem_inj T.nd).mp (f1.trans f2.symm)
              rw [this] at h1
              exact Option.some.inj (h1.symm.trans h2)
            exact c (by rw [this])
          rw [if_neg nk, upd_ne c]
          exact se _ _ (T.ls q' hq')
      · rw [tk] at hp'
        rcases List.mem_append.mp hp' with h | h
        · exact T.all p' h
        · rw [List.mem_singleton.mp h, ← hk]
          exact List.mem_map.mpr ⟨q, hq, rfl⟩
    · have nk := val_tab_none hn
      have ee : endsOf (ps.take i) p.1 = [] := by
        rw [List.eq_nil_iff_forall_not_mem]
        intro x hx
        exact nk (T.all (p.1, x) (mem_endsOf.mp hx))
      have hd2 : (upd (upd H2 e (.lst [])) dd (.dK (putK (tabKV tab) (Sum.inl p.1) (.ref e)))) e = some (.lst []) := by rw [upd_ne nde.symm, upd_same]
      have ha3 : (upd (upd H2 e (.lst [])) dd (.dK (putK (tabKV tab) (Sum.inl p.1) (.ref e)))) a = some (.tup (pr p)) := by
        rw [upd_ne (ne_of ha2 T.dict (by intro z; cases z)), upd_ne (ne_of_none ha2 he)]; exact ha2
      refine ⟨.inl ⟨rfl, _, SqL.of hd2⟩, _, rfl, a, _, 1, _, rfl, rfl, SqT.of ha3, rfl, e, _, _, rfl, rfl, hd2, (by decide), ?_⟩
      refine ⟨_, tab ++ [(p.1, e)], rfl, same_put (same_put (s2.trans se) hdd _) (s2.free he) _, ⟨?_, ?_, ?_, fun q' hq' => ?_, fun p' hp' => ?_⟩, fun q' hq' => ?_, by rw [List.length_append, List.length_singleton]; omega⟩
      · rw [upd_ne nde, upd_same, putK_new _ hn]
        unfold tabKV
        rw [List.map_append]; rfl
      · rw [List.map_append]
        exact nd_snoc T.nd nk
      · rw [List.map_append]
        refine nd_snoc T.na fun m => ?_
        obtain ⟨q', h1, h2⟩ := List.mem_map.mp m
        have := T.ls q' h1
        rw [h2, he] at this
        cases this
      · rcases List.mem_append.mp hq' with h | h
        · have nk' : ¬ p.1 = q'.1 := fun z => nk (List.mem_map.mpr ⟨q', h, z.symm⟩)
          have hq2 := T.ls q' h
          rw [tk, endsOf_snoc, if_neg nk', upd_ne (ne_of_none hq2 he), upd_ne (ne_of hq2 T.dict (by intro z; cases z)), upd_ne (ne_of_none hq2 he)]
          exact hq2
        · rw [List.mem_singleton.mp h, tk, endsOf_snoc, if_pos rfl, ee, upd_same]; rfl
      · rw [tk] at hp'
        rw [List.map_append]
        rcases List.mem_append.mp hp' with h | h
        · exact List.mem_append_left _ (T.all p' h)
        · rw [List.mem_singleton.mp h]
          exact List.mem_append_right _ (by simp)
      · rcases List.mem_append.mp hq' with h | h
        · exact fr q' h
        · rw [List.mem_singleton.mp h]
          exact s2.free he
  · rintro σ H2 ⟨v, tab, rfl, s2, T, fr, ht⟩
    have e : ps.take (as.map V.ref).length = ps := by rw [List.length_map, hpl, List.take_length]
    rw [e] at T
    exact ⟨_, rfl, q dd H2 s2 ⟨tab, T⟩⟩
theorem ok_reach (d : DefAt K mg "reach" sReach PReach fReach gReach) (z : Zs mg) (dEndsByPlace : DefAt K mg "ends_by_place" sEndsByPlace PEndsByPlace fEnds gEnds) (GEndsByPlace : FnOk P w K mg base CX0 1 fEnds gEnds PEndsByPlace spEnds) :
    FnOk P w K mg base CX0 2 fReach gReach PReach spReach := by
  refine d.F.ok scReach (fun vs H Q E h => ?_) (fun cdv A outer s H vs Q E hr h => ?_)
  · obtain ⟨l, ps, n, st, rfl, _⟩ := h
    rfl
  obtain ⟨l, ps, n, st, rfl, hL, hlen, hin, hst, hn, q⟩ := h
  have hu := hu_of hr
  refine ⟨_, (pss_cons (ps_set (i := 2) scReach.nd rfl (by first | exact Or.inl rfl | exact Or.inr rfl) (pe_call GEndsByPlace (hr.mono (by decide)) rfl dEndsByPlace.m dEndsByPlace.F.kp dEndsByPlace.b .nil pass0 (pa_cons (pv 0) pa_nil)))
      (pss_cons (ps_set (i := 3) scReach.nd rfl (by first | exact Or.inl rfl | exact Or.inr rfl) (pe_disp (pps_cons (pv 1) pe_non pps_nil) rfl rfl (by simp) (by decide)))
      (pss_cons (ps_set (i := 4) scReach.nd rfl (by first | exact Or.inl rfl | exact Or.inr rfl) (pe_lst (pa_cons (pv 1) pa_nil)))
      (pss_cons (ps_set (i := 5) scReach.nd rfl (by first | exact Or.inl rfl | exact Or.inr rfl) pe_int)
      (pss_cons (ps_while PassesOwn.never (pt_cmpR op_lt (pv 5) (pe_callB call_len_seq rfl z.len bt_len (pa_cons (pv 4) pa_nil)) (nomark _)) (pss_cons (ps_set (i := 6) scReach.nd rfl (by first | exact Or.inl rfl | exact Or.inr rfl) (pe_ix ix_list (pv 4) (pv 5) (fun _ _ => rfl)))
      (pss_cons (ps_for PassesOwn.never rfl (pi_list (pe_dget2 hu (pv 2) (pv 6) (pe_lst pa_nil) ⟨rfl, rfl, rfl, rfl⟩)) (pg_name (i := 7) scReach.nd rfl (by first | exact Or.inl rfl | exact Or.inr rfl)) (pss_one (ps_if (pt_cmp (pc_dnotin hu (pv 7) (pv 3))) (pss_cons (ps_dput hu (pv 3) (pv 7) (pv 6) rfl)
      (pss_one (ps_expr (pe_bm PySem.F.plainAttrs_list PySem.F.slot_list_append PySem.F.type_list_append mt_append (pv 4) (pa_cons (pv 7) pa_nil))))) pss_nil)))
      (pss_one (ps_aug (i := 5) scReach.nd rfl (Or.inl rfl) pe_int ip_add)))))
      (pss_one (ps_ret (pv 3)))))))), ?_⟩
  refine ⟨_, rfl, l, ps, rfl, hL, hlen, fun de H1 s1 hE => ?_⟩
  -- ahead = {start: None}
  intro a ha
  refine ⟨_, rfl, upd_same, [(Sum.inl st, .non)], rfl, (by show 1 ≤ 15; decide), ?_⟩
  rw [show upd (upd H1 a (.dK [])) a (.dK (mergeK [] [(Sum.inl st, .non)])) = upd H1 a (.dK (treeKV [(st, none)])) from upd_upd]
  have sa : Same H1 (upd H1 a (.dK (treeKV [(st, none)]))) := same_new ha _
  -- found = [start]
  refine ⟨_, rfl, (by show 1 ≤ sizeLine; decide), fun f hf => ?_⟩
  have hf1 : H1 f = none := sa.free hf
  have naf : a ≠ f := fun e => by rw [← e, upd_same] at hf; cases hf
  -- the loop
  refine ⟨fun m σ H2 => ∃ (t : PTree) (at' : Nat) (pl en : Option V), σ = [some (.ref l), some (.int st), some (.ref de), some (.ref a), some (.ref f), some (.int at'), pl, en] ∧ Same H1 H2 ∧ H2 a = some (.dK (treeKV t)) ∧ H2 f = some (.lst ((keys t).map V.int)) ∧
      Reach ps st t ∧ Done ps t at' ∧ at' ≤ t.length ∧ m = n.toNat - at',
    ⟨_, [(st, none)], 0, none, none, rfl, same_put sa hf1 _, by rw [upd_ne naf, upd_same], by rw [upd_same]; rfl, reach_start ps st, fun i k o e hi => absurd hi (Nat.not_lt_zero _), Nat.zero_le _, rfl⟩, ?_⟩
  rintro m σ H2 ⟨t, at', pl, en, rfl, s2, hA, hF, R, D, hat, rfl⟩
  have htl := R.len_le hst hin
  have hkl : (keys t).length = t.length := List.length_map _
  refine ⟨_, rfl, _, rfl, f, _, rfl, .inl (SqL.of hF), _, _, rfl, rfl, _, rfl, ?_⟩
  refine ite2 (fun c => ?_) (fun c => ?_)
  · have c' : (at' : Int) < (((keys t).map V.int).length : Nat) := of_decide_eq_true c
    rw [List.length_map, hkl] at c'
    have c2 : at' < t.length := by omega
    obtain ⟨k, hk⟩ : ∃ k, (keys t)[at']? = some k := ⟨_, List.getElem?_eq_getElem (by rw [hkl]; exact c2)⟩
    have hkm : k ∈ keys t := List.mem_of_getElem? hk
    refine ⟨fun σ' H' => ∃ (t' : PTree) (pl en : Option V), σ' = [some (.ref l), some (.int st), some (.ref de), some (.ref a), some (.ref f), some (.int ((at' : Int) + 1)), pl, en] ∧ Same H1 H' ∧ H' a = some (.dK (treeKV t')) ∧ H' f = some (.lst ((keys t').map V.int)) ∧
      Reach ps st t' ∧ Done ps t' (at' + 1) ∧ at' + 1 ≤ t'.length, fun σ' H' ⟨t', pl, en, e, s', hA', hF', R', D', hl'⟩ => ⟨n.toNat - (at' + 1), by omega, t', at' + 1, pl, en, e, s', hA', hF', R', D', hl', rfl⟩, ?_⟩
    -- place = found[at]
    refine ⟨_, rfl, _, rfl, f, _, _, _, rfl, rfl, SqL.of hF, at_int hk, ?_⟩
    -- ends.get(place, [])
    obtain ⟨tab, T⟩ := hE.mono s2
    refine ⟨_, rfl, de, rfl, .inl ⟨_, .inl T.dict⟩, _, rfl, (by show 0 ≤ sizeLine; decide), fun e he => ⟨_, DGet.k (k := Sum.inl k) (same_new he _ _ _ T.dict), ?_⟩⟩
    have se : Same H2 (upd H2 e (.lst [])) := same_new he _
    obtain ⟨b, eb, hb⟩ : ∃ b : Addr, (valV (tabKV tab) (Sum.inl k : Key)).getD (.ref e) = .ref b ∧ ((upd H2 e (.lst [])) b = some (.lst ((endsOf ps k).map V.int)) ∧ b ≠ a ∧ b ≠ f) := by
      cases hv : valV (tabKV tab) (Sum.inl k : Key) with
      | none =>
        have nk := val_tab_none hv
        have ee : endsOf ps k = [] := by
          rw [List.eq_nil_iff_forall_not_mem]
          intro x hx
          exact nk (T.all (k, x) (mem_endsOf.mp hx))
        exact ⟨e, rfl, by rw [upd_same, ee]; rfl, (ne_of_none hA he).symm, (ne_of_none hF he).symm⟩
      | some v =>
        obtain ⟨q', hq', hk', rfl⟩ := val_tab_some hv
        have h1 := T.ls q' hq'
        rw [hk'] at h1
        obtain ⟨tab1, T1⟩ := hE
        have eqt : tab1 = tab := by
          have h2 := s2 _ _ T1.dict
          rw [T.dict] at h2
          have h3 : tabKV tab = tabKV tab1 := HO.dK.inj (Option.some.inj h2)
          exact (tabKV_inj h3).symm
        rw [eqt] at T1
        have h4 := T1.ls q' hq'
        exact ⟨q'.2, rfl, se _ _ h1, ne_of_none h4 ha, ne_of_none h4 hf1⟩
    rw [eb]
    refine ⟨b, rfl, ⟨_, SqL.of hb.1⟩, for_list (K := K) (a := b) (xs := (endsOf ps k).map V.int) (fun i σ H3 => ∃ (t' : PTree) (en : Option V), σ = [some (.ref l), some (.int st), some (.ref de), some (.ref a), some (.ref f), some (.int at'), some (.int k), en] ∧
        Same H1 H3 ∧ H3 b = some (.lst ((endsOf ps k).map V.int)) ∧ H3 a = some (.dK (treeKV t')) ∧ H3 f = some (.lst ((keys t').map V.int)) ∧ Reach ps st t' ∧ Done ps t' at' ∧ at' < t'.length ∧ (keys t')[at']? = some k ∧ ∀ x ∈ (endsOf ps k).take i, x ∈ keys t')
      ⟨t, en, rfl, s2.trans se, hb.1, se _ _ hA, se _ _ hF, R, D, c2, hk, fun x hx => by simp at hx⟩ (fun i σ H3 _ ⟨_, _, _, _, h, _⟩ => SqL.of h) ?_ ?_⟩
    · rintro i y σ H3 hi ⟨t', en', rfl, s3, hB3, hA3, hF3, R3, D3, hl3, hk3, hall⟩
      obtain ⟨x, rfl, hx⟩ := int_of hi
      have hlx : (k, x) ∈ ps := mem_endsOf.mp (List.mem_of_getElem? hx)
      have htl3 := R3.len_le hst hin
      have hkl3 : (keys t').length = t'.length := List.length_map _
      refine ⟨_, rfl, _, rfl, a, _, rfl, DGet.k (k := Sum.inl x) hA3, _, rfl, ?_⟩
      rw [val_tree_some]
      by_cases c3 : x ∈ keys t'
      · rw [decide_eq_true c3]
        refine iteF ⟨t', _, rfl, s3, hB3, hA3, hF3, R3, D3, hl3, hk3, fun y' hy' => ?_⟩
        rw [take_succ_get hx] at hy'
        rcases List.mem_append.mp hy' with h | h
        · exact hall y' h
        · rw [List.mem_singleton.mp h]; exact c3
      · rw [decide_eq_false c3]
        refine iteT ⟨_, rfl, _, rfl, _, rfl, a, _, rfl, DPut.k (k := Sum.inl x) hA3 (small1000 (by rw [treeKV_len]; omega)), ?_⟩
        rw [put_tree c3]
        have hF4 : (upd H3 a (.dK (treeKV (t' ++ [(x, some k)])))) f = some (.lst ((keys t').map V.int)) := by rw [upd_ne naf.symm]; exact hF3
        refine ⟨_, rfl, .inl ⟨rfl, _, SqL.of hF4⟩, _, rfl, f, _, _, rfl, rfl, hF4, small1000 (by rw [List.length_map, hkl3]; omega), ?_⟩
        have ek : (keys t').map V.int ++ [.int x] = (keys (t' ++ [(x, some k)])).map V.int := by rw [keys_append, List.map_append]; rfl
        refine ⟨t' ++ [(x, some k)], _, rfl, same_put (same_put s3 ha _) hf1 _, ?_, ?_, ?_, R3.push c3 (List.mem_of_getElem? hk3) hlx, D3.mono (Nat.le_of_lt hl3), by rw [List.length_append, List.length_singleton]; omega, ?_, fun y' hy' => ?_⟩
        · rw [upd_ne hb.2.2, upd_ne hb.2.1]; exact hB3
        · rw [upd_ne naf, upd_same]
        · rw [upd_same, ek]
        · rw [keys_append, List.getElem?_append_left (by rw [hkl3]; exact hl3)]; exact hk3
        · rw [keys_append]
          rw [take_succ_get hx] at hy'
          rcases List.mem_append.mp hy' with h | h
          · exact List.mem_append_left _ (hall y' h)
          · rw [List.mem_singleton.mp h]
            exact List.mem_append_right _ (by simp [keys])
    · rintro σ H3 ⟨t', en', rfl, s3, hB3, hA3, hF3, R3, D3, hl3, hk3, hall⟩
      refine ⟨_, rfl, _, _, rfl, rfl, ?_⟩
      refine ⟨t', _, _, rfl, s3, hA3, hF3, R3, D3.succ hk3 fun e' he' => hall e' ?_, hl3⟩
      rw [List.length_map, List.take_length]
      exact mem_endsOf.mpr he'
  · have c' : ¬ (at' : Int) < (((keys t).map V.int).length : Nat) := of_decide_eq_false (Bool.eq_false_iff.mpr c)
    rw [List.length_map, hkl] at c'
    have e : at' = t.length := by omega
    subst e
    exact ⟨_, rfl, q a t H2 (s1.trans s2) (s1.free ha) hA R D⟩
end
def spUpto (K : PySem.W.Frag) : Sp := fun vs H Q _ => ∃ (a : Addr) (ns : List Int) (x y : V), vs = [.ref a, x, y] ∧ SqL K H a (ns.map V.int) ∧ ns.length ≤ 63 ∧ Q x H
def spWhole : Sp := fun vs H Q _ => ∃ i : Int, vs = [.int i] ∧ Q (.bl true) H
def spAt (K : PySem.W.Frag) : Sp := fun vs H Q _ => ∃ (a : Addr) (ns : List Int) (k : Nat), vs = [.ref a, .int (k : Int)] ∧ SqL K H a (ns.map V.int) ∧ Q (.int (ns.getD k 0)) H
def spLanesBy (K : PySem.W.Frag) : Sp := fun vs H Q _ => ∃ (a : Addr) (ns : List Int) (n seed : Int), vs = [.ref a, .int n, .int seed] ∧ SqL K H a (ns.map V.int) ∧ ns.length ≤ 63 ∧ 0 ≤ n ∧ n ≤ 1000 ∧
  ∀ l ps H', Same H H' → LanesAt H' l ps → InR n ps → ps.length ≤ ns.length → Q (.ref l) H'
def spWholeRow : Sp := fun vs H Q _ => ∃ (a : Addr) (ns : List Int), vs = [.ref a] ∧ H a = some (.lst (ns.map V.int)) ∧ ns.length ≤ 1000 ∧ Q (.bl true) H
section
variable {P : Program} {w : World} {K : PySem.W.Frag} {mg : Str → Option Value} {base : Heap}
variable {fUpto fWhole fAt fLanesBy fSame fWholeRow : Addr} {gUpto gWhole gAt gLanesBy gSame gWholeRow : FuncData}
theorem ok_upto (d : DefAt K mg "_law_upto" sLUpto PLUpto fUpto gUpto) (z : Zs mg) : FnOk P w K mg base CX0 1 fUpto gUpto PLUpto (spUpto K) := by
  refine d.F.ok scLUpto (fun vs H Q E h => ?_) (fun cdv A outer s H vs Q E hr h => ?_)
  · obtain ⟨a, ns, x, y, rfl, _⟩ := h
    rfl
  obtain ⟨a, ns, x, y, rfl, hS, hl, q⟩ := h
  refine ⟨_, (pss_cons (ps_if (pt_cmpR op_gt (pe_callB call_len_seq rfl z.len bt_len (pa_cons (pv 0) pa_nil)) pe_int (nomark _)) (pss_one (ps_ret (pv 2))) pss_nil)
      (pss_one (ps_ret (pv 1)))), ?_⟩
  refine ⟨_, rfl, a, _, rfl, .inl hS, _, _, rfl, rfl, _, rfl, ?_⟩
  have e : decide ((63 : Int) < (((ns.map V.int).length : Nat) : Int)) = false := decide_eq_false (by rw [List.length_map]; omega)
  rw [e]
  exact iteF ⟨_, rfl, q⟩
theorem kit_int_int : PySem.W.kitOne K (.type "int") (.type "int") = some true := by rfl
theorem kit_int_bool : PySem.W.kitOne K (.type "int") (.type "bool") = some false := by rfl
theorem kit_list_list : PySem.W.kitOne K (.type "list") (.type "list") = some true := by rfl
theorem kit_tup_tup : PySem.W.kitOne K (.type "tuple") (.type "tuple") = some true := by rfl
theorem ok_whole (d : DefAt K mg "_law_whole" sLWhole PLWhole fWhole gWhole) (z : Zs mg) : FnOk P w K mg base CX0 1 fWhole gWhole PLWhole spWhole := by
  refine d.F.ok scLWhole (fun vs H Q E h => ?_) (fun cdv A outer s H vs Q E hr h => ?_)
  · obtain ⟨i, rfl, _⟩ := h
    rfl
  obtain ⟨i, rfl, q⟩ := h
  refine ⟨_, (pss_one (ps_ret (pe_and (pe_callB call_isi rfl z.isinstance bt_isinstance (pa_cons (pv 0) (pa_cons (pe_bltn (v := .ty "int") rfl z.int bt_int rfl) pa_nil))) (pe_one (pe_not (pe_callB call_isi rfl z.isinstance bt_isinstance (pa_cons (pv 0) (pa_cons (pe_bltn (v := .ty "bool") rfl z.bool bt_bool rfl) pa_nil)))))))), ?_⟩
  refine ⟨_, rfl, _, _, _, _, rfl, .int i, kit_int_int, _, rfl, ?_⟩
  exact iteT ⟨_, rfl, _, _, _, _, rfl, .int i, kit_int_bool, _, rfl, q⟩
theorem ok_at (d : DefAt K mg "_law_at" sLAt PLAt fAt gAt) (z : Zs mg) : FnOk P w K mg base CX0 1 fAt gAt PLAt (spAt K) := by
  refine d.F.ok scLAt (fun vs H Q E h => ?_) (fun cdv A outer s H vs Q E hr h => ?_)
  · obtain ⟨a, ns, k, rfl, _⟩ := h
    rfl
  obtain ⟨a, ns, k, rfl, hS, q⟩ := h
  refine ⟨_, (pss_cons (ps_if (pt_cmpR op_lt (pv 1) (pe_callB call_len_seq rfl z.len bt_len (pa_cons (pv 0) pa_nil)) (nomark _)) (pss_one (ps_ret (pe_ix ix_list (pv 0) (pv 1) (fun _ _ => rfl)))) pss_nil)
      (pss_one (ps_ret pe_int))), ?_⟩
  refine ⟨_, rfl, _, rfl, a, _, rfl, .inl hS, _, _, rfl, rfl, _, rfl, ?_⟩
  refine ite2 (fun c => ?_) (fun c => ?_)
  · have c' : (k : Int) < (((ns.map V.int).length : Nat) : Int) := of_decide_eq_true c
    rw [List.length_map] at c'
    have e : ns[k]? = some (ns.getD k 0) := by
      have hk : k < ns.length := by omega
      rw [List.getD_eq_getElem?_getD, List.getElem?_eq_getElem hk]; rfl
    exact ⟨_, rfl, _, rfl, a, _, _, _, rfl, rfl, hS, at_int e, q⟩
  · have c' : ¬ (k : Int) < (((ns.map V.int).length : Nat) : Int) := of_decide_eq_false (Bool.eq_false_iff.mpr c)
    rw [List.length_map] at c'
    have e : ns.getD k 0 = 0 := by rw [List.getD_eq_getElem?_getD, List.getElem?_eq_none (by omega)]; rfl
    rw [e] at q
    exact q
theorem at_two {α : Type} {x y : α} {i : Int} (h : i = 0 ∨ i = 1) : atI [x, y] i = some (if i = 0 then x else y) := by
  rcases h with e | e
  · subst e; rfl
  · subst e; rfl
theorem at_three {α : Type} {x y z : α} {i : Int} (h : i = 0 ∨ i = 1 ∨ i = 2) : atI [x, y, z] i = some (if i = 0 then x else if i = 1 then y else z) := by
  rcases h with e | e | e
  · subst e; rfl
  · subst e; rfl
  · subst e; rfl
theorem lane_made {H H2 : Hp} {l : Addr} {as : List Addr} {ps : Lanes} {x y : Int} {p : Addr} (s2 : Same H H2) (hl : H2 l = some (.lst (as.map V.ref))) (hp : Paired (fun a p => H2 a = some (.tup (pr p))) as ps) (hfl : H l = none) (hn : H2 p = none) :
    Same H (upd (upd H2 p (.tup [.int x, .int y])) l (.lst (as.map V.ref ++ [.ref p]))) ∧
    (upd (upd H2 p (.tup [.int x, .int y])) l (.lst (as.map V.ref ++ [.ref p]))) l = some (.lst ((as ++ [p]).map V.ref)) ∧
    Paired (fun a q => (upd (upd H2 p (.tup [.int x, .int y])) l (.lst (as.map V.ref ++ [.ref p]))) a = some (.tup (pr q))) (as ++ [p]) (ps ++ [(x, y)]) := by
  have nlp : l ≠ p := ne_of_none hl hn
  refine ⟨same_put (s2.trans (same_new hn _)) hfl _, by rw [upd_same, List.map_append]; rfl, Paired.snoc (Paired.mapP hp fun a q e => ?_) ?_⟩
  · rw [upd_ne (ne_of e hl (by intro z; cases z)), upd_ne (ne_of_none e hn)]; exact e
  · rw [upd_ne nlp.symm, upd_same]; rfl
theorem ok_lanesBy (d : DefAt K mg "_law_lanes_by" sLLanesBy PLLanesBy fLanesBy gLanesBy) (z : Zs mg) : FnOk P w K mg base CX0 1 fLanesBy gLanesBy PLLanesBy (spLanesBy K) := by
  refine d.F.ok scLLanesBy (fun vs H Q E h => ?_) (fun cdv A outer s H vs Q E hr h => ?_)
  · obtain ⟨a, ns, n, seed, rfl, _⟩ := h
    rfl
  obtain ⟨a, ns, n, seed, rfl, hS, hl, h0, h1000, q⟩ := h
  refine ⟨_, (pss_cons (ps_set (i := 3) scLLanesBy.nd rfl (by first | exact Or.inl rfl | exact Or.inr rfl) (pe_lst pa_nil))
      (pss_cons (ps_set (i := 4) scLLanesBy.nd rfl (by first | exact Or.inl rfl | exact Or.inr rfl) (pe_ix ix_list (pe_lst (pa_cons (pe_op op_add pe_int (pe_op op_mod (pv 2) pe_int)) (pa_cons (pe_callB (call_max2 rfl) rfl z.max bt_max (pa_cons pe_int (pa_cons (pe_op op_sub (pv 1) pe_int) pa_nil))) pa_nil))) (pe_op op_mod (pe_op op_fdiv (pv 2) pe_int) pe_int) (fun _ _ => rfl)))
      (pss_cons (ps_if (pt_cmpR op_eq (pv 1) pe_int (nomark _)) (pss_one (ps_ret (pv 3))) pss_nil)
      (pss_cons (ps_for PassesOwn.never rfl (pi_range1 rfl z.range (pa_cons (pe_callB call_len_seq rfl z.len bt_len (pa_cons (pv 0) pa_nil)) pa_nil)) (pg_name (i := 5) scLLanesBy.nd rfl (by first | exact Or.inl rfl | exact Or.inr rfl)) (pss_cons (ps_set (i := 6) scLLanesBy.nd rfl (by first | exact Or.inl rfl | exact Or.inr rfl) (pe_op op_mod (pe_op op_add (pe_ix ix_list (pv 0) (pv 5) (fun _ _ => rfl)) (pv 5)) (pv 1)))
      (pss_cons (ps_set (i := 7) scLLanesBy.nd rfl (by first | exact Or.inl rfl | exact Or.inr rfl) (pe_op op_add (pe_op op_add (pv 6) pe_int) (pe_op op_mod (pe_op op_fdiv (pe_ix ix_list (pv 0) (pv 5) (fun _ _ => rfl)) pe_int) (pv 4))))
      (pss_cons (ps_if (pt_cmpR op_ge (pv 7) (pv 1) (nomark _)) (pss_one (ps_set (i := 7) scLLanesBy.nd rfl (by first | exact Or.inl rfl | exact Or.inr rfl) (pe_ix ix_list (pe_lst (pa_cons (pe_op op_mod (pv 7) (pv 1)) (pa_cons (pv 6) (pa_cons (pv 6) pa_nil)))) (pe_op op_mul (pe_op op_mod (pe_op op_fdiv (pv 2) pe_int) pe_int) (pe_callTy call_int1 rfl z.int bt_int (pa_cons (pe_cmpR op_lt (pv 4) pe_int (nomark _)) pa_nil))) (fun _ _ => rfl)))) pss_nil)
      (pss_cons (ps_if (pt_cmpR op_eq (pe_op op_mod (pe_ix ix_list (pv 0) (pv 5) (fun _ _ => rfl)) pe_int) pe_int (nomark _)) (pss_one (ps_set (i := 7) scLLanesBy.nd rfl (by first | exact Or.inl rfl | exact Or.inr rfl) (pv 6))) pss_nil)
      (pss_one (ps_if (pt_cmpR op_eq (pe_op op_mod (pe_op op_fdiv (pe_ix ix_list (pv 0) (pv 5) (fun _ _ => rfl)) pe_int) pe_int) pe_int (nomark _)) (pss_one (ps_expr (pe_bm PySem.F.plainAttrs_list PySem.F.slot_list_append PySem.F.type_list_append mt_append (pv 3) (pa_cons (pe_tup (pa_cons (pv 7) (pa_cons (pv 6) pa_nil))) pa_nil)))) (pss_one (ps_expr (pe_bm PySem.F.plainAttrs_list PySem.F.slot_list_append PySem.F.type_list_append mt_append (pv 3) (pa_cons (pe_tup (pa_cons (pv 6) (pa_cons (pv 7) pa_nil))) pa_nil)))))))))))
      (pss_one (ps_ret (pv 3))))))), ?_⟩
  -- lanes = []
  refine ⟨(by show 0 ≤ sizeLine; decide), fun l hfl => ?_⟩
  have sl : Same H (upd H l (.lst [])) := same_new hfl _
  -- hop
  refine ⟨_, rfl, _, _, rfl, rfl, (by show (0 : Int) < 4; decide), _, _, rfl, rfl, _, rfl, _, _, rfl, rfl, _, _, rfl, (by show 2 ≤ sizeLine; decide), fun p hp => ?_⟩
  refine ⟨_, rfl, _, _, rfl, rfl, ⟨by decide, by decide⟩, _, _, rfl, rfl, (by show (0 : Int) < 2; decide), p, _, _, _, rfl, rfl, SqL.of upd_same, at_two (by omega), ?_⟩
  have spp : Same H (upd (upd H l (.lst [])) p (.lst [.int (1 + seed % 4), .int (if n - 1 > 5 then n - 1 else 5)])) := sl.trans (same_new hp _)
  have hlp : (upd (upd H l (.lst [])) p (.lst [.int (1 + seed % 4), .int (if n - 1 > 5 then n - 1 else 5)])) l = some (.lst (([] : List Addr).map V.ref)) := by
    rw [upd_ne (ne_of_none upd_same hp), upd_same]; rfl
  obtain ⟨hop, ehop, hop1⟩ : ∃ hop : Int, (if seed / 12 % 2 = 0 then V.int (1 + seed % 4) else V.int (if n - 1 > 5 then n - 1 else 5)) = .int hop ∧ 1 ≤ hop := by
    by_cases c : seed / 12 % 2 = 0
    · rw [if_pos c]; exact ⟨_, rfl, by omega⟩
    · rw [if_neg c]; exact ⟨_, rfl, by split <;> omega⟩
  rw [ehop]
  generalize (upd (upd H l (.lst [])) p (.lst [.int (1 + seed % 4), .int (if n - 1 > 5 then n - 1 else 5)])) = Hp0 at spp hlp ⊢
  -- if count == 0
  refine ⟨_, rfl, (by rfl), _, rfl, ?_⟩
  refine ite2 (fun c => ?_) (fun c => ?_)
  · exact ⟨_, rfl, q l [] _ spp ⟨[], hlp, .nil⟩ (fun p hp => by simp at hp) (by simp)⟩
  have hn : 0 < n := by
    have c' : ¬ V.int n = V.int 0 := of_decide_eq_false (Bool.eq_false_iff.mpr c)
    have : n ≠ 0 := fun e => c' (by rw [e])
    omega
  have hS2 : ∀ {H2 : Hp}, Same H H2 → SqL K H2 a (ns.map V.int) := fun s => s.seq hS
  have hlen : (ns.map V.int).length = ns.length := List.length_map _
  -- for k in range(len(cells))
  refine ⟨_, rfl, a, _, rfl, .inl (hS2 spp), _, rfl, (by omega), (by rw [hlen]; omega), for_range (n := ((((ns.map V.int).length : Nat) : Int)).toNat) (fun i σ H2 => ∃ (v1 v2 v3 : Option V) (as : List Addr) (ps : Lanes),
      σ = [some (.ref a), some (.int n), some (.int seed), some (.ref l), some (.int hop), v1, v2, v3] ∧ Same H H2 ∧ H2 l = some (.lst (as.map V.ref)) ∧ Paired (fun a p => H2 a = some (.tup (pr p))) as ps ∧ InR n ps ∧ ps.length = i)
    ⟨none, none, none, [], [], rfl, spp, hlp, .nil, fun p hp => by simp at hp, rfl⟩ ?_ ?_⟩
  · rintro i σ H2 hi ⟨v1, v2, v3, as, ps, rfl, s2, hl2, hp2, hin, hil⟩
    have hi' : i < ns.length := by
      rw [hlen] at hi
      omega
    obtain ⟨x, hx⟩ : ∃ x, ns[i]? = some x := ⟨_, List.getElem?_eq_getElem hi'⟩
    have e0 : (0 : Int) + (i : Int) = (i : Int) := Int.zero_add _
    rw [e0]
    have hX : atI (ns.map V.int) (i : Int) = some (.int x) := at_int hx
    have hal := Paired.len hp2
    -- one
    refine ⟨_, rfl, _, rfl, a, _, _, _, rfl, rfl, hS2 s2, hX, _, rfl, _, _, rfl, rfl, _, rfl, _, _, rfl, rfl, hn, ?_⟩
    have o1 : 0 ≤ (x + (i : Int)) % n := Int.emod_nonneg _ (by omega)
    have o2 : (x + (i : Int)) % n < n := Int.emod_lt_of_pos _ hn
    -- other
    refine ⟨_, rfl, _, _, rfl, rfl, _, rfl, _, rfl, a, _, _, _, rfl, rfl, hS2 s2, hX, _, _, rfl, rfl, ⟨by decide, by decide⟩, _, rfl, _, _, rfl, rfl, (by show 0 < hop; omega), _, _, rfl, rfl, ?_⟩
    have t1 : 0 ≤ x / 7 % hop := Int.emod_nonneg _ (by omega)
    have t2 : 0 ≤ (x + (i : Int)) % n + 1 + x / 7 % hop := by omega
    -- if other >= count
    refine ⟨_, rfl, _, rfl, _, _, rfl, rfl, _, rfl, ?_⟩
    refine if_key (fun v H3 => ∃ o : Int, v = .int o ∧ 0 ≤ o ∧ o < n ∧ Same H H3 ∧ H3 l = some (.lst (as.map V.ref)) ∧ Paired (fun a p => H3 a = some (.tup (pr p))) as ps) (fun key c => ?_) (fun c => ⟨_, rfl, _, rfl, t2, ?_, s2, hl2, hp2⟩) (fun v H3 ⟨o, ev, g1, g2, s3, hl3, hp3⟩ => ?_)
    · have m1 : 0 ≤ ((x + (i : Int)) % n + 1 + x / 7 % hop) % n := Int.emod_nonneg _ (by omega)
      have m2 : ((x + (i : Int)) % n + 1 + x / 7 % hop) % n < n := Int.emod_lt_of_pos _ hn
      have r1 : 0 ≤ seed / 4 % 3 := Int.emod_nonneg _ (by decide)
      have r2 : seed / 4 % 3 < 3 := Int.emod_lt_of_pos _ (by decide)
      refine ⟨_, rfl, _, rfl, _, _, rfl, rfl, hn, _, rfl, _, rfl, (by show 3 ≤ sizeLine; decide), fun e he => ?_⟩
      refine ⟨_, rfl, _, _, rfl, rfl, ⟨by decide, by decide⟩, _, _, rfl, rfl, (by show (0 : Int) < 3; decide), _, rfl, _, _, rfl, rfl, .inr ⟨_, rfl, ?_⟩⟩
      refine ⟨_, _, rfl, rfl, .inl ⟨by omega, by omega⟩, e, _, _, _, rfl, rfl, SqL.of upd_same, at_three (by split <;> omega), ?_⟩
      refine key _ _ ?_
      have se := s2.trans (same_new he (.lst [.int (((x + (i : Int)) % n + 1 + x / 7 % hop) % n), .int ((x + (i : Int)) % n), .int ((x + (i : Int)) % n)]))
      have hle := same_new he (.lst [.int (((x + (i : Int)) % n + 1 + x / 7 % hop) % n), .int ((x + (i : Int)) % n), .int ((x + (i : Int)) % n)]) _ _ hl2
      have hpe := Paired.mapP hp2 fun a q e => same_new he (.lst [.int (((x + (i : Int)) % n + 1 + x / 7 % hop) % n), .int ((x + (i : Int)) % n), .int ((x + (i : Int)) % n)]) _ _ e
      generalize (seed / 4 % 3 * if decide (hop < 5) = true then (1 : Int) else 0) = ix
      by_cases c0 : ix = 0
      · rw [if_pos c0]; exact ⟨_, rfl, m1, m2, se, hle, hpe⟩
      · rw [if_neg c0]
        have z3 : (if ix = 1 then V.int ((x + (i : Int)) % n) else V.int ((x + (i : Int)) % n)) = V.int ((x + (i : Int)) % n) := by split <;> rfl
        exact ⟨_, z3, o1, o2, se, hle, hpe⟩
    · have c' : ¬ n ≤ (x + (i : Int)) % n + 1 + x / 7 % hop := of_decide_eq_false (Bool.eq_false_iff.mpr c)
      omega
    subst ev
    -- if cells[k] % 17 == 5
    refine ⟨_, rfl, _, rfl, a, _, _, _, rfl, rfl, hS2 s3, hX, _, _, rfl, rfl, (by show (0 : Int) < 17; decide), rfl, _, rfl, ?_⟩
    refine if_key (fun v H3 => ∃ o : Int, v = .int o ∧ 0 ≤ o ∧ o < n ∧ Same H H3 ∧ H3 l = some (.lst (as.map V.ref)) ∧ Paired (fun a p => H3 a = some (.tup (pr p))) as ps) (fun key c => ?_) (fun c => ⟨_, rfl, _, rfl, g1, g2, s3, hl3, hp3⟩) (fun v H4 ⟨o', ev, g1', g2', s4, hl4, hp4⟩ => ?_)
    · exact ⟨_, rfl, key _ _ ⟨_, rfl, o1, o2, s3, hl3, hp3⟩⟩
    subst ev
    -- if cells[k] // 3 % 6 == 1
    refine ⟨_, rfl, _, rfl, a, _, _, _, rfl, rfl, hS2 s4, hX, _, _, rfl, rfl, ⟨by decide, by decide⟩, _, _, rfl, rfl, (by show (0 : Int) < 6; decide), rfl, _, rfl, ?_⟩
    have hz4 : (as.map V.ref).length < sizeLine := small1000 (by rw [List.length_map]; omega)
    refine ite2 (fun c => ?_) (fun c => ?_)
    · refine ⟨_, rfl, .inl ⟨rfl, _, SqL.of hl4⟩, _, rfl, _, rfl, (by show 2 ≤ sizeLine; decide), fun p hp => ?_⟩
      refine ⟨l, _, _, rfl, rfl, same_new hp _ _ _ hl4, hz4, ?_⟩
      obtain ⟨k1, k2, k3⟩ := lane_made (x := o') (y := (x + (i : Int)) % n) s4 hl4 hp4 hfl hp
      refine ⟨_, _, _, as ++ [p], ps ++ [(o', (x + (i : Int)) % n)], rfl, k1, k2, k3, fun q hq => ?_, by rw [List.length_append, List.length_singleton, hil]⟩
      rcases List.mem_append.mp hq with h | h
      · exact hin q h
      · rw [List.mem_singleton.mp h]; exact ⟨⟨g1', g2'⟩, o1, o2⟩
    · refine ⟨_, rfl, .inl ⟨rfl, _, SqL.of hl4⟩, _, rfl, _, rfl, (by show 2 ≤ sizeLine; decide), fun p hp => ?_⟩
      refine ⟨l, _, _, rfl, rfl, same_new hp _ _ _ hl4, hz4, ?_⟩
      obtain ⟨k1, k2, k3⟩ := lane_made (x := (x + (i : Int)) % n) (y := o') s4 hl4 hp4 hfl hp
      refine ⟨_, _, _, as ++ [p], ps ++ [((x + (i : Int)) % n, o')], rfl, k1, k2, k3, fun q hq => ?_, by rw [List.length_append, List.length_singleton, hil]⟩
      rcases List.mem_append.mp hq with h | h
      · exact hin q h
      · rw [List.mem_singleton.mp h]; exact ⟨⟨o1, o2⟩, g1', g2'⟩
  · rintro σ H2 ⟨v1, v2, v3, as, ps, rfl, s2, hl2, hp2, hin, hil⟩
    exact ⟨_, rfl, q l ps H2 s2 ⟨as, hl2, hp2⟩ hin (by rw [hlen] at hil; omega)⟩
theorem ok_wholeRow (d : DefAt K mg "_law_whole_row" sLWholeRow PLWholeRow fWholeRow gWholeRow) (z : Zs mg) (dLWhole : DefAt K mg "_law_whole" sLWhole PLWhole fWhole gWhole) (GLWhole : FnOk P w K mg base CX0 1 fWhole gWhole PLWhole spWhole) :
    FnOk P w K mg base CX0 2 fWholeRow gWholeRow PLWholeRow spWholeRow := by
  refine d.F.ok scLWholeRow (fun vs H Q E h => ?_) (fun cdv A outer s H vs Q E hr h => ?_)
  · obtain ⟨a, ns, rfl, _⟩ := h
    rfl
  obtain ⟨a, ns, rfl, ha, hlen, q⟩ := h
  refine ⟨_, (pss_cons (ps_if (pt_not (pt_val (pe_callB call_isi rfl z.isinstance bt_isinstance (pa_cons (pv 0) (pa_cons (pe_bltn (v := .ty "list") rfl z.list bt_list rfl) pa_nil))))) (pss_one (ps_ret pe_bl)) pss_nil)
      (pss_cons (ps_for PassesOwn.never rfl (pi_list (pv 0)) (pg_name (i := 1) scLWholeRow.nd rfl (by first | exact Or.inl rfl | exact Or.inr rfl)) (pss_one (ps_if (pt_not (pt_val (pe_call GLWhole (hr.mono (by decide)) rfl dLWhole.m dLWhole.F.kp dLWhole.b .nil pass0 (pa_cons (pv 1) pa_nil)))) (pss_one (ps_ret pe_bl)) pss_nil)))
      (pss_one (ps_ret pe_bl)))), ?_⟩
  refine ⟨_, rfl, _, _, _, _, rfl, .lst ha, kit_list_list, _, rfl, ?_⟩
  refine iteF ⟨_, rfl, a, rfl, ⟨_, SqL.of ha⟩, for_list (K := K) (a := a) (xs := ns.map V.int) (fun i σ H2 => ∃ v, σ = [some (.ref a), v] ∧ H2 = H) ⟨none, rfl, rfl⟩ (fun i σ H2 _ ⟨_, _, e⟩ => by rw [e]; exact SqL.of ha) ?_ ?_⟩
  · rintro i y σ H2 hi ⟨v, rfl, rfl⟩
    obtain ⟨x, rfl, hx⟩ := int_of hi
    refine ⟨_, rfl, x, rfl, _, rfl, ?_⟩
    exact iteF ⟨_, rfl, rfl⟩
  · rintro σ H2 ⟨v, rfl, rfl⟩
    exact q
end
theorem list_copy {H : Hp} {l l2 : Addr} {as : List Addr} {ps : Lanes} (hl : H l = some (.lst (as.map V.ref))) (hp : Paired (fun a p => H a = some (.tup (pr p))) as ps) (h2 : H l2 = none) : LanesAt (upd H l2 (.lst (as.map V.ref))) l2 ps :=
  ⟨as, upd_same, Paired.mapP hp fun _ _ e => same_new h2 _ _ _ e⟩
theorem cut_small {ns : List Int} (h : ns.length ≤ 63) : cutV (ns.map V.int) none (some 1000) = ns.map V.int := by
  unfold cutV
  have e1 : HT.sIx (ns.map V.int).length 0 none = 0 := rfl
  have e2 : HT.sIx (ns.map V.int).length (ns.map V.int).length (some 1000) = ns.length := (HT.sIx_nat _ _ 1000).trans (by rw [List.length_map]; omega)
  rw [e1, e2, List.drop_zero, Nat.sub_zero]
  exact List.take_of_length_le (by rw [List.length_map]; exact Nat.le_refl _)
theorem cut_from (ns : List Int) (k : Int) (hk : 0 ≤ k) : ∃ ms : List Int, cutV (ns.map V.int) (some k) none = ms.map V.int ∧ ms.length ≤ ns.length := by
  unfold cutV
  refine ⟨(ns.drop (HT.sIx (ns.map V.int).length 0 (some k))).take (HT.sIx (ns.map V.int).length (ns.map V.int).length none - HT.sIx (ns.map V.int).length 0 (some k)), by rw [List.map_take, List.map_drop], ?_⟩
  rw [List.length_take, List.length_drop]
  omega
def trueKV (ks : List Int) : List (Key × V) := ks.map fun k => (Sum.inl k, V.bl true)
theorem val_true (ks : List Int) (k : Int) : (valV (trueKV ks) (Sum.inl k : Key)).isSome = decide (k ∈ ks) := by
  induction ks with
  | nil => rfl
  | cons x r ih =>
    unfold valV trueKV at ih ⊢
    rw [List.map_cons, List.find?_cons]
    by_cases e : x = k
    · have e' : (Sum.inl x : Key) = Sum.inl k := by rw [e]
      rw [decide_eq_true e', decide_eq_true (by rw [e]; exact List.mem_cons_self)]; rfl
    · have e' : ¬ (Sum.inl x : Key) = Sum.inl k := fun z => e (Sum.inl.inj z)
      rw [decide_eq_false e']
      refine ih.trans ?_
      by_cases c : k ∈ r
      · rw [decide_eq_true c, decide_eq_true (List.mem_cons_of_mem _ c)]
      · rw [decide_eq_false c, decide_eq_false fun m => (List.mem_cons.mp m).elim (fun q => e q.symm) c]
theorem put_true {ks : List Int} {k : Int} (h : k ∉ ks) : putK (trueKV ks) (Sum.inl k : Key) (.bl true) = trueKV (ks ++ [k]) := by
  rw [putK_new _ (by
    cases e : valV (trueKV ks) (Sum.inl k : Key) with
    | none => rfl
    | some v =>
      have q := val_true ks k
      rw [e, decide_eq_false h] at q
      cases q)]
  unfold trueKV
  rw [List.map_append]; rfl
theorem trueKV_len (ks : List Int) : (trueKV ks).length = ks.length := List.length_map _
def spLReach : Sp := fun vs H Q _ => ∃ (l : Addr) (ps : Lanes) (n st : Int), vs = [.ref l, .int st] ∧ LanesAt H l ps ∧ ps.length ≤ 1000 ∧ InR n ps ∧ (0 ≤ st ∧ st < n) ∧ n ≤ 500 ∧
  ∀ d ks H', Same H H' → H' d = some (.dK (trueKV ks)) → RSet ps st ks → ((ks.length : Nat) : Int) ≤ n → (∀ k ∈ ks, 0 ≤ k ∧ k < n) → Q (.ref d) H'
section
variable {P : Program} {w : World} {K : PySem.W.Frag} {mg : Str → Option Value} {base : Heap}
theorem ok_lreach {f : Addr} {g : FuncData} (d : DefAt K mg "_law_reach" sLReach PLReach f g) : FnOk P w K mg base CX0 1 f g PLReach spLReach := by
  refine d.F.ok scLReach (fun vs H Q E h => ?_) (fun cdv A outer s H vs Q E hr h => ?_)
  · obtain ⟨l, ps, n, st, rfl, _⟩ := h
    rfl
  obtain ⟨l, ps, n, st, rfl, ⟨as, hl, hp⟩, hlen, hin, hst, hn, q⟩ := h
  have hu := hu_of hr
  have hpl := Paired.len hp
  refine ⟨_, (pss_cons (ps_set (i := 2) scLReach.nd rfl (by first | exact Or.inl rfl | exact Or.inr rfl) (pe_disp (pps_cons (pv 1) pe_bl pps_nil) rfl rfl (by simp) (by decide)))
      (pss_cons (ps_set (i := 3) scLReach.nd rfl (by first | exact Or.inl rfl | exact Or.inr rfl) pe_bl)
      (pss_cons (ps_while PassesOwn.never (pt_val (pv 3)) (pss_cons (ps_set (i := 3) scLReach.nd rfl (by first | exact Or.inl rfl | exact Or.inr rfl) pe_bl)
      (pss_one (ps_for PassesOwn.never rfl (pi_list (pv 0)) (pg_name (i := 4) scLReach.nd rfl (by first | exact Or.inl rfl | exact Or.inr rfl)) (pss_one (ps_if (PW.pt (pw_and (pt_cmp (pc_din hu (pe_ix ix_tup (pv 4) pe_int (fun _ _ => rfl)) (pv 2))) (pw_and1 (pt_cmp (pc_dnotin hu (pe_ix ix_tup (pv 4) pe_int (fun _ _ => rfl)) (pv 2)))))) (pss_cons (ps_dput hu (pv 2) (pe_ix ix_tup (pv 4) pe_int (fun _ _ => rfl)) pe_bl rfl)
      (pss_one (ps_set (i := 3) scLReach.nd rfl (by first | exact Or.inl rfl | exact Or.inr rfl) pe_bl))) pss_nil))))))
      (pss_one (ps_ret (pv 2)))))), ?_⟩
  intro a ha
  refine ⟨_, rfl, upd_same, [(Sum.inl st, .bl true)], rfl, (by show 1 ≤ 15; decide), ?_⟩
  rw [show upd (upd H a (.dK [])) a (.dK (mergeK [] [(Sum.inl st, .bl true)])) = upd H a (.dK (trueKV [st])) from upd_upd]
  have sa : Same H (upd H a (.dK (trueKV [st]))) := same_new ha _
  have bnd : ∀ ks : List Int, ks.Nodup → (∀ k ∈ ks, 0 ≤ k ∧ k < n) → ((ks.length : Nat) : Int) ≤ n := fun ks nd rg => by
    rcases nodup_places nd rg with c | c
    · exact c
    · rw [c]; show (0 : Int) ≤ n; omega
  refine ⟨fun m σ H2 => ∃ (ks : List Int) (mo : Bool) (ln : Option V), σ = [some (.ref l), some (.int st), some (.ref a), some (.bl mo), ln] ∧ Same H H2 ∧ H2 a = some (.dK (trueKV ks)) ∧ ks.Nodup ∧ st ∈ ks ∧ (∀ k ∈ ks, Rch ps st k) ∧ (∀ k ∈ ks, 0 ≤ k ∧ k < n) ∧
      (mo = false → ∀ x y, (x, y) ∈ ps → x ∈ ks → y ∈ ks) ∧ m = 2 * (n.toNat - ks.length) + (if mo then 1 else 0),
    ⟨_, [st], true, none, rfl, sa, upd_same, by simp, List.mem_cons_self, fun k hk => by rw [List.mem_singleton.mp hk]; exact .here, fun k hk => by rw [List.mem_singleton.mp hk]; exact hst, fun z => (by cases z), rfl⟩, ?_⟩
  rintro m σ H2 ⟨ks, mo, ln, rfl, s2, hA, nd, hs, ok, rg, cl, rfl⟩
  have hkl := bnd ks nd rg
  refine ⟨_, rfl, _, rfl, ?_⟩
  refine ite2 (fun c => ?_) (fun c => ?_)
  · subst c
    refine ⟨fun σ' H' => ∃ (ks' : List Int) (mo' : Bool) (ln : Option V), σ' = [some (.ref l), some (.int st), some (.ref a), some (.bl mo'), ln] ∧ Same H H' ∧ H' a = some (.dK (trueKV ks')) ∧ ks'.Nodup ∧ st ∈ ks' ∧ (∀ k ∈ ks', Rch ps st k) ∧ (∀ k ∈ ks', 0 ≤ k ∧ k < n) ∧
        (mo' = false → ks'.length = ks.length ∧ ∀ x y, (x, y) ∈ ps → x ∈ ks' → y ∈ ks') ∧ (mo' = true → ks.length < ks'.length),
      fun σ' H' ⟨ks', mo', ln, e, s', hA', nd', hs', ok', rg', h1, h2⟩ => ?_, ?_⟩
    · have hkl' := bnd ks' nd' rg'
      refine ⟨2 * (n.toNat - ks'.length) + (if mo' then 1 else 0), ?_, ks', mo', ln, e, s', hA', nd', hs', ok', rg', fun z => (h1 z).2, rfl⟩
      cases mo' with
      | false =>
        have := (h1 rfl).1
        show 2 * (n.toNat - ks'.length) + 0 < 2 * (n.toNat - ks.length) + 1
        omega
      | true =>
        have := h2 rfl
        show 2 * (n.toNat - ks'.length) + 1 < 2 * (n.toNat - ks.length) + 1
        omega
    · refine ⟨_, rfl, l, rfl, ⟨_, SqL.of (s2 _ _ hl)⟩, for_list (K := K) (a := l) (xs := as.map V.ref) (fun i σ H3 => ∃ (ks' : List Int) (mo' : Bool) (ln : Option V), σ = [some (.ref l), some (.int st), some (.ref a), some (.bl mo'), ln] ∧ Same H H3 ∧ H3 a = some (.dK (trueKV ks')) ∧ ks'.Nodup ∧ st ∈ ks' ∧
          (∀ k ∈ ks', Rch ps st k) ∧ (∀ k ∈ ks', 0 ≤ k ∧ k < n) ∧ (mo' = false → ks'.length = ks.length ∧ ∀ p ∈ ps.take i, p.1 ∈ ks' → p.2 ∈ ks') ∧ (mo' = true → ks.length < ks'.length) ∧ ks.length ≤ ks'.length)
        ⟨ks, false, ln, rfl, s2, hA, nd, hs, ok, rg, fun _ => ⟨rfl, fun p hp => by simp at hp⟩, fun z => (by cases z), Nat.le_refl _⟩ (fun i σ H3 _ ⟨_, _, _, _, s3, _⟩ => SqL.of (s3 _ _ hl)) ?_ ?_⟩
      · rintro i y σ H3 hi ⟨ks', mo', ln', rfl, s3, hA3, nd3, hs3, ok3, rg3, h1, h2, h4⟩
        obtain ⟨b, p, rfl, hpi, hb⟩ := lane_at hp hi
        have hb3 := s3 _ _ hb
        have hpm : p ∈ ps := List.mem_of_getElem? hpi
        have hkl3 := bnd ks' nd3 rg3
        refine ⟨_, rfl, b, _, _, _, rfl, rfl, SqT.of hb3, rfl, _, rfl, a, _, rfl, DGet.k (k := Sum.inl p.1) hA3, _, rfl, ?_⟩
        rw [val_true]
        by_cases c1 : p.1 ∈ ks'
        · rw [decide_eq_true c1]
          refine iteT ⟨_, rfl, b, _, _, _, rfl, rfl, SqT.of hb3, rfl, _, rfl, a, _, rfl, DGet.k (k := Sum.inl p.2) hA3, _, rfl, ?_⟩
          rw [val_true]
          by_cases c2 : p.2 ∈ ks'
          · rw [decide_eq_true c2]
            refine iteF ⟨ks', mo', _, rfl, s3, hA3, nd3, hs3, ok3, rg3, fun z => ⟨(h1 z).1, fun r hr hx => ?_⟩, h2, h4⟩
            rw [take_succ_get hpi] at hr
            rcases List.mem_append.mp hr with hr | hr
            · exact (h1 z).2 r hr hx
            · rw [List.mem_singleton.mp hr]; exact c2
          · rw [decide_eq_false c2]
            refine iteT ⟨_, rfl, _, rfl, b, _, _, _, rfl, rfl, SqT.of hb3, rfl, a, _, rfl, DPut.k (k := Sum.inl p.2) hA3 (small1000 (by rw [trueKV_len]; omega)), ?_⟩
            rw [put_true c2]
            refine ⟨ks' ++ [p.2], true, _, rfl, same_put s3 ha _, upd_same, nd_snoc nd3 c2, List.mem_append_left _ hs3, fun k hk => ?_, fun k hk => ?_, fun z => (by cases z), fun _ => by rw [List.length_append, List.length_singleton]; omega, by rw [List.length_append, List.length_singleton]; omega⟩
            · rcases List.mem_append.mp hk with hk | hk
              · exact ok3 k hk
              · rw [List.mem_singleton.mp hk]
                exact .step (ok3 p.1 c1) hpm
            · rcases List.mem_append.mp hk with hk | hk
              · exact rg3 k hk
              · rw [List.mem_singleton.mp hk]
                exact (hin p hpm).2
        · rw [decide_eq_false c1]
          refine iteF (iteF ⟨ks', mo', _, rfl, s3, hA3, nd3, hs3, ok3, rg3, fun z => ⟨(h1 z).1, fun r hr hx => ?_⟩, h2, h4⟩)
          rw [take_succ_get hpi] at hr
          rcases List.mem_append.mp hr with hr | hr
          · exact (h1 z).2 r hr hx
          · rw [List.mem_singleton.mp hr] at hx; exact absurd hx c1
      · rintro σ H3 ⟨ks', mo', ln', rfl, s3, hA3, nd3, hs3, ok3, rg3, h1, h2, h4⟩
        refine ⟨ks', mo', _, rfl, s3, hA3, nd3, hs3, ok3, rg3, fun z => ⟨(h1 z).1, fun x y hxy hx => ?_⟩, h2⟩
        have e : ps.take (as.map V.ref).length = ps := by rw [List.length_map, hpl, List.take_length]
        have h3 := (h1 z).2
        rw [e] at h3
        exact h3 (x, y) hxy hx
  · have c' : mo = false := Bool.eq_false_iff.mpr c
    exact ⟨_, rfl, q a ks H2 s2 hA ⟨nd, hs, ok, cl c'⟩ hkl rg⟩
end
def lamP : Pos := ⟨41, 33, 41, 67⟩
def lamQ : Str := ("parts" : Str) ++ ".<locals>." ++ "<lambda>"
theorem tab_start {H : Hp} {T : Addr} (h : H T = some (.tbl #[])) : TabAt H T lamP lamQ := ⟨#[], h, trivial, .inl rfl⟩
theorem paired_choose {α β γ : Type} {F : α → γ → Prop} {G : β → γ → Prop} : ∀ {as : List α} {bs : List β}, Paired (fun a b => ∃ c, F a c ∧ G b c) as bs → ∃ cs, Paired F as cs ∧ Paired G bs cs
  | _, _, .nil => ⟨[], .nil, .nil⟩
  | _, _, .cons ⟨c, h1, h2⟩ t => by
    obtain ⟨cs, t1, t2⟩ := paired_choose t
    exact ⟨c :: cs, .cons h1 t1, .cons h2 t2⟩
def keysOf (ts : List PTree) : Int → List Int := fun x => keys (ts.getD x.toNat [])
theorem keysOf_at {ts : List PTree} {x : Nat} {t : PTree} (h : ts[x]? = some t) : keysOf ts (x : Int) = keys t := by
  unfold keysOf
  rw [Int.toNat_natCast, List.getD_eq_getElem?_getD, h]; rfl
theorem part_range (N : Nat) (R : Int → List Int) (x : Int) : ((List.range N).filter fun i : Nat => scB R x (i : Int)).map (fun i : Nat => V.int (0 + (i : Int))) = (partOf N R x).map V.int := by
  unfold partOf places
  rw [List.filter_map, List.map_map]
  refine List.map_congr_left fun i _ => ?_
  show V.int (0 + (i : Int)) = V.int (i : Int)
  rw [Int.zero_add]
theorem paired_map2 {γ : Type} {H : Hp} {f : γ → Addr} {g : γ → List Int} : ∀ {L : List γ}, (∀ i ∈ L, H (f i) = some (.lst ((g i).map V.int))) → Paired (fun q p => H q = some (.lst (p.map V.int))) (L.map f) (L.map g)
  | [], _ => .nil
  | i :: L, h => .cons (h i List.mem_cons_self) (paired_map2 fun j hj => h j (List.mem_cons_of_mem _ hj))
theorem once_range (n : Nat) (R : Int → List Int) : once n R = ((List.range n).filter fun i : Nat => least n R (i : Int)).map fun i : Nat => partOf n R (i : Int) := by
  unfold once
  rw [show (places n).filter (least n R) = ((List.range n).map fun k : Nat => (k : Int)).filter (least n R) from rfl, List.filter_map, List.map_map]
  rfl
noncomputable def rcl (n : Nat) (ps : Lanes) (x : Int) : List Int := (places n).filter fun y => @decide (Rch ps x y) (Classical.propDecidable _)
theorem rcl_ok {n : Nat} {ps : Lanes} (hin : InR n ps) : RK n ps (rcl n ps) := fun x h0 h1 => by
  unfold rcl
  refine ⟨(places_nd n).sublist List.filter_sublist, fun y => ?_⟩
  rw [List.mem_filter, mem_places]
  constructor
  · intro h
    exact @of_decide_eq_true _ (Classical.propDecidable _) h.2
  · intro h
    exact ⟨rch_range ⟨h0, h1⟩ hin h, @decide_eq_true _ (Classical.propDecidable _) h⟩
theorem rk_len {n : Nat} {ps : Lanes} {R R' : Int → List Int} (h : RK n ps R) (h' : RK n ps R') {x : Int} (h0 : 0 ≤ x) (h1 : x < n) : (R x).length = (R' x).length :=
  Nat.le_antisymm (length_le_of_subset (h x h0 h1).1 fun y hy => ((h' x h0 h1).2 y).mpr (((h x h0 h1).2 y).mp hy)) (length_le_of_subset (h' x h0 h1).1 fun y hy => ((h x h0 h1).2 y).mpr (((h' x h0 h1).2 y).mp hy))
theorem part_same {n : Nat} {ps : Lanes} {R R' : Int → List Int} (h : RK n ps R) (h' : RK n ps R') {x : Int} (h0 : 0 ≤ x) (h1 : x < n) : partOf n R x = partOf n R' x := by
  unfold partOf
  refine List.filter_congr fun y hy => ?_
  have hy' := mem_places.mp hy
  unfold scB
  rw [decide_eq_decide.mpr (((h x h0 h1).2 y).trans ((h' x h0 h1).2 y).symm), decide_eq_decide.mpr (((h y hy'.1 hy'.2).2 x).trans ((h' y hy'.1 hy'.2).2 x).symm)]
theorem once_same {n : Nat} {ps : Lanes} {R R' : Int → List Int} (h : RK n ps R) (h' : RK n ps R') : once n R = once n R' := by
  unfold once
  have e : (places n).filter (least n R) = (places n).filter (least n R') := List.filter_congr fun x hx => by
    have hx' := mem_places.mp hx
    unfold least
    rw [part_same h h' hx'.1 hx'.2]
  rw [e]
  refine List.map_congr_left fun x hx => ?_
  have hx' := mem_places.mp (List.mem_filter.mp hx).1
  exact part_same h h' hx'.1 hx'.2
def keyP (R : Int → List Int) (p : List Int) : Int := (((R (p.headD 0)).length : Nat) : Int)
noncomputable def partsC (n : Nat) (ps : Lanes) : List (List Int) := sortBy [] true ((once n (rcl n ps)).map (keyP (rcl n ps))) (once n (rcl n ps))
theorem parts_one {n : Nat} {ps : Lanes} {R : Int → List Int} (hin : InR n ps) (h : RK n ps R) : sortBy [] true ((once n R).map (keyP R)) (once n R) = partsC n ps := by
  unfold partsC
  have h' := rcl_ok hin
  have e : (once n R).map (keyP R) = (once n R).map (keyP (rcl n ps)) := List.map_congr_left fun p hp => by
    obtain ⟨x, hx, _, hh⟩ := (mem_once h).mp hp
    unfold keyP
    have : p.headD 0 = x := by rw [List.headD_eq_head?_getD, hh]; rfl
    rw [this, rk_len h h' hx.1 hx.2]
  rw [e, once_same h h']
def spPartW : Sp := fun vs H Q _ => ∃ (rA : Addr) (ds : List Addr) (ts : List PTree) (x : Nat), vs = [.ref rA, .int (x : Int)] ∧ H rA = some (.lst (ds.map V.ref)) ∧ Paired (fun d t => H d = some (.dK (treeKV t))) ds ts ∧ ds.length < 64 ∧ x < ds.length ∧
  ∀ r H', Same H H' → H' r = some (.lst ((partOf ds.length (keysOf ts) (x : Int)).map V.int)) → Q (.ref r) H'
def spParts (T : Addr) : Sp := fun vs H Q _ => ∃ (n : Nat) (l : Addr) (ps : Lanes), vs = [.int (n : Int), .ref l] ∧ LanesAt H l ps ∧ ps.length ≤ 1000 ∧ InR n ps ∧ n < 64 ∧ TabAt H T lamP lamQ ∧
  ∀ r (qs : List Addr) (F : List (List Int)) H', SameT T H H' → TabAt H' T lamP lamQ → H' r = some (.lst (qs.map V.ref)) → Paired (fun q p => H' q = some (.lst (p.map V.int))) qs F → PartsOk n ps F → F = partsC n ps → Q (.ref r) H'
section
variable {P : Program} {w : World} {K : PySem.W.Frag} {mg : Str → Option Value} {base : Heap} {c T : Addr}
variable {fCheckL fReach fPartW fParts : Addr} {gCheckL gReach gPartW gParts : FuncData}
theorem ok_partw (d : DefAt K mg "part_with" sPartWith PPartWith fPartW gPartW) (z : Zs mg) : FnOk P w K mg base CX0 1 fPartW gPartW PPartWith spPartW := by
  refine d.F.ok scPartWith (fun vs H Q E h => ?_) (fun cdv A outer s H vs Q E hr h => ?_)
  · obtain ⟨rA, ds, ts, x, rfl, _⟩ := h
    rfl
  obtain ⟨rA, ds, ts, x, rfl, hR, hP, hn, hx, q⟩ := h
  have hu := hu_of hr
  have hml : (ds.map V.ref).length = ds.length := List.length_map _
  have hat : ∀ {i : Nat} {H2 : Hp}, Same H H2 → i < ds.length → ∃ (d : Addr) (t : PTree), atI (ds.map V.ref) (i : Int) = some (.ref d) ∧ H2 d = some (.dK (treeKV t)) ∧ keysOf ts (i : Int) = keys t := fun {i H2} s2 hi => by
    obtain ⟨t, ht, hd⟩ := paired_at hP (List.getElem?_eq_getElem hi)
    exact ⟨_, t, atI_nat (by rw [List.getElem?_map, List.getElem?_eq_getElem hi]; rfl), s2 _ _ hd, keysOf_at ht⟩
  refine ⟨_, (pss_one (ps_ret (pe_lc csPartWith0 rfl (pi_range1 rfl z.range (pa_cons (pe_callB call_len_seq rfl z.len bt_len (pa_cons (pv 0) pa_nil)) pa_nil)) (fun _ _ _ _ => pcs_one (PW.pt (pw_and (pt_cmp (pc_din hu (pv 0) (pe_ix (ix_listK (K := K) rfl) (pv 2) (pv 1) (fun _ _ => rfl)))) (pw_and1 (pt_cmp (pc_din hu (pv 1) (pe_ix (ix_listK (K := K) rfl) (pv 2) (pv 0) (fun _ _ => rfl)))))))) (fun _ _ _ _ => (pv 0))))), ?_⟩
  refine ⟨_, rfl, rA, _, rfl, .inl (SqL.of hR), _, rfl, (by omega), (by rw [hml]; omega), lc_rsame (n := ((((ds.map V.ref).length : Nat) : Int)).toNat) (fun i : Nat => scB (keysOf ts) (x : Int) (i : Int)) (fun i : Nat => V.int (0 + (i : Int))) (by omega) (fun i hi H2 s2 R hRr => ?_) (fun i hi _ H2 s2 R hRr => ⟨_, rfl, hRr H2 (Same.refl _)⟩) (fun H2 p s2 hp => ?_)⟩
  · have hi' : i < ds.length := by rw [hml] at hi; omega
    obtain ⟨d1, t1, a1, h1, k1⟩ := hat s2 hx
    obtain ⟨d2, t2, a2, h2, k2⟩ := hat s2 hi'
    rw [Int.zero_add]
    have h3 := hRr H2 (Same.refl _)
    unfold scB at h3
    rw [k1, k2] at h3
    refine ⟨_, rfl, _, rfl, _, rfl, rA, _, _, V.ref d1, rfl, rfl, SqL.of (s2 _ _ hR), a1, d1, _, rfl, DGet.k (k := Sum.inl (i : Int)) h1, _, rfl, ?_⟩
    rw [val_tree_some]
    by_cases c1 : (i : Int) ∈ keys t1
    · rw [decide_eq_true c1] at h3 ⊢
      refine iteT ⟨_, rfl, _, rfl, _, rfl, rA, _, _, V.ref d2, rfl, rfl, SqL.of (s2 _ _ hR), a2, d2, _, rfl, DGet.k (k := Sum.inl (x : Int)) h2, _, rfl, ?_⟩
      rw [val_tree_some]
      exact h3
    · rw [decide_eq_false c1] at h3 ⊢
      exact iteF h3
  · have eN : ((((ds.map V.ref).length : Nat) : Int)).toNat = ds.length := by rw [hml]; omega
    rw [eN, part_range]
    exact q p _ (s2.trans (same_new hp _)) upd_same
set_option maxHeartbeats 0 in
theorem ok_parts (Fc : FunC K "parts" "parts" sParts fParts gParts c) (hC : PySem.W.CodeHd base c T) (hB : base.BuiltinsAt mg T) (z : Zs mg) (dCheckLanes : DefAt K mg "check_lanes" sCheckLanes PCheckLanes fCheckL gCheckL) (GCheckLanes : FnOk P w K mg base CX0 3 fCheckL gCheckL PCheckLanes spCheckL)
    (dReach : DefAt K mg "reach" sReach PReach fReach gReach) (GReach : FnOk P w K mg base CX0 2 fReach gReach PReach spReach) (dPartWith : DefAt K mg "part_with" sPartWith PPartWith fPartW gPartW) (GPartWith : FnOk P w K mg base CX0 1 fPartW gPartW PPartWith spPartW) :
    FnOk P w K mg base CX0 4 fParts gParts PParts (spParts T) := by
  refine Fc.ok (k := 3) scParts (fun vs H Q E h => ?_) (fun A outer s H vs Q E hr h => ?_)
  · obtain ⟨n, l, ps, rfl, _⟩ := h
    rfl
  obtain ⟨n, l, ps, rfl, hL, hlen, hin, hn, hT, q⟩ := h
  refine ⟨_, (pss_cons (ps_expr (pe_call GCheckLanes (hr.mono (by decide)) rfl dCheckLanes.m dCheckLanes.F.kp dCheckLanes.b .nil pass0 (pa_cons (pv 0) (pa_cons (pv 1) pa_nil))))
      (pss_cons (ps_set (i := 2) scParts.nd rfl (by first | exact Or.inl rfl | exact Or.inr rfl) (pe_lc csParts2 rfl (pi_range1 rfl z.range (pa_cons (pv 0) pa_nil)) (fun _ _ _ _ => pcs_nil) (fun _ _ _ _ => (pe_call GReach (hr.mono (by decide)) rfl dReach.m dReach.F.kp dReach.b .nil pass0 (pa_cons (pv 1) (pa_cons (pv 0) pa_nil))))))
      (pss_cons (ps_set (i := 3) scParts.nd rfl (by first | exact Or.inl rfl | exact Or.inr rfl) (pe_lc csParts1 rfl (pi_range1 rfl z.range (pa_cons (pv 0) pa_nil)) (fun _ _ _ _ => pcs_nil) (fun _ _ _ _ => (pe_call GPartWith (hr.mono (by decide)) rfl dPartWith.m dPartWith.F.kp dPartWith.b .nil pass0 (pa_cons (pv 1) (pa_cons (pv 0) pa_nil))))))
      (pss_cons (ps_setlc (i := 4) scParts.nd rfl (Or.inl rfl) csParts0 rfl (pi_range1 rfl z.range (pa_cons (pv 0) pa_nil)) (fun _ _ _ _ => pcs_one (pt_cmpR op_eq (pe_ix (ix_listK (K := K) rfl) (pe_ix (ix_listK (K := K) rfl) (pv 1) (pv 0) (fun _ _ => rfl)) pe_int (fun _ _ => rfl)) (pv 0) (nomark _))) (fun _ _ _ _ => (pe_ix (ix_listK (K := K) rfl) (pv 1) (pv 0) (fun _ _ => rfl))))
      (pss_one (ps_ret (pe_sortheadDK (K := K) (Q0 := lamQ) (j := 2) rfl rfl rfl z.sorted z.len (pv 4) lsParts0 (lam_freeD (y := "reached") (by decide +kernel) rfl) rfl rfl hC hB hr.depth rfl (fun _ _ _ _ _ _ => rfl)))))))), ?_⟩
  refine ⟨_, rfl, _, rfl, (n : Int), l, ps, rfl, hL, hin, fun H1 s1 => ?_⟩
  have eN : (n : Int).toNat = n := by omega
  -- reached
  refine ⟨_, rfl, (n : Int), rfl, by omega, by omega, lc_robjs (n := (n : Int).toNat) (fun H b (i : Nat) => ∃ t, H b = some (.dK (treeKV t)) ∧ (Reach ps (i : Int) t ∧ Done ps t t.length)) (fun H1 H2 b x s ⟨t, h1, h2⟩ => ⟨t, s _ _ h1, h2⟩) (by omega) (fun i hi H2 s2 R hRr => ?_) (fun H2 rA bs s2 hrA hbs => ?_)⟩
  · refine ⟨_, rfl, _, rfl, l, ps, (n : Int), (0 + (i : Int)), rfl, (hL.mono s1).mono s2, hlen, hin, by omega, by omega, fun dd t H3 s3 _ hd R' D => hRr dd H3 s3 ⟨t, hd, ?_, D⟩⟩
    rw [Int.zero_add] at R'
    exact R'
  obtain ⟨ts, hP, hG⟩ := paired_choose hbs
  rw [eN] at hG
  have sr := same_new hrA (.lst (bs.map V.ref))
  have s02 := s1.trans (s2.trans sr)
  have hbl : bs.length = n := by rw [Paired.len hbs, List.length_range]; omega
  have hP2 := Paired.mapP hP fun _ _ e => sr _ _ e
  have hr2 : (upd H2 rA (.lst (bs.map V.ref))) rA = some (.lst (bs.map V.ref)) := upd_same
  generalize upd H2 rA (.lst (bs.map V.ref)) = H3 at s02 hP2 hr2 ⊢
  have hts : ∀ (x : Nat), x < n → ∃ t, ts[x]? = some t ∧ Reach ps (x : Int) t ∧ Done ps t t.length := fun x hx => by
    obtain ⟨t, h1, h2⟩ := paired_at hG (i := x) (a := x) (List.getElem?_range hx)
    exact ⟨t, h1, h2⟩
  have hRK : RK n ps (keysOf ts) := fun x h0 h1 => by
    obtain ⟨xn, hxn⟩ : ∃ xn : Nat, x = (xn : Int) := ⟨x.toNat, by omega⟩
    obtain ⟨t, ht, hR, hD⟩ := hts xn (by omega)
    subst hxn
    rw [keysOf_at ht]
    exact ⟨hR.nd, fun y => (tree_all hR hD)⟩
  -- around_each
  refine ⟨_, rfl, (n : Int), rfl, by omega, by omega, lc_robjs (n := (n : Int).toNat) (fun H b (i : Nat) => H b = some (.lst ((partOf n (keysOf ts) (i : Int)).map V.int))) (fun H1 H2 b x s h => s _ _ h) (by omega) (fun i hi H4 s4 R hRr => ?_) (fun H4 aA as s4 haA has => ?_)⟩
  · refine ⟨_, rfl, _, rfl, rA, bs, ts, i, by rw [Int.zero_add]; rfl, s4 _ _ hr2, Paired.mapP hP2 fun _ _ e => s4 _ _ e, by omega, by omega, fun r H5 s5 h5 => hRr r H5 s5 ?_⟩
    rw [hbl] at h5
    exact h5
  rw [eN] at has
  have sa := same_new haA (.lst (as.map V.ref))
  have s35 := s4.trans sa
  have s05 := s02.trans s35
  have has5 := Paired.mapP has fun _ _ e => sa _ _ e
  have haA5 : (upd H4 aA (.lst (as.map V.ref))) aA = some (.lst (as.map V.ref)) := upd_same
  have hr5 := s35 _ _ hr2
  have hP5 := Paired.mapP hP2 fun _ _ e => s35 _ _ e
  have hal : as.length = n := by rw [Paired.len has, List.length_range]
  generalize upd H4 aA (.lst (as.map V.ref)) = H5 at s05 has5 haA5 hr5 hP5 ⊢
  have hpart : ∀ {i : Nat} {H6 : Hp}, Same H5 H6 → i < n → atI (as.map V.ref) (i : Int) = some (.ref (as.getD i 0)) ∧ H6 (as.getD i 0) = some (.lst ((partOf n (keysOf ts) (i : Int)).map V.int)) := fun {i H6} s6 hi => by
    have hi' : i < as.length := by omega
    obtain ⟨j, hj, hb⟩ := paired_at has5 (List.getElem?_eq_getElem hi')
    rw [List.getElem?_range hi] at hj
    cases hj
    have e : as.getD i 0 = as[i] := by rw [List.getD_eq_getElem?_getD, List.getElem?_eq_getElem hi']; rfl
    rw [e]
    exact ⟨atI_nat (by rw [List.getElem?_map, List.getElem?_eq_getElem hi']; rfl), s6 _ _ hb⟩
  -- each_once
  refine ⟨_, rfl, (n : Int), rfl, by omega, by omega, lc_rsame (n := (n : Int).toNat) (fun i : Nat => least n (keysOf ts) (i : Int)) (fun i : Nat => V.ref (as.getD i 0)) (by omega) (fun i hi H6 s6 R hRr => ?_) (fun i hi _ H6 s6 R hRr => ?_) (fun H6 eA s6 heA => ?_)⟩
  · have hi' : i < n := by omega
    obtain ⟨a1, h1⟩ := hpart s6 hi'
    rw [Int.zero_add]
    obtain ⟨y, hy, _⟩ := part_head hRK (x := (i : Int)) (by omega)
    have h3 := hRr H6 (Same.refl _)
    refine ⟨_, rfl, _, rfl, aA, _, _, V.ref (as.getD i 0), rfl, rfl, SqL.of (s6 _ _ haA5), a1, _, _, _, V.int y, rfl, rfl, SqL.of h1, atI_nat (j := 0) (by rw [List.getElem?_map, ← List.head?_eq_getElem?, hy]; rfl), _, rfl, rfl, _, rfl, ?_⟩
    unfold least at h3
    rw [hy] at h3
    by_cases cy : y = (i : Int)
    · rw [decide_eq_true (congrArg V.int cy)]
      rw [decide_eq_true (congrArg some cy)] at h3
      exact h3
    · rw [decide_eq_false fun e => cy (V.int.inj e)]
      rw [decide_eq_false fun e => cy (Option.some.inj e)] at h3
      exact h3
  · have hi' : i < n := by omega
    obtain ⟨a1, h1⟩ := hpart s6 hi'
    rw [Int.zero_add]
    exact ⟨_, rfl, _, rfl, aA, _, _, V.ref (as.getD i 0), rfl, rfl, SqL.of (s6 _ _ haA5), a1, hRr H6 (Same.refl _)⟩
  rw [eN]
  have hLmem : ∀ x ∈ (List.range n).filter (fun i : Nat => least n (keysOf ts) (i : Int)), x < n ∧ (partOf n (keysOf ts) (x : Int)).head? = some (x : Int) := fun x hx => by
    obtain ⟨h1, h2⟩ := List.mem_filter.mp hx
    unfold least at h2
    exact ⟨List.mem_range.mp h1, of_decide_eq_true h2⟩
  have hLlen : ((List.range n).filter (fun i : Nat => least n (keysOf ts) (i : Int))).length ≤ n := by
    have := List.length_filter_le (fun i : Nat => least n (keysOf ts) (i : Int)) (List.range n)
    rwa [List.length_range] at this
  have honce := once_range n (keysOf ts)
  generalize (List.range n).filter (fun i : Nat => least n (keysOf ts) (i : Int)) = L at hLmem hLlen honce heA ⊢
  have se := same_new heA (.lst (L.map fun i : Nat => V.ref (as.getD i 0)))
  have s57 := s6.trans se
  have hT7 : TabAt (upd H6 eA (.lst (L.map fun i : Nat => V.ref (as.getD i 0)))) T lamP lamQ := hT.same (s05.trans s57)
  have heE : (upd H6 eA (.lst (L.map fun i : Nat => V.ref (as.getD i 0)))) eA = some (.lst ((L.map fun i : Nat => as.getD i 0).map V.ref)) := by rw [upd_same, List.map_map]; rfl
  generalize upd H6 eA (.lst (L.map fun i : Nat => V.ref (as.getD i 0))) = H7 at s57 hT7 heE ⊢
  have sH := s05.trans s57
  refine ⟨_, rfl, eA, rA, L.map (fun i : Nat => as.getD i 0), L.map (fun i : Nat => (((keysOf ts (i : Int)).length : Nat) : Int)), rfl, SqL.of heE, by rw [List.length_map]; omega, rfl, by rw [List.length_map, List.length_map], fun i a k ha hk => ?_, hT7, fun as' H8 D sT hT8 hby hD => ?_⟩
  · rw [List.getElem?_map] at ha hk
    cases e : L[i]? with
    | none => rw [e] at ha; cases ha
    | some x =>
      rw [e] at ha hk
      have ea : as.getD x 0 = a := Option.some.inj ha
      have ek : (((keysOf ts (x : Int)).length : Nat) : Int) = k := Option.some.inj hk
      obtain ⟨hx, hh⟩ := hLmem x (List.mem_of_getElem? e)
      obtain ⟨_, hpx⟩ := hpart s57 hx
      obtain ⟨t, ht, hbt⟩ := paired_at hP5 (List.getElem?_eq_getElem (show x < bs.length by omega))
      rw [keysOf_at ht] at ek
      refine ⟨partOf n (keysOf ts) (x : Int), (x : Int), bs.map V.ref, bs[x]'(by omega), treeKV t, by rw [← ea]; exact SqL.of hpx, by rw [← List.head?_eq_getElem?]; exact hh, by omega, SqL.of (s57 _ _ hr5), by rw [Int.toNat_natCast, List.getElem?_map, List.getElem?_eq_getElem (show x < bs.length by omega)]; rfl, s57 _ _ hbt, ?_⟩
      rw [← ek, treeKV_len]
      exact congrArg _ (List.length_map _)
  · have hkl : (L.map (fun i : Nat => (((keysOf ts (i : Int)).length : Nat) : Int))).length = L.length := List.length_map _
    have hperm : (sortBy 0 true (L.map (fun i : Nat => (((keysOf ts (i : Int)).length : Nat) : Int))) L).Perm L := sortBy_perm hkl
    have hfall := sortBy_falls (d := 0) (key := fun i : Nat => (((keysOf ts (i : Int)).length : Nat) : Int)) (vs := L)
    have eas : as' = (sortBy 0 true (L.map (fun i : Nat => (((keysOf ts (i : Int)).length : Nat) : Int))) L).map fun i : Nat => as.getD i 0 := by rw [hby]; exact sortBy_map _ hkl
    have eF : (sortBy 0 true (L.map (fun i : Nat => (((keysOf ts (i : Int)).length : Nat) : Int))) L).map (fun i : Nat => partOf n (keysOf ts) (i : Int)) = partsC n ps := by
      rw [← sortBy_map (d' := []) _ hkl, ← parts_one hin hRK, honce]
      have ek : L.map (fun i : Nat => (((keysOf ts (i : Int)).length : Nat) : Int)) = (L.map fun i : Nat => partOf n (keysOf ts) (i : Int)).map (keyP (keysOf ts)) := by
        rw [List.map_map]
        refine List.map_congr_left fun x hx => ?_
        show _ = keyP (keysOf ts) (partOf n (keysOf ts) (x : Int))
        unfold keyP
        rw [List.headD_eq_head?_getD, (hLmem x hx).2]; rfl
      rw [ek]
    generalize sortBy 0 true (L.map (fun i : Nat => (((keysOf ts (i : Int)).length : Nat) : Int))) L = L' at hperm hfall eas eF
    have hDn : ∀ {q : Addr} {xs : List V}, H7 q = some (.lst xs) → (upd H8 D (.lst (as'.map V.ref))) q = some (.lst xs) := fun {q xs} h => by
      have h8 : H8 q = some (.lst xs) := sT q _ (fun y => by
        obtain ⟨tp, h1, _⟩ := hT7
        rw [y, h1] at h; cases h) h
      rw [upd_ne (ne_of_none h8 hD)]; exact h8
    have hup : ∀ q u, H8 q = some u → (upd H8 D (.lst (as'.map V.ref))) q = some u := fun q u h => by rw [upd_ne (ne_of_none h hD)]; exact h
    refine q D as' (L'.map fun i : Nat => partOf n (keysOf ts) (i : Int)) _ (fun b u nb h => hup _ _ (sT b u nb (sH _ _ h))) (hT8.same hup) upd_same ?_ ?_ eF
    · rw [eas]
      refine paired_map2 fun i hi => ?_
      have hi' := hLmem i (hperm.mem_iff.mp hi)
      rw [← eas]
      exact hDn (hpart s57 hi'.1).2
    · refine parts_ok hRK hin ?_ ?_
      · rw [honce]
        exact hperm.map _
      · rw [List.pairwise_map]
        refine (List.Pairwise.and_mem.mp hfall).imp fun {a b} ⟨ha, hb, hab⟩ x y hx hy => ?_
        have ha' := (hLmem a (hperm.mem_iff.mp ha)).2
        have hb' := (hLmem b (hperm.mem_iff.mp hb)).2
        rw [ha'] at hx
        rw [hb'] at hy
        have ex := Option.some.inj hx
        have ey := Option.some.inj hy
        rw [← ex, ← ey]
        have : (((keysOf ts (b : Int)).length : Nat) : Int) ≤ (((keysOf ts (a : Int)).length : Nat) : Int) := hab
        omega
end
def spAllR : Sp := fun vs H Q _ => ∃ (p l : Addr) (part : List Int) (n : Int) (ps : Lanes), vs = [.ref p, .ref l] ∧ H p = some (.lst (part.map V.int)) ∧ part ≠ [] ∧ part.length ≤ 64 ∧ LanesAt H l ps ∧ ps.length ≤ 1000 ∧ InR n ps ∧ n ≤ 64 ∧ (∀ x ∈ part, 0 ≤ x ∧ x < n) ∧ (∀ x ∈ part, ∀ y ∈ part, Rch ps x y) ∧ ∀ H', Same H H' → Q (.bl true) H'
def numKV (L : List (Int × Int)) : List (Key × V) := L.map fun q => (Sum.inl q.1, V.int q.2)
theorem numKV_len (L : List (Int × Int)) : (numKV L).length = L.length := List.length_map _
theorem val_num_none {L : List (Int × Int)} {x : Int} (h : x ∉ L.map (·.1)) : valV (numKV L) (Sum.inl x : Key) = none := by
  induction L with
  | nil => rfl
  | cons q r ih =>
    unfold valV numKV at ih ⊢
    rw [List.map_cons, List.find?_cons]
    have e : ¬ (Sum.inl q.1 : Key) = Sum.inl x := fun y => h (by rw [← Sum.inl.inj y]; exact List.mem_cons_self)
    rw [decide_eq_false e]
    exact ih fun m => h (List.mem_cons_of_mem _ m)
theorem val_num {L : List (Int × Int)} {x k : Int} (nd : (L.map (·.1)).Nodup) (h : (x, k) ∈ L) : valV (numKV L) (Sum.inl x : Key) = some (.int k) := by
  induction L with
  | nil => cases h
  | cons q r ih =>
    rw [List.map_cons] at nd
    obtain ⟨n1, n2⟩ := List.nodup_cons.mp nd
    unfold valV numKV at ih ⊢
    rw [List.map_cons, List.find?_cons]
    rcases List.mem_cons.mp h with e | m
    · subst e
      rw [decide_eq_true rfl]; rfl
    · have e : ¬ (Sum.inl q.1 : Key) = Sum.inl x := fun y => n1 (by rw [Sum.inl.inj y]; exact List.mem_map.mpr ⟨(x, k), m, rfl⟩)
      rw [decide_eq_false e]
      exact ih n2 m
theorem put_num {L : List (Int × Int)} {x k : Int} (h : x ∉ L.map (·.1)) : putK (numKV L) (Sum.inl x : Key) (.int k) = numKV (L ++ [(x, k)]) := by
  rw [putK_new _ (val_num_none h)]
  unfold numKV
  rw [List.map_append]; rfl
def spHold : Sp := fun vs H Q _ => ∃ (f l : Addr) (qs : List Addr) (F : List (List Int)) (n : Nat) (ps : Lanes), vs = [.ref f, .int (n : Int), .ref l] ∧ H f = some (.lst (qs.map V.ref)) ∧ Paired (fun q p => H q = some (.lst (p.map V.int))) qs F ∧ PartsOk n ps F ∧ LanesAt H l ps ∧ ps.length ≤ 1000 ∧ InR n ps ∧ n < 64 ∧ ∀ H', Same H H' → Q (.bl true) H'
section
variable {P : Program} {w : World} {K : PySem.W.Frag} {mg : Str → Option Value} {base : Heap}
variable {fLReach fAllR fWholeRow fHold : Addr} {gLReach gAllR gWholeRow gHold : FuncData}
theorem ok_allr (d : DefAt K mg "_law_all_reach" sLAllReach PLAllReach fAllR gAllR) (z : Zs mg) (dLReach : DefAt K mg "_law_reach" sLReach PLReach fLReach gLReach) (GLReach : FnOk P w K mg base CX0 1 fLReach gLReach PLReach spLReach) : FnOk P w K mg base CX0 2 fAllR gAllR PLAllReach spAllR := by
  refine d.F.ok scLAllReach (fun vs H Q E h => ?_) (fun cdv A outer s H vs Q E hr h => ?_)
  · obtain ⟨p, l, part, n, ps, rfl, _⟩ := h
    rfl
  obtain ⟨p, l, part, n, ps, rfl, hp, hne, hpl, ⟨as, hl, hps⟩, hlen, hin, hn, hrg, hsc, q⟩ := h
  have hu := hu_of hr
  have hml : (as.map V.ref).length = ps.length := by rw [List.length_map]; exact Paired.len hps
  refine ⟨_, (pss_cons (ps_setlc (i := 2) scLAllReach.nd rfl (Or.inl rfl) csLAllReach0 rfl (pi_list (pv 1)) (fun _ _ _ _ => pcs_nil) (fun _ _ _ _ => (pe_tup (pa_cons (pe_ix (ix_tupK (K := K) rfl) (pv 0) pe_int (fun _ _ => rfl)) (pa_cons (pe_ix (ix_tupK (K := K) rfl) (pv 0) pe_int (fun _ _ => rfl)) pa_nil)))))
      (pss_cons (ps_set (i := 3) scLAllReach.nd rfl (by first | exact Or.inl rfl | exact Or.inr rfl) (pe_call GLReach (hr.mono (by decide)) rfl dLReach.m dLReach.F.kp dLReach.b .nil pass0 (pa_cons (pv 1) (pa_cons (pe_ix ix_list (pv 0) pe_int (fun _ _ => rfl)) pa_nil))))
      (pss_cons (ps_set (i := 4) scLAllReach.nd rfl (by first | exact Or.inl rfl | exact Or.inr rfl) (pe_call GLReach (hr.mono (by decide)) rfl dLReach.m dLReach.F.kp dLReach.b .nil pass0 (pa_cons (pv 2) (pa_cons (pe_ix ix_list (pv 0) pe_int (fun _ _ => rfl)) pa_nil))))
      (pss_cons (ps_for PassesOwn.never rfl (pi_list (pv 0)) (pg_name (i := 5) scLAllReach.nd rfl (by first | exact Or.inl rfl | exact Or.inr rfl)) (pss_one (ps_if (PW.pt (pw_or (pt_cmp (pc_dnotin hu (pv 5) (pv 3))) (pw_or1 (pt_cmp (pc_dnotin hu (pv 5) (pv 4)))))) (pss_one (ps_ret pe_bl)) pss_nil)))
      (pss_one (ps_ret pe_bl)))))), ?_⟩
  obtain ⟨x0, rest, rfl⟩ : ∃ x0 rest, part = x0 :: rest := by
    cases part with
    | nil => exact absurd rfl hne
    | cons a r => exact ⟨a, r, rfl⟩
  have hx0 := hrg x0 List.mem_cons_self
  refine ⟨_, rfl, l, rfl, ⟨_, SqL.of hl⟩, lc_list (K := K) (a := l) (xs := as.map V.ref) (fun i ys H2 => ∃ bs : List Addr, ys = bs.map V.ref ∧ Same H H2 ∧ Paired (fun a p => H2 a = some (.tup (pr p))) bs ((ps.take i).map swap)) ⟨[], rfl, Same.refl _, .nil⟩ (fun i ys H2 hi ⟨bs, e, s2, hb⟩ => ?_) (by rw [hml]; exact small hlen) (fun i x ys H2 hx ⟨bs, e, s2, hb⟩ => ?_) (fun ys H2 ⟨bs, e, s2, hb⟩ bk hbk => ?_)⟩
  · subst e
    refine ⟨SqL.of (s2 _ _ hl), ?_⟩
    have := Paired.len hb
    rw [List.length_map, List.length_take] at this
    rw [List.length_map]; omega
  · subst e
    obtain ⟨a, pq, rfl, hpi, ha⟩ := lane_at hps hx
    refine yes_of (iteT ⟨_, rfl, a, _, _, _, rfl, rfl, SqT.of (s2 _ _ ha), rfl, _, rfl, a, _, _, _, rfl, rfl, SqT.of (s2 _ _ ha), rfl, (by show 2 ≤ sizeLine; decide), fun b hbn => ⟨bs ++ [b], by rw [List.map_append]; rfl, s2.trans (same_new hbn _), ?_⟩⟩)
    rw [take_succ_get hpi, List.map_append]
    exact Paired.snoc (Paired.mapP hb fun c r e => same_new hbn _ _ _ e) upd_same
  subst e
  rw [hml, List.take_length] at hb
  have s3 := s2.trans (same_new hbk (.lst (bs.map V.ref)))
  have hBk : LanesAt (upd H2 bk (.lst (bs.map V.ref))) bk (ps.map swap) := ⟨bs, upd_same, Paired.mapP hb fun _ _ e => same_new hbk _ _ _ e⟩
  generalize upd H2 bk (.lst (bs.map V.ref)) = H3 at s3 hBk ⊢
  have hL3 : LanesAt H3 l ps := ⟨as, s3 _ _ hl, Paired.mapP hps fun _ _ e => s3 _ _ e⟩
  have hin2 : InR n (ps.map swap) := fun y hy => by
    obtain ⟨y0, hy0, rfl⟩ := List.mem_map.mp hy
    exact ⟨(hin y0 hy0).2, (hin y0 hy0).1⟩
  refine ⟨_, rfl, _, rfl, p, _, _, V.int x0, rfl, rfl, SqL.of (s3 _ _ hp), atI_nat (j := 0) rfl, l, ps, n, x0, rfl, hL3, hlen, hin, hx0, by omega, fun d1 k1 H4 s4 hd1 RS1 _ _ => ?_⟩
  refine ⟨_, rfl, _, rfl, p, _, _, V.int x0, rfl, rfl, SqL.of (s4 _ _ (s3 _ _ hp)), atI_nat (j := 0) rfl, bk, ps.map swap, n, x0, rfl, hBk.mono s4, by rw [List.length_map]; exact hlen, hin2, hx0, by omega, fun d2 k2 H5 s5 hd2 RS2 _ _ => ?_⟩
  have s35 := s3.trans (s4.trans s5)
  have hp5 := s35 _ _ hp
  have hd15 := s5 _ _ hd1
  refine ⟨_, rfl, p, rfl, ⟨_, SqL.of hp5⟩, for_list (K := K) (a := p) (xs := (x0 :: rest).map V.int) (fun i σ H6 => ∃ v, σ = [some (.ref p), some (.ref l), some (.ref bk), some (.ref d1), some (.ref d2), v] ∧ H6 = H5) ⟨none, rfl, rfl⟩ (fun i σ H6 _ ⟨_, _, e⟩ => by rw [e]; exact SqL.of hp5) ?_ ?_⟩
  · rintro i y σ H6 hi ⟨v, rfl, rfl⟩
    obtain ⟨x, rfl, hx⟩ := int_of hi
    have hxm := List.mem_of_getElem? hx
    refine ⟨_, rfl, _, rfl, d1, _, rfl, DGet.k (k := Sum.inl x) hd15, _, rfl, ?_⟩
    rw [val_true, decide_eq_true (RS1.all (hsc x0 List.mem_cons_self x hxm))]
    refine iteF ⟨_, rfl, _, rfl, d2, _, rfl, DGet.k (k := Sum.inl x) hd2, _, rfl, ?_⟩
    rw [val_true, decide_eq_true (RS2.all (rch_swap' (hsc x hxm x0 List.mem_cons_self)))]
    exact iteF ⟨_, rfl, rfl⟩
  · rintro σ H6 ⟨v, rfl, rfl⟩
    exact q _ s35
set_option maxHeartbeats 0 in
theorem ok_hold (d : DefAt K mg "_law_parts_hold" sLPartsHold PLPartsHold fHold gHold) (z : Zs mg) (dLWholeRow : DefAt K mg "_law_whole_row" sLWholeRow PLWholeRow fWholeRow gWholeRow) (GLWholeRow : FnOk P w K mg base CX0 2 fWholeRow gWholeRow PLWholeRow spWholeRow)
    (dLAllReach : DefAt K mg "_law_all_reach" sLAllReach PLAllReach fAllR gAllR) (GLAllReach : FnOk P w K mg base CX0 2 fAllR gAllR PLAllReach spAllR) : FnOk P w K mg base CX0 3 fHold gHold PLPartsHold spHold := by
  refine d.F.ok scLPartsHold (fun vs H Q E h => ?_) (fun cdv A outer s H vs Q E hr h => ?_)
  · obtain ⟨f, l, qs, F, n, ps, rfl, _⟩ := h
    rfl
  obtain ⟨f, l, qs, F, n, ps, rfl, hF, hP, O, hL, hlen, hin, hn, q⟩ := h
  have hu := hu_of hr
  have hu0 := Nat.lt_of_succ_lt hu
  have hfl := flat_len O
  have hml : (qs.map V.ref).length = F.length := by rw [List.length_map]; exact Paired.len hP
  have hplen : ∀ p ∈ F, p.length ≤ n := fun p hp => by
    rcases nodup_places (n := (n : Int)) (l := p) ((O.up p hp).imp fun {a b} h => by
      have : a < b := h
      intro e; omega) (fun x hx => O.rg p hp x hx) with y | y
    · omega
    · rw [y]; exact Nat.zero_le _
  have hFl : F.length ≤ n := by
    have : ∀ G : List (List Int), (∀ p ∈ G, p ≠ []) → G.length ≤ G.flatten.length := fun G => by
      induction G with
      | nil => exact fun _ => Nat.le_refl _
      | cons p G ih =>
        intro h
        have h1 := ih fun q hq => h q (List.mem_cons_of_mem _ hq)
        have h2 : 0 < p.length := List.length_pos_iff.mpr (h p List.mem_cons_self)
        rw [List.flatten_cons, List.length_append, List.length_cons]; omega
    have := this F O.ne
    omega
  refine ⟨_, (pss_cons (ps_if (pt_not (pt_val (pe_callB call_isi rfl z.isinstance bt_isinstance (pa_cons (pv 0) (pa_cons (pe_bltn (v := .ty "list") rfl z.list bt_list rfl) pa_nil))))) (pss_one (ps_ret pe_bl)) pss_nil)
      (pss_cons (ps_set (i := 3) scLPartsHold.nd rfl (by first | exact Or.inl rfl | exact Or.inr rfl) pe_dnewK)
      (pss_cons (ps_for PassesOwn.never rfl (pi_range1 rfl z.range (pa_cons (pe_callB call_len_seq rfl z.len bt_len (pa_cons (pv 0) pa_nil)) pa_nil)) (pg_name (i := 4) scLPartsHold.nd rfl (by first | exact Or.inl rfl | exact Or.inr rfl)) (pss_cons (ps_if (PW.pt (pw_or (pt_not (pt_val (pe_call GLWholeRow (hr.mono (by decide)) rfl dLWholeRow.m dLWholeRow.F.kp dLWholeRow.b .nil pass0 (pa_cons (pe_ix ix_list (pv 0) (pv 4) (fun _ _ => rfl)) pa_nil)))) (pw_or1 (pt_cmpR (op_eqL hu0) (pe_ix ix_list (pv 0) (pv 4) (fun _ _ => rfl)) (pe_lst pa_nil) (nomark _))))) (pss_one (ps_ret pe_bl)) pss_nil)
      (pss_cons (ps_if (pt_cmpR (op_neL hu0) (pe_ix ix_list (pv 0) (pv 4) (fun _ _ => rfl)) (pe_callB call_sorted_list rfl z.sorted bt_sorted (pa_cons (pe_ix ix_list (pv 0) (pv 4) (fun _ _ => rfl)) pa_nil)) (nomark _)) (pss_one (ps_ret pe_bl)) pss_nil)
      (pss_cons (ps_for PassesOwn.never rfl (pi_list (pe_ix ix_list (pv 0) (pv 4) (fun _ _ => rfl))) (pg_name (i := 6) scLPartsHold.nd rfl (by first | exact Or.inl rfl | exact Or.inr rfl)) (pss_cons (ps_if (PW.pt (pw_or (pt_cmpR op_lt (pv 6) pe_int (nomark _)) (pw_or (pt_cmpR op_ge (pv 6) (pv 1) (nomark _)) (pw_or1 (pt_cmp (pc_din hu (pv 6) (pv 3))))))) (pss_one (ps_ret pe_bl)) pss_nil)
      (pss_one (ps_dput hu (pv 3) (pv 6) (pv 4) rfl))))
      (pss_one (ps_if (PW.pt (pw_and (pt_cmpR op_gt (pe_callB call_len_seq rfl z.len bt_len (pa_cons (pe_ix ix_list (pv 0) (pv 4) (fun _ _ => rfl)) pa_nil)) pe_int (nomark _)) (pw_and1 (pt_not (pt_val (pe_call GLAllReach (hr.mono (by decide)) rfl dLAllReach.m dLAllReach.F.kp dLAllReach.b .nil pass0 (pa_cons (pe_ix ix_list (pv 0) (pv 4) (fun _ _ => rfl)) (pa_cons (pv 2) pa_nil)))))))) (pss_one (ps_ret pe_bl)) pss_nil))))))
      (pss_cons (ps_for PassesOwn.never rfl (pi_list (pv 2)) (pg_name (i := 5) scLPartsHold.nd rfl (by first | exact Or.inl rfl | exact Or.inr rfl)) (pss_cons (ps_if (PW.pt (pw_or (pt_cmp (pc_dnotin hu (pe_ix ix_tup (pv 5) pe_int (fun _ _ => rfl)) (pv 3))) (pw_or1 (pt_cmp (pc_dnotin hu (pe_ix ix_tup (pv 5) pe_int (fun _ _ => rfl)) (pv 3)))))) (pss_one (ps_ret pe_bl)) pss_nil)
      (pss_one (ps_if (pt_cmpR op_gt (pe_dget hu (pv 3) (pe_ix ix_tup (pv 5) pe_int (fun _ _ => rfl)) (fun _ _ => rfl)) (pe_dget hu (pv 3) (pe_ix ix_tup (pv 5) pe_int (fun _ _ => rfl)) (fun _ _ => rfl)) (nomark _)) (pss_one (ps_ret pe_bl)) pss_nil))))
      (pss_one (ps_ret (pe_cmpR op_eq (pe_callB call_lenD rfl z.len bt_len (pa_cons (pv 3) pa_nil)) (pv 1) (nomark _)))))))), ?_⟩
  refine ⟨_, rfl, _, _, _, _, rfl, .lst hF, kit_list_list, _, rfl, iteF ?_⟩
  intro dA hdA
  have sd := same_new hdA (.dK [])
  refine ⟨_, rfl, f, _, rfl, .inl (SqL.of (sd _ _ hF)), _, rfl, (by omega), (by rw [hml]; omega), for_range (n := ((((qs.map V.ref).length : Nat) : Int)).toNat) (fun i σ H2 => ∃ (v1 v2 v3 : Option V), σ = [some (.ref f), some (.int (n : Int)), some (.ref l), some (.ref dA), v1, v2, v3] ∧ Same H H2 ∧ H2 dA = some (.dK (numKV (numsFrom 0 (F.take i)))))
    ⟨none, none, none, rfl, sd, upd_same⟩ ?_ ?_⟩
  · rintro i σ H2 hi ⟨v1, v2, v3, rfl, s2, hD⟩
    rw [Int.zero_add]
    have hi' : i < F.length := by rw [hml] at hi; omega
    have hiq : i < qs.length := by have := Paired.len hP; omega
    obtain ⟨p, hp, hqp⟩ := paired_at hP (List.getElem?_eq_getElem hiq)
    have hpm := List.mem_of_getElem? hp
    have hpl := hplen p hpm
    have atq : atI (qs.map V.ref) (i : Int) = some (.ref qs[i]) := atI_nat (by rw [List.getElem?_map, List.getElem?_eq_getElem hiq]; rfl)
    have hF2 := s2 _ _ hF
    have hq2 := s2 _ _ hqp
    have hne := O.ne p hpm
    refine ⟨_, rfl, _, rfl, f, _, _, V.ref qs[i], rfl, rfl, SqL.of hF2, atq, qs[i], p, rfl, hq2, by omega, _, rfl, iteF ?_⟩
    refine ⟨_, rfl, _, rfl, f, _, _, V.ref qs[i], rfl, rfl, SqL.of hF2, atq, (by show 0 ≤ sizeLine; decide), fun e he => ?_⟩
    have se := same_new he (.lst [])
    refine ⟨qs[i], e, p, [], rfl, rfl, SqL.of (se _ _ hq2), SqL.of upd_same, _, rfl, ?_⟩
    rw [decide_eq_false hne]
    refine iteF ?_
    have s3 := s2.trans se
    have hF3 := s3 _ _ hF
    have hq3 := s3 _ _ hqp
    have hD3 := se _ _ hD
    generalize upd H2 e (.lst []) = H3 at s3 hF3 hq3 hD3 ⊢
    refine ⟨_, rfl, _, rfl, f, _, _, V.ref qs[i], rfl, rfl, SqL.of hF3, atq, _, rfl, _, rfl, f, _, _, V.ref qs[i], rfl, rfl, SqL.of hF3, atq, qs[i], p, rfl, SqL.of hq3, by omega, fun ns' hperm hsort l2 hl2 => ?_⟩
    have ens := asc_unique (O.up p hpm) hperm hsort
    subst ens
    have sl := same_new hl2 (.lst (ns'.map V.int))
    refine ⟨qs[i], l2, ns', ns', rfl, rfl, SqL.of (sl _ _ hq3), SqL.of upd_same, _, rfl, ?_⟩
    rw [decide_eq_true rfl]
    refine iteF ?_
    have s4 := s3.trans sl
    have hF4 := s4 _ _ hF
    have hq4 := s4 _ _ hqp
    have hD4 := sl _ _ hD3
    generalize upd H3 l2 (.lst (ns'.map V.int)) = H4 at s4 hF4 hq4 hD4 ⊢
    have htk : F.take (i + 1) = F.take i ++ [ns'] := take_succ_get hp
    have hti : (F.take i).length = i := by rw [List.length_take]; omega
    have hnums : numsFrom 0 (F.take (i + 1)) = numsFrom 0 (F.take i) ++ ns'.map (fun x => (x, (i : Int))) := by rw [htk, nums_snoc, hti, Nat.zero_add]
    have hndk : ((numsFrom 0 (F.take (i + 1))).map (·.1)).Nodup := by
      rw [nums_keys]
      have := O.nd
      rw [← List.take_append_drop (i + 1) F, List.flatten_append] at this
      exact (List.nodup_append.mp this).1
    refine ⟨_, rfl, _, rfl, f, _, _, V.ref qs[i], rfl, rfl, SqL.of hF4, atq, qs[i], rfl, ⟨_, SqL.of hq4⟩, for_list (K := K) (a := qs[i]) (xs := ns'.map V.int) (fun j σ H5 => ∃ (v3 : Option V), σ = [some (.ref f), some (.int (n : Int)), some (.ref l), some (.ref dA), some (.int (i : Int)), v2, v3] ∧ Same H H5 ∧ H5 dA = some (.dK (numKV (numsFrom 0 (F.take i) ++ (ns'.take j).map (fun x => (x, (i : Int)))))))
      ⟨v3, rfl, s4, by rw [hD4]; simp⟩ (fun j σ H5 _ ⟨_, _, s5, _⟩ => SqL.of (s5 _ _ hqp)) ?_ ?_⟩
    · rintro j y σ H5 hj ⟨v3', rfl, s5, hD5⟩
      obtain ⟨x, rfl, hx⟩ := int_of hj
      have hxr := O.rg ns' hpm x (List.mem_of_getElem? hx)
      have hxn : x ∉ (numsFrom 0 (F.take i) ++ (ns'.take j).map (fun x => (x, (i : Int)))).map (·.1) := fun m => by
        have e : numsFrom 0 (F.take (i + 1)) = (numsFrom 0 (F.take i) ++ (ns'.take j).map (fun x => (x, (i : Int)))) ++ ((x, (i : Int)) :: (ns'.drop (j + 1)).map (fun x => (x, (i : Int)))) := by
          rw [hnums, List.append_assoc]
          congr 1
          have : ns' = ns'.take j ++ x :: ns'.drop (j + 1) := by
            obtain ⟨h1, h2⟩ := List.getElem?_eq_some_iff.mp hx
            rw [← h2, List.getElem_cons_drop, List.take_append_drop]
          conv => lhs; rw [this]
          rw [List.map_append, List.map_cons]
        rw [e, List.map_append] at hndk
        exact (List.nodup_append.mp hndk).2.2 x m x List.mem_cons_self rfl
      have hlD : (numKV (numsFrom 0 (F.take i) ++ (ns'.take j).map (fun x => (x, (i : Int))))).length ≤ 1000 := by
        rw [numKV_len, List.length_append, List.length_map, List.length_take]
        have h1 : (numsFrom 0 (F.take i)).length ≤ n := by
          have h2 : ((numsFrom 0 (F.take i)).map (·.1)).length = (F.take i).flatten.length := congrArg _ (nums_keys _ _)
          rw [List.length_map] at h2
          rw [h2, ← hfl]
          conv => rhs; rw [← List.take_append_drop i F, List.flatten_append, List.length_append]
          omega
        omega
      refine ⟨_, rfl, _, _, rfl, rfl, _, rfl, ?_⟩
      rw [decide_eq_false (by omega : ¬ x < 0)]
      refine iteF ⟨_, rfl, _, rfl, _, _, rfl, rfl, _, rfl, ?_⟩
      rw [decide_eq_false (by omega : ¬ (n : Int) ≤ x)]
      refine iteF ⟨_, rfl, _, rfl, dA, _, rfl, DGet.k (k := Sum.inl x) hD5, _, rfl, ?_⟩
      rw [val_num_none hxn]
      refine iteF ⟨_, rfl, _, rfl, _, rfl, dA, _, rfl, DPut.k (k := Sum.inl x) hD5 (small1000 hlD), ?_⟩
      rw [put_num hxn]
      refine ⟨_, rfl, same_put s5 hdA _, ?_⟩
      rw [upd_same, take_succ_get hx, List.map_append, ← List.append_assoc]; rfl
    · rintro σ H5 ⟨v3', rfl, s5, hD5⟩
      rw [List.length_map, List.take_length, ← hnums] at hD5
      have hF5 := s5 _ _ hF
      have hq5 := s5 _ _ hqp
      refine ⟨_, rfl, _, rfl, f, _, _, V.ref qs[i], rfl, rfl, SqL.of hF5, atq, qs[i], _, rfl, .inl (SqL.of hq5), _, _, rfl, rfl, _, rfl, ?_⟩
      refine ite2 (fun cc => ?_) (fun cc => ?_)
      · refine ⟨_, rfl, _, rfl, f, _, _, V.ref qs[i], rfl, rfl, SqL.of hF5, atq, _, rfl, qs[i], l, ns', (n : Int), ps, rfl, hq5, hne, by omega, hL.mono s5, hlen, hin, by omega, O.rg ns' hpm, O.sc ns' hpm, fun H6 s6 => ⟨_, rfl, iteF ?_⟩⟩
        exact ⟨_, _, _, rfl, s5.trans s6, s6 _ _ hD5⟩
      · refine iteF ?_
        exact ⟨_, _, _, rfl, s5, hD5⟩
  · rintro σ H2 ⟨v1, v2, v3, rfl, s2, hD⟩
    have eN : ((((qs.map V.ref).length : Nat) : Int)).toNat = F.length := by rw [hml]; omega
    rw [eN, List.take_length] at hD
    have ndN : ((numsFrom 0 F).map (·.1)).Nodup := by rw [nums_keys]; exact O.nd
    have num : ∀ x : Int, 0 ≤ x → x < (n : Int) → ∃ (j : Nat) (p : List Int), F[j]? = some p ∧ x ∈ p ∧ valV (numKV (numsFrom 0 F)) (Sum.inl x : Key) = some (.int (j : Int)) := fun x h0 h1 => by
      have := O.all x h0 h1
      rw [← nums_keys F 0] at this
      obtain ⟨⟨x', k⟩, hm, e⟩ := List.mem_map.mp this
      have e' : x' = x := e
      subst e'
      obtain ⟨j, p, g1, g2, g3⟩ := mem_nums hm
      rw [Nat.zero_add] at g3
      subst g3
      exact ⟨j, p, g1, g2, val_num ndN hm⟩
    obtain ⟨as, hl2, hp2⟩ := hL.mono s2
    refine ⟨_, rfl, l, rfl, ⟨_, SqL.of hl2⟩, for_list (K := K) (a := l) (xs := as.map V.ref) (fun i σ H3 => ∃ (v2 : Option V), σ = [some (.ref f), some (.int (n : Int)), some (.ref l), some (.ref dA), v1, v2, v3] ∧ H3 = H2) ⟨v2, rfl, rfl⟩ (fun i σ H3 _ ⟨_, _, e⟩ => by rw [e]; exact SqL.of hl2) ?_ ?_⟩
    · rintro i y σ H3 hi ⟨v2', rfl, rfl⟩
      obtain ⟨b, pq, rfl, hpi, hb⟩ := lane_at hp2 hi
      have hpm := List.mem_of_getElem? hpi
      have hr1 := hin pq hpm
      obtain ⟨j1, p1, a1, a2, a3⟩ := num pq.1 hr1.1.1 hr1.1.2
      obtain ⟨j2, p2, b1, b2, b3⟩ := num pq.2 hr1.2.1 hr1.2.2
      have hord := O.ord pq.1 pq.2 hpm j1 j2 p1 p2 a1 b1 a2 b2
      have g1 : DGet H3 dA (.int pq.1) (some (.int (j1 : Int))) := by
        have := DGet.k (k := Sum.inl pq.1) hD
        rw [a3] at this
        exact this
      have g2 : DGet H3 dA (.int pq.2) (some (.int (j2 : Int))) := by
        have := DGet.k (k := Sum.inl pq.2) hD
        rw [b3] at this
        exact this
      refine ⟨_, rfl, b, _, _, _, rfl, rfl, SqT.of hb, rfl, _, rfl, dA, _, rfl, g1, _, rfl, ?_⟩
      refine iteF ⟨_, rfl, b, _, _, _, rfl, rfl, SqT.of hb, rfl, _, rfl, dA, _, rfl, g2, _, rfl, ?_⟩
      refine iteF ⟨_, rfl, _, rfl, b, _, _, _, rfl, rfl, SqT.of hb, rfl, dA, _, rfl, g1, _, rfl, _, rfl, b, _, _, _, rfl, rfl, SqT.of hb, rfl, dA, _, rfl, g2, _, _, rfl, rfl, _, rfl, ?_⟩
      rw [decide_eq_false (by omega : ¬ (j2 : Int) < (j1 : Int))]
      exact iteF ⟨_, rfl, rfl⟩
    · rintro σ H3 ⟨v2', rfl, rfl⟩
      refine ⟨_, rfl, dA, _, rfl, hD, _, rfl, rfl, ?_⟩
      have e : (((numKV (numsFrom 0 F)).length : Nat) : Int) = (n : Int) := by
        rw [numKV_len]
        have h2 : ((numsFrom 0 F).map (·.1)).length = F.flatten.length := congrArg _ (nums_keys _ _)
        rw [List.length_map] at h2
        rw [h2, hfl]
      rw [e, decide_eq_true rfl]
      exact q _ s2
end
theorem ixN_natD {n k : Nat} {x : Int} (hx : x = (k : Int)) (h : k < n) : ixN n x = some k := by
  unfold ixN
  rw [hx, if_pos (by omega), if_pos (by omega)]
  congr 1
def Kp (H H' : Hp) : Prop := ∀ b u, (∀ tp, u ≠ .tbl tp) → H b = some u → H' b = some u
theorem Kp.of {H H' : Hp} (s : Same H H') : Kp H H' := fun b u _ e => s b u e
theorem Kp.trans {H H1 H2 : Hp} (a : Kp H H1) (b : Kp H1 H2) : Kp H H2 := fun c u n e => b c u n (a c u n e)
theorem Kp.t {H H' : Hp} {T : Addr} {p : Pos} {q : Str} (hT : TabAt H T p q) (s : SameT T H H') : Kp H H' := fun b u n e => s b u (fun z => by
  obtain ⟨tp, h1, _⟩ := hT
  rw [z, h1] at e
  exact n tp (Option.some.inj e).symm) e
theorem Kp.lst {H H' : Hp} (s : Kp H H') {b : Addr} {xs : List V} (e : H b = some (.lst xs)) : H' b = some (.lst xs) := s b _ (fun _ z => by cases z) e
theorem Kp.tup {H H' : Hp} (s : Kp H H') {b : Addr} {xs : List V} (e : H b = some (.tup xs)) : H' b = some (.tup xs) := s b _ (fun _ z => by cases z) e
theorem Kp.lanes {H H' : Hp} (s : Kp H H') {l : Addr} {ps : Lanes} (h : LanesAt H l ps) : LanesAt H' l ps := by
  obtain ⟨as, h1, h2⟩ := h
  exact ⟨as, s.lst h1, Paired.mapP h2 fun _ _ e => s.tup e⟩
theorem hu8_of {A : Around} {k : Nat} (hr : Room k A) : A.units + 8 < cLine := Nat.lt_of_le_of_lt (Nat.add_le_add_left (by decide : 8 ≤ 64) _) hr.units
def iz (k : Nat × Nat) : Int × Int := ((k.1 : Int), (k.2 : Int))
theorem iz_inj {a b : Nat × Nat} (h : iz a = iz b) : a = b := by
  have h1 : (a.1 : Int) = (b.1 : Int) := congrArg Prod.fst h
  have h2 : (a.2 : Int) = (b.2 : Int) := congrArg Prod.snd h
  exact Prod.ext (by omega) (by omega)
theorem mem_iz {k : Nat × Nat} {S : Prs} : iz k ∈ S.map iz ↔ k ∈ S := by
  rw [List.mem_map]
  exact ⟨fun ⟨a, h, e⟩ => iz_inj e ▸ h, fun h => ⟨k, h, rfl⟩⟩
theorem paired_zip {R : Addr → Int × Int → Prop} : ∀ {bs : List Addr} {ks : List (Int × Int)}, Paired R bs ks → (∀ z ∈ bs.zip ks, R z.1 z.2) ∧ (bs.zip ks).map (·.1) = bs ∧ (bs.zip ks).map (·.2) = ks
  | _, _, .nil => ⟨fun _ h => (by cases h), rfl, rfl⟩
  | _, _, .cons h t => by
    obtain ⟨a, b, c⟩ := paired_zip t
    refine ⟨fun z hz => ?_, ?_, ?_⟩
    · rcases List.mem_cons.mp hz with e | e
      · rw [e]; exact h
      · exact a z e
    · rw [List.zip_cons_cons, List.map_cons, b]
    · rw [List.zip_cons_cons, List.map_cons, c]
theorem tups_paired {H : Hp} : ∀ {zs : L2.Zs}, (∀ z ∈ zs, H z.1 = some (.tup (pairOf z.2))) → Paired (fun a k => H a = some (.tup (k.map V.int))) (zs.map (·.1)) (zs.map fun z => [z.2.1, z.2.2])
  | [], _ => .nil
  | z :: zs, h => .cons (h z List.mem_cons_self) (tups_paired fun y hy => h y (List.mem_cons_of_mem _ hy))
theorem plt_of {zs : L2.Zs} (h : zs.Pairwise pLe) (nd : (zs.map (·.2)).Nodup) : (zs.map (·.2)).Pairwise plt := by
  rw [List.pairwise_map]
  have nd' : zs.Pairwise fun a b => a.2 ≠ b.2 := List.pairwise_map.mp nd
  refine (h.and nd').imp fun {a b} ⟨h1, h2⟩ => ?_
  unfold pLe plt at h1
  unfold plt
  by_cases c : a.2.1 < b.2.1
  · exact .inl c
  · have c1 : a.2.1 = b.2.1 := by omega
    refine .inr ⟨c1, ?_⟩
    by_cases c2 : a.2.2 = b.2.2
    · exact absurd (Prod.ext c1 c2) h2
    · omega
def spNums (T : Addr) : Sp := fun vs H Q _ => ∃ (n : Nat) (l : Addr) (ps : Lanes), vs = [.int (n : Int), .ref l] ∧ LanesAt H l ps ∧ ps.length ≤ 63 ∧ InR n ps ∧ n < 64 ∧ TabAt H T lamP lamQ ∧
  ∀ r H', Kp H H' → TabAt H' T lamP lamQ → PartsOk n ps (partsC n ps) → H' r = some (.lst ((numI n (partsC n ps)).map V.int)) → Q (.ref r) H'
def spBetw (T : Addr) : Sp := fun vs H Q _ => ∃ (n : Nat) (l : Addr) (ps : Lanes), vs = [.int (n : Int), .ref l] ∧ LanesAt H l ps ∧ ps.length ≤ 63 ∧ InR n ps ∧ n < 64 ∧ TabAt H T lamP lamQ ∧
  ∀ r (zs : L2.Zs) H', Kp H H' → TabAt H' T lamP lamQ → (∀ xs, H r ≠ some (.lst xs)) → PartsOk n ps (partsC n ps) → H' r = some (.lst (zs.map fun z => V.ref z.1)) → (∀ z ∈ zs, H' z.1 = some (.tup (pairOf z.2))) → zs.length ≤ 63 → (zs.map (·.2)).Pairwise plt → (∀ k, k ∈ zs.map (·.2) ↔ k ∈ (steps (partsC n ps) ps).map iz) → Q (.ref r) H'
section
variable {P : Program} {w : World} {K : PySem.W.Frag} {mg : Str → Option Value} {base : Heap} {T : Addr}
variable {fParts fNums fBetw fRows fDepths fDeep : Addr} {gParts gNums gBetw gRows gDepths gDeep : FuncData}
set_option maxHeartbeats 0 in
theorem ok_nums (d : DefAt K mg "part_numbers" sPartNumbers PPartNumbers fNums gNums) (z : Zs mg) (dParts : DefAt K mg "parts" sParts PParts fParts gParts) (GParts : FnOk P w K mg base CX0 4 fParts gParts PParts (spParts T)) : FnOk P w K mg base CX0 5 fNums gNums PPartNumbers (spNums T) := by
  refine d.F.ok scPartNumbers (fun vs H Q E h => ?_) (fun cdv A outer s H vs Q E hr h => ?_)
  · obtain ⟨n, l, ps, rfl, _⟩ := h
    rfl
  obtain ⟨n, l, ps, rfl, hL, hlen, hin, hn, hT, q⟩ := h
  refine ⟨_, (pss_cons (ps_set (i := 2) scPartNumbers.nd rfl (by first | exact Or.inl rfl | exact Or.inr rfl) (pe_call GParts (hr.mono (by decide)) rfl dParts.m dParts.F.kp dParts.b .nil pass0 (pa_cons (pv 0) (pa_cons (pv 1) pa_nil))))
      (pss_cons (ps_set (i := 3) scPartNumbers.nd rfl (by first | exact Or.inl rfl | exact Or.inr rfl) (pe_op op_rep (pe_lst (pa_cons pe_non pa_nil)) (pv 0)))
      (pss_cons (ps_for PassesOwn.never rfl (pi_enum rfl z.enumerate (pa_cons (pv 2) pa_nil)) (pg_tup rfl (pgs_cons (pg_name (i := 4) scPartNumbers.nd rfl (by first | exact Or.inl rfl | exact Or.inr rfl)) (pgs_cons (pg_name (i := 5) scPartNumbers.nd rfl (by first | exact Or.inl rfl | exact Or.inr rfl)) pgs_nil))) (pss_one (ps_for PassesOwn.never rfl (pi_list (pv 5)) (pg_name (i := 6) scPartNumbers.nd rfl (by first | exact Or.inl rfl | exact Or.inr rfl)) (pss_one (ps_asg (pv 4) (pg_sub (pv 3) (pv 6) set_list))))))
      (pss_one (ps_ret (pv 3)))))), ?_⟩
  refine ⟨_, rfl, _, rfl, n, l, ps, rfl, hL, by omega, hin, hn, hT, fun r qs F H1 s1 hT1 hr1 hP O eF => ?_⟩
  have k1 := Kp.t hT s1
  -- numbers
  refine ⟨(by show 1 ≤ sizeLine; decide), fun e2 he2 => ?_⟩
  have se2 := same_new he2 (.lst [.non])
  refine ⟨_, rfl, e2, (n : Int), [.non], rfl, rfl, upd_same, by omega, by omega, (by show 1 * (n : Int).toNat ≤ sizeLine; rw [sizeLine_eq]; omega), fun fA hfA => ?_⟩
  have erep : (List.replicate (n : Int).toNat [V.non]).flatten = List.replicate n V.non := by rw [List.flatten_replicate_singleton, Int.toNat_natCast]
  rw [erep]
  have s3 := se2.trans (same_new hfA (.lst (List.replicate n V.non)))
  have hfA1 : H1 fA = none := se2.free hfA
  have hF : (upd (upd H1 e2 (.lst [.non])) fA (.lst (List.replicate n V.non))) fA = some (.lst (List.replicate n V.non)) := upd_same
  generalize upd (upd H1 e2 (.lst [.non])) fA (.lst (List.replicate n V.non)) = H3 at s3 hF ⊢
  have hpl := Paired.len hP
  refine ⟨_, rfl, r, rfl, ⟨_, SqL.of (s3 _ _ hr1)⟩, for_enum (K := K) (a := r) (xs := qs.map V.ref) (fun i σ H2 => ∃ (v4 v5 v6 : Option V), σ = [some (.int (n : Int)), some (.ref l), some (.ref r), some (.ref fA), v4, v5, v6] ∧ Same H1 H2 ∧ H2 fA = some (.lst (setAll V.int (List.replicate n V.non) (numsFrom 0 (F.take i)))))
    ⟨none, none, none, rfl, s3, hF⟩ (fun i σ H2 _ ⟨_, _, _, _, s2, _⟩ => SqL.of (s2 _ _ hr1)) ?_ ?_⟩
  · rintro i y σ H2 p hy ⟨v4, v5, v6, rfl, s2, hA⟩ hpn
    rw [List.getElem?_map] at hy
    cases hqi : qs[i]? with
    | none => rw [hqi] at hy; cases hy
    | some b =>
      rw [hqi] at hy
      have ey : y = .ref b := (Option.some.inj hy).symm
      subst ey
      obtain ⟨part, hpi, hb⟩ := paired_at hP hqi
      have hpm := List.mem_of_getElem? hpi
      have sp := same_new hpn (.tup [.int (i : Int), .ref b])
      have hAp := sp _ _ hA
      have s2p := s2.trans sp
      refine ⟨p, _, rfl, SqT.of upd_same, rfl, _, _, rfl, _, _, rfl, rfl, ?_⟩
      generalize upd H2 p (.tup [.int (i : Int), .ref b]) = H4 at hAp s2p ⊢
      have hti : (F.take i).length = i := by
        have := (List.getElem?_eq_some_iff.mp hpi).1
        rw [List.length_take]; omega
      have hnums : numsFrom 0 (F.take (i + 1)) = numsFrom 0 (F.take i) ++ part.map (fun x => (x, (i : Int))) := by rw [take_succ_get hpi, nums_snoc, hti, Nat.zero_add]
      refine ⟨_, rfl, b, rfl, ⟨_, SqL.of (s2p _ _ hb)⟩, for_list (K := K) (a := b) (xs := part.map V.int) (fun j σ H5 => ∃ (v6 : Option V), σ = [some (.int (n : Int)), some (.ref l), some (.ref r), some (.ref fA), some (.int (i : Int)), some (.ref b), v6] ∧ Same H1 H5 ∧ H5 fA = some (.lst (setAll V.int (List.replicate n V.non) (numsFrom 0 (F.take i) ++ (part.take j).map fun x => (x, (i : Int))))))
        ⟨v6, rfl, s2p, by rw [hAp]; simp⟩ (fun j σ H5 _ ⟨_, _, s5, _⟩ => SqL.of (s5 _ _ hb)) ?_ ?_⟩
      · rintro j y σ H5 hj ⟨v6', rfl, s5, hA5⟩
        obtain ⟨x, rfl, hx⟩ := int_of hj
        have hxr := O.rg part hpm x (List.mem_of_getElem? hx)
        obtain ⟨xn, hxn⟩ : ∃ xn : Nat, x = (xn : Int) := ⟨x.toNat, by omega⟩
        refine ⟨_, rfl, _, rfl, _, rfl, fA, _, x, xn, rfl, rfl, hA5, ixN_natD hxn (by rw [setAll_len, List.length_replicate]; omega), ?_⟩
        refine ⟨_, rfl, same_put s5 hfA1 _, ?_⟩
        rw [upd_same, take_succ_get hx, List.map_append, ← List.append_assoc]
        show some (HO.lst _) = some (HO.lst (setAll V.int (List.replicate n V.non) (_ ++ [(x, (i : Int))])))
        rw [setAll_snoc, hxn, Int.toNat_natCast]
      · rintro σ H5 ⟨v6', rfl, s5, hA5⟩
        rw [List.length_map, List.take_length, ← hnums] at hA5
        exact ⟨_, _, _, rfl, s5, hA5⟩
  · rintro σ H2 ⟨v4, v5, v6, rfl, s2, hA⟩
    rw [List.length_map, hpl, List.take_length, setAll_parts O List.length_replicate] at hA
    refine ⟨_, rfl, q fA H2 (k1.trans (Kp.of s2)) (hT1.same s2) (eF ▸ O) ?_⟩
    rw [hA, eF]
    unfold numI
    rw [List.map_map]; rfl
set_option maxHeartbeats 0 in
theorem ok_betw (d : DefAt K mg "between_parts" sBetweenParts PBetweenParts fBetw gBetw) (z : Zs mg) (dPartNumbers : DefAt K mg "part_numbers" sPartNumbers PPartNumbers fNums gNums) (GPartNumbers : FnOk P w K mg base CX0 5 fNums gNums PPartNumbers (spNums T)) : FnOk P w K mg base CX0 6 fBetw gBetw PBetweenParts (spBetw T) := by
  refine d.F.ok scBetweenParts (fun vs H Q E h => ?_) (fun cdv A outer s H vs Q E hr h => ?_)
  · obtain ⟨n, l, ps, rfl, _⟩ := h
    rfl
  obtain ⟨n, l, ps, rfl, hL, hlen, hin, hn, hT, q⟩ := h
  refine ⟨_, (pss_cons (ps_set (i := 2) scBetweenParts.nd rfl (by first | exact Or.inl rfl | exact Or.inr rfl) (pe_call GPartNumbers (hr.mono (by decide)) rfl dPartNumbers.m dPartNumbers.F.kp dPartNumbers.b .nil pass0 (pa_cons (pv 0) (pa_cons (pv 1) pa_nil))))
      (pss_cons (ps_setlc (i := 3) scBetweenParts.nd rfl (Or.inl rfl) csBetweenParts1 rfl (pi_list (pv 1)) (fun _ _ _ _ => pcs_nil) (fun _ _ _ _ => (pe_tup (pa_cons (pe_ix (ix_listK (K := K) rfl) (pv 1) (pe_ix (ix_tupK (K := K) rfl) (pv 0) pe_int (fun _ _ => rfl)) (fun _ _ => rfl)) (pa_cons (pe_ix (ix_listK (K := K) rfl) (pv 1) (pe_ix (ix_tupK (K := K) rfl) (pv 0) pe_int (fun _ _ => rfl)) (fun _ _ => rfl)) pa_nil)))))
      (pss_one (ps_ret (pe_callB (call_sorted_setP rfl) rfl z.sorted bt_sorted (pa_cons (pe_callTy (call_set_tups rfl (hu8_of hr)) rfl z.set bt_set (pa_cons (pe_lc csBetweenParts0 rfl (pi_list (pv 3)) (fun _ _ _ _ => pcs_one (pt_cmpR op_ne (pe_ix (ix_tupK (K := K) rfl) (pv 0) pe_int (fun _ _ => rfl)) (pe_ix (ix_tupK (K := K) rfl) (pv 0) pe_int (fun _ _ => rfl)) (nomark _))) (fun _ _ _ _ => (pv 0))) pa_nil)) pa_nil)))))), ?_⟩
  refine ⟨_, rfl, _, rfl, n, l, ps, rfl, hL, hlen, hin, hn, hT, fun r H1 k1 hT1 O hr1 => ?_⟩
  obtain ⟨as, hl, hps⟩ := k1.lanes hL
  generalize partsC n ps = F at O hr1 q
  have hml : (as.map V.ref).length = ps.length := by rw [List.length_map]; exact Paired.len hps
  -- pairs
  refine ⟨_, rfl, l, rfl, ⟨_, SqL.of hl⟩, lc_list (K := K) (a := l) (xs := as.map V.ref) (fun i ys H2 => ∃ bs : List Addr, ys = bs.map V.ref ∧ Same H1 H2 ∧ Paired (fun a k => H2 a = some (.tup (pairOf k))) bs ((ps.take i).map fun p => iz (stp F p))) ⟨[], rfl, Same.refl _, .nil⟩ (fun i ys H2 hi ⟨bs, e, s2, hb⟩ => ?_) (by rw [hml]; exact small (by omega)) (fun i x ys H2 hx ⟨bs, e, s2, hb⟩ => ?_) (fun ys H2 ⟨bs, e, s2, hb⟩ bk hbk => ?_)⟩
  · subst e
    refine ⟨SqL.of (s2 _ _ hl), ?_⟩
    have := Paired.len hb
    rw [List.length_map, List.length_take] at this
    rw [List.length_map]; omega
  · subst e
    obtain ⟨a, pq, rfl, hpi, ha⟩ := lane_at hps hx
    have hrg := hin pq (List.mem_of_getElem? hpi)
    obtain ⟨x1, hx1⟩ : ∃ x1 : Nat, pq.1 = (x1 : Int) := ⟨pq.1.toNat, by omega⟩
    obtain ⟨x2, hx2⟩ : ∃ x2 : Nat, pq.2 = (x2 : Int) := ⟨pq.2.toNat, by omega⟩
    have a1 : atI ((numI n F).map V.int) pq.1 = some (.int ((nm F pq.1 : Nat) : Int)) := by rw [hx1]; exact at_int (numI_at (by omega))
    have a2 : atI ((numI n F).map V.int) pq.2 = some (.int ((nm F pq.2 : Nat) : Int)) := by rw [hx2]; exact at_int (numI_at (by omega))
    refine yes_of (iteT ⟨_, rfl, _, rfl, a, _, _, _, rfl, rfl, SqT.of (s2 _ _ ha), rfl, r, _, _, _, rfl, rfl, SqL.of (s2 _ _ hr1), a1, _, rfl, _, rfl, a, _, _, _, rfl, rfl, SqT.of (s2 _ _ ha), rfl, r, _, _, _, rfl, rfl, SqL.of (s2 _ _ hr1), a2, (by show 2 ≤ sizeLine; decide), fun b hbn => ⟨bs ++ [b], by rw [List.map_append]; rfl, s2.trans (same_new hbn _), ?_⟩⟩)
    rw [take_succ_get hpi, List.map_append]
    exact Paired.snoc (Paired.mapP hb fun c r e => same_new hbn _ _ _ e) upd_same
  subst e
  rw [hml, List.take_length] at hb
  have sb := same_new hbk (.lst (bs.map V.ref))
  have s3 := s2.trans sb
  obtain ⟨z1, z2, z3⟩ := paired_zip hb
  have hz3 : ∀ z ∈ bs.zip (ps.map fun p => iz (stp F p)), (upd H2 bk (.lst (bs.map V.ref))) z.1 = some (.tup (pairOf z.2)) := fun z hz => sb _ _ (z1 z hz)
  have hB : (upd H2 bk (.lst (bs.map V.ref))) bk = some (.lst ((bs.zip (ps.map fun p => iz (stp F p))).map fun z => V.ref z.1)) := by
    rw [upd_same]
    conv => lhs; rw [← z2]
    rw [List.map_map]; rfl
  generalize upd H2 bk (.lst (bs.map V.ref)) = H3 at s3 hz3 hB ⊢
  have hzl : (bs.zip (ps.map fun p => iz (stp F p))).length = ps.length := by
    have := congrArg List.length z3
    rw [List.length_map, List.length_map] at this
    exact this
  generalize bs.zip (ps.map fun p => iz (stp F p)) = zs at z3 hz3 hB hzl
  -- those between two parts
  refine ⟨_, rfl, bk, rfl, ⟨_, SqL.of hB⟩, lc_list (K := K) (a := bk) (xs := zs.map fun z => V.ref z.1) (fun i ys H4 => ys = (((zs.take i).filter fun z => decide (z.2.1 ≠ z.2.2)).map fun z => V.ref z.1) ∧ H4 = H3) ⟨rfl, rfl⟩ (fun i ys H4 hi ⟨e, e4⟩ => ?_) (by rw [List.length_map]; exact small (by omega)) (fun i x ys H4 hx ⟨e, e4⟩ => ?_) (fun ys H4 ⟨e, e4⟩ c hc => ?_)⟩
  · subst e e4
    refine ⟨SqL.of hB, ?_⟩
    rw [List.length_map]
    refine Nat.le_trans (List.length_filter_le _ _) ?_
    rw [List.length_take]; omega
  · subst e e4
    rw [List.getElem?_map] at hx
    cases ez : zs[i]? with
    | none => rw [ez] at hx; cases hx
    | some zz =>
      rw [ez] at hx
      have ex : x = .ref zz.1 := (Option.some.inj hx).symm
      subst ex
      have hzz := hz3 zz (List.mem_of_getElem? ez)
      rw [take_succ_get ez, List.filter_append, List.map_append]
      refine ⟨_, rfl, zz.1, _, _, _, rfl, rfl, SqT.of hzz, rfl, _, rfl, zz.1, _, _, _, rfl, rfl, SqT.of hzz, rfl, rfl, _, rfl, ?_⟩
      by_cases cc : zz.2.1 = zz.2.2
      · rw [decide_eq_true (congrArg V.int cc)]
        refine iteF ⟨?_, rfl⟩
        rw [List.filter_cons, decide_eq_false (by simp [cc])]
        simp
      · rw [decide_eq_false fun e => cc (V.int.inj e)]
        refine iteT ⟨_, rfl, ?_, rfl⟩
        rw [List.filter_cons, decide_eq_true (show zz.2.1 ≠ zz.2.2 from cc)]
        rfl
  subst e4
  rw [List.length_map, List.take_length] at e
  subst e
  have sc := same_new hc (.lst ((zs.filter fun z => decide (z.2.1 ≠ z.2.2)).map fun z => V.ref z.1))
  have s5 := s3.trans sc
  have hzf : ∀ z ∈ zs.filter (fun z => decide (z.2.1 ≠ z.2.2)), (upd H4 c (.lst ((zs.filter fun z => decide (z.2.1 ≠ z.2.2)).map fun z => V.ref z.1))) z.1 = some (.tup (pairOf z.2)) := fun z hz => sc _ _ (hz3 z (List.mem_filter.mp hz).1)
  have hfl : (zs.filter fun z => decide (z.2.1 ≠ z.2.2)).length ≤ 63 := Nat.le_trans (List.length_filter_le _ _) (by omega)
  have hfm : ∀ k, k ∈ (zs.filter fun z => decide (z.2.1 ≠ z.2.2)).map (·.2) ↔ k ∈ (steps F ps).map iz := fun k => by
    rw [List.mem_map, List.mem_map]
    constructor
    · rintro ⟨zz, hz, rfl⟩
      obtain ⟨h1, h2⟩ := List.mem_filter.mp hz
      have : zz.2 ∈ zs.map (·.2) := List.mem_map.mpr ⟨zz, h1, rfl⟩
      rw [z3] at this
      obtain ⟨p, hp, e⟩ := List.mem_map.mp this
      refine ⟨stp F p, mem_steps.mpr ⟨p, hp, rfl, fun y => ?_⟩, e⟩
      have h2' := of_decide_eq_true h2
      rw [← e] at h2'
      exact h2' (congrArg (fun x : Nat => (x : Int)) y)
    · rintro ⟨k, hk, rfl⟩
      obtain ⟨p, hp, rfl, hne⟩ := mem_steps.mp hk
      have : iz (stp F p) ∈ zs.map (·.2) := by rw [z3]; exact List.mem_map.mpr ⟨p, hp, rfl⟩
      obtain ⟨zz, hz, e⟩ := List.mem_map.mp this
      refine ⟨zz, List.mem_filter.mpr ⟨hz, decide_eq_true fun y => hne ?_⟩, e⟩
      have e2 : zz.2 = iz (stp F p) := e
      rw [e2] at y
      have y' : ((stp F p).1 : Int) = ((stp F p).2 : Int) := y
      omega
  have hcl : (upd H4 c (.lst ((zs.filter fun z => decide (z.2.1 ≠ z.2.2)).map fun z => V.ref z.1))) c = some (.lst (((zs.filter fun z => decide (z.2.1 ≠ z.2.2)).map (·.1)).map V.ref)) := by rw [upd_same, List.map_map]; rfl
  generalize upd H4 c (.lst ((zs.filter fun z => decide (z.2.1 ≠ z.2.2)).map fun z => V.ref z.1)) = H5 at s5 hzf hcl ⊢
  generalize zs.filter (fun z => decide (z.2.1 ≠ z.2.2)) = zf at hzf hfl hfm hcl
  -- the set
  refine ⟨c, zf.map (·.1), zf.map (fun z => [z.2.1, z.2.2]), rfl, hcl, tups_paired hzf, by rw [List.length_map]; omega, fun L nd hLl hLk hLt sA hsA => ?_⟩
  have ss := same_new hsA (setTO P w sA L)
  have hLe : (L.map fun y => (y.2, (y.1.getD 0 0, y.1.getD 1 0))).map (fun z : Addr × Int × Int => ([z.2.1, z.2.2], z.1)) = L := by
    rw [List.map_map]
    refine (List.map_congr_left fun y hy => ?_).trans (List.map_id _)
    have := (hLk y.1).mp (List.mem_map.mpr ⟨y, hy, rfl⟩)
    obtain ⟨zz, _, e⟩ := List.mem_map.mp this
    show ([y.1.getD 0 0, y.1.getD 1 0], y.2) = y
    rw [← e]
    exact Prod.ext e rfl
  have hLz : ∀ zz ∈ (L.map fun y => (y.2, (y.1.getD 0 0, y.1.getD 1 0)) : L2.Zs), (upd H5 sA (setTO P w sA L)) zz.1 = some (.tup (pairOf zz.2)) := fun zz hz => by
    obtain ⟨y, hy, rfl⟩ := List.mem_map.mp hz
    have h1 := ss _ _ (hLt y hy)
    have := (hLk y.1).mp (List.mem_map.mpr ⟨y, hy, rfl⟩)
    obtain ⟨z0, _, e⟩ := List.mem_map.mp this
    show (upd H5 sA (setTO P w sA L)) y.2 = some (.tup (pairOf (y.1.getD 0 0, y.1.getD 1 0)))
    rw [h1, ← e]; rfl
  have hLlen : (L.map fun y => (y.2, (y.1.getD 0 0, y.1.getD 1 0)) : L2.Zs).length = L.length := List.length_map _
  have hLk2 : ((L.map fun y => (y.2, (y.1.getD 0 0, y.1.getD 1 0)) : L2.Zs).map fun z => [z.2.1, z.2.2]) = L.map (·.1) := by
    have h0 := congrArg (List.map (fun y : List Int × Addr => y.1)) hLe
    rw [List.map_map] at h0
    exact h0
  have hset : (upd H5 sA (setTO P w sA L)) sA = some (setTO P w sA ((L.map fun y => (y.2, (y.1.getD 0 0, y.1.getD 1 0)) : L2.Zs).map fun z : Addr × Int × Int => ([z.2.1, z.2.2], z.1))) := by rw [hLe]; exact upd_same
  generalize (L.map fun y => (y.2, (y.1.getD 0 0, y.1.getD 1 0)) : L2.Zs) = zl at hLz hLlen hLk2 hset
  have s6 := s5.trans ss
  rw [List.length_map] at hLl
  refine ⟨sA, zl, rfl, hset, hLz, by omega, fun zs' hp hs l6 hl6 => ?_⟩
  have s7 := s6.trans (same_new hl6 (.lst (zs'.map fun z => V.ref z.1)))
  have inj2 : ∀ {a b : Int × Int}, [a.1, a.2] = [b.1, b.2] → a = b := fun {a b} e => by
    have e1 := List.cons.inj e
    exact Prod.ext e1.1 (List.cons.inj e1.2).1
  refine q l6 zs' _ (k1.trans (Kp.of s7)) (hT1.same s7) (fun xs e => absurd (hl6.symm.trans (s6 _ _ (k1.lst e))) (fun y => by cases y)) O upd_same (fun zz hz => same_new hl6 _ _ _ (hLz zz (hp.mem_iff.mp hz))) (by have := hp.length_eq; omega) (plt_of hs ?_) (fun k => ?_)
  · refine ((hp.map (·.2)).nodup_iff).mpr ?_
    rw [← hLk2] at nd
    have nd' : zl.Pairwise fun a b => [a.2.1, a.2.2] ≠ [b.2.1, b.2.2] := List.pairwise_map.mp nd
    refine List.pairwise_map.mpr (nd'.imp fun {a b} h e => h ?_)
    have e' : a.2 = b.2 := e
    rw [e']
  · rw [(hp.map (·.2)).mem_iff, ← hfm k, List.mem_map, List.mem_map]
    constructor
    · rintro ⟨zz, hz, rfl⟩
      have : [zz.2.1, zz.2.2] ∈ L.map (·.1) := by rw [← hLk2]; exact List.mem_map.mpr ⟨zz, hz, rfl⟩
      obtain ⟨z0, h0, e⟩ := List.mem_map.mp ((hLk _).mp this)
      exact ⟨z0, h0, inj2 e⟩
    · rintro ⟨zz, hz, rfl⟩
      have : [zz.2.1, zz.2.2] ∈ L.map (·.1) := (hLk _).mpr (List.mem_map.mpr ⟨zz, hz, rfl⟩)
      rw [← hLk2] at this
      obtain ⟨z0, h0, e⟩ := List.mem_map.mp this
      exact ⟨z0, h0, inj2 e⟩
end
def nv (k : Nat) : V := .int (k : Int)
def kz (z : Addr × Int × Int) : Nat × Nat := (z.2.1.toNat, z.2.2.toNat)
theorem tab_butR {H H' : Hp} {T rA : Addr} {p : Pos} {q : Str} {xs : List V} (x : TabAt H T p q) (hr : H rA = some (.lst xs)) (s : SameT rA H H') : TabAt H' T p q := by
  obtain ⟨ps, h1, h2, h3⟩ := x
  refine ⟨ps, s _ _ (fun e => by rw [e, hr] at h1; cases h1) h1, h2, h3.imp id ?_⟩
  rintro ⟨c, e1, e2⟩
  exact ⟨c, e1, s _ _ (fun e => by rw [e, hr] at e2; cases e2) e2⟩
def RowsAt (H : Hp) (r : Addr) (m : Nat) (W : Nat → List Nat) : Prop := ∃ bs : List Addr, H r = some (.lst (bs.map V.ref)) ∧ bs.length = m ∧ ∀ j b, bs[j]? = some b → H b = some (.lst ((W j).map nv))
def spRows (T : Addr) : Sp := fun vs H Q _ => ∃ (n : Nat) (l : Addr) (ps : Lanes), vs = [.int (n : Int), .ref l] ∧ LanesAt H l ps ∧ ps.length ≤ 63 ∧ InR n ps ∧ n < 64 ∧ TabAt H T lamP lamQ ∧
  ∀ r W done H', Kp H H' → TabAt H' T lamP lamQ → PartsOk n ps (partsC n ps) → RowsAt H' r (partsC n ps).length W → (∀ k, k ∈ done ↔ k ∈ steps (partsC n ps) ps) → Rws (steps (partsC n ps) ps) done (partsC n ps).length W → Q (.ref r) H'
def spDepths (T : Addr) : Sp := fun vs H Q _ => ∃ (n : Nat) (l : Addr) (ps : Lanes), vs = [.int (n : Int), .ref l] ∧ LanesAt H l ps ∧ ps.length ≤ 63 ∧ InR n ps ∧ n < 64 ∧ TabAt H T lamP lamQ ∧
  ∀ r D H', Kp H H' → TabAt H' T lamP lamQ → Depth (steps (partsC n ps) ps) D → H' r = some (.lst ((List.range (partsC n ps).length).map fun j => nv (D j))) → Q (.ref r) H'
structure DeepRow (S : Prs) (m : Nat) (R : List Nat) : Prop where
  chain : ∀ (k a b : Nat), R[k]? = some a → R[k + 1]? = some b → (a, b) ∈ S
  none_ : m = 0 → R = []
  rng : ∀ x ∈ R, x < m
  len : 0 < m → ∃ D, Depth S D ∧ (∀ j, j < m → D j ≤ R.length) ∧ ∃ i, i < m ∧ D i = R.length
def spDeepest (T : Addr) : Sp := fun vs H Q _ => ∃ (n : Nat) (l : Addr) (ps : Lanes), vs = [.int (n : Int), .ref l] ∧ LanesAt H l ps ∧ ps.length ≤ 63 ∧ InR n ps ∧ n < 64 ∧ TabAt H T lamP lamQ ∧
  ∀ r R H', Kp H H' → TabAt H' T lamP lamQ → DeepRow (steps (partsC n ps) ps) (partsC n ps).length R → R.length ≤ 63 → H' r = some (.lst (R.map nv)) → Q (.ref r) H'
section
variable {P : Program} {w : World} {K : PySem.W.Frag} {mg : Str → Option Value} {base : Heap} {T : Addr}
variable {fParts fNums fBetw fRows fDepths fDeep : Addr} {gParts gNums gBetw gRows gDepths gDeep : FuncData}
set_option maxHeartbeats 0 in
theorem ok_rows (d : DefAt K mg "longest_rows" sLongestRows PLongestRows fRows gRows) (z : Zs mg) (dParts : DefAt K mg "parts" sParts PParts fParts gParts) (GParts : FnOk P w K mg base CX0 4 fParts gParts PParts (spParts T)) (dBetweenParts : DefAt K mg "between_parts" sBetweenParts PBetweenParts fBetw gBetw) (GBetweenParts : FnOk P w K mg base CX0 6 fBetw gBetw PBetweenParts (spBetw T)) : FnOk P w K mg base CX0 7 fRows gRows PLongestRows (spRows T) := by
  refine d.F.ok scLongestRows (fun vs H Q E h => ?_) (fun cdv A outer s H vs Q E hr h => ?_)
  · obtain ⟨n, l, ps, rfl, _⟩ := h
    rfl
  obtain ⟨n, l, ps, rfl, hL, hlen, hin, hn, hT, q⟩ := h
  refine ⟨_, (pss_cons (ps_setlc (i := 2) scLongestRows.nd rfl (Or.inl rfl) csLongestRows0 rfl (pi_range1 rfl z.range (pa_cons (pe_callB call_len_seq rfl z.len bt_len (pa_cons (pe_call GParts (hr.mono (by decide)) rfl dParts.m dParts.F.kp dParts.b .nil pass0 (pa_cons (pv 0) (pa_cons (pv 1) pa_nil))) pa_nil)) pa_nil)) (fun _ _ _ _ => pcs_nil) (fun _ _ _ _ => (pe_lst (pa_cons (pv 0) pa_nil))))
      (pss_cons (ps_for PassesOwn.never rfl (pi_list (pe_call GBetweenParts (hr.mono (by decide)) rfl dBetweenParts.m dBetweenParts.F.kp dBetweenParts.b .nil pass0 (pa_cons (pv 0) (pa_cons (pv 1) pa_nil)))) (pg_name (i := 3) scLongestRows.nd rfl (by first | exact Or.inl rfl | exact Or.inr rfl)) (pss_one (ps_if (pt_cmpR op_le (pe_callB call_len_seq rfl z.len bt_len (pa_cons (pe_ix ix_list (pv 2) (pe_ix ix_tup (pv 3) pe_int (fun _ _ => rfl)) (fun _ _ => rfl)) pa_nil)) (pe_callB call_len_seq rfl z.len bt_len (pa_cons (pe_ix ix_list (pv 2) (pe_ix ix_tup (pv 3) pe_int (fun _ _ => rfl)) (fun _ _ => rfl)) pa_nil)) (nomark _)) (pss_one (ps_asg (pe_op op_cat (pe_ix ix_list (pv 2) (pe_ix ix_tup (pv 3) pe_int (fun _ _ => rfl)) (fun _ _ => rfl)) (pe_lst (pa_cons (pe_ix ix_tup (pv 3) pe_int (fun _ _ => rfl)) pa_nil))) (pg_sub (pv 2) (pe_ix ix_tup (pv 3) pe_int (fun _ _ => rfl)) set_list))) pss_nil)))
      (pss_one (ps_ret (pv 2))))), ?_⟩
  refine ⟨_, rfl, _, rfl, n, l, ps, rfl, hL, by omega, hin, hn, hT, fun r qs F H1 s1 hT1 hr1 hP O eF => ?_⟩
  have k1 := Kp.t hT s1
  have hFl := parts_len O
  have hml : (qs.map V.ref).length = F.length := by rw [List.length_map]; exact Paired.len hP
  have eN : ((((qs.map V.ref).length : Nat) : Int)).toNat = F.length := by rw [hml]; omega
  refine ⟨r, _, rfl, .inl (SqL.of hr1), _, rfl, by omega, by rw [hml]; omega, lc_robjs (n := ((((qs.map V.ref).length : Nat) : Int)).toNat) (fun H b (i : Nat) => H b = some (.lst [nv i])) (fun H1 H2 b x s h => s _ _ h) (by omega) (fun i hi H2 s2 R hRr => ?_) (fun H2 rA bs s2 hrA hbs => ?_)⟩
  · refine ⟨_, rfl, (by show 1 ≤ sizeLine; decide), fun p hp => hRr p _ (same_new hp _) ?_⟩
    rw [upd_same, Int.zero_add]; rfl
  rw [eN] at hbs
  have sr := same_new hrA (.lst (bs.map V.ref))
  have s12 := s2.trans sr
  have hbl : bs.length = F.length := by rw [Paired.len hbs, List.length_range]
  have hbs2 := Paired.mapP hbs fun _ _ e => sr _ _ e
  have hr2 : (upd H2 rA (.lst (bs.map V.ref))) rA = some (.lst (bs.map V.ref)) := upd_same
  have k02 : Kp H H2 := k1.trans (Kp.of s2)
  generalize upd H2 rA (.lst (bs.map V.ref)) = H3 at sr s12 hbs2 hr2 ⊢
  have k03 : Kp H H3 := k1.trans (Kp.of s12)
  have hT3 := hT1.same s12
  refine ⟨_, rfl, _, rfl, n, l, ps, rfl, k03.lanes hL, hlen, hin, hn, hT3, fun rB zs H4 k4 hT4 hrBn O2 hrB hz hzl hsrt hmem => ?_⟩
  rw [← eF] at O2 hmem q
  have hr4 := k4.lst hr2
  have ziz : ∀ z ∈ zs, iz (kz z) = z.2 ∧ kz z ∈ steps F ps := fun z hz => by
    obtain ⟨k, hk, e⟩ := List.mem_map.mp ((hmem z.2).mp (List.mem_map.mpr ⟨z, hz, rfl⟩))
    have : kz z = k := by
      unfold kz
      rw [← e]
      exact Prod.ext (Int.toNat_natCast _) (Int.toNat_natCast _)
    rw [this]; exact ⟨e, hk⟩
  have up := steps_up O hin
  have hBA : rB ≠ rA := fun e => hrBn _ (by rw [e]; exact hr2)
  have lt := steps_lt O hin
  refine ⟨rB, rfl, ⟨_, SqL.of hrB⟩, for_list (K := K) (a := rB) (xs := zs.map fun z => V.ref z.1) (fun i σ H5 => ∃ (W : Nat → List Nat) (bs : List Addr) (v3 : Option V), σ = [some (.int (n : Int)), some (.ref l), some (.ref rA), v3] ∧ SameT rA H4 H5 ∧ H5 rA = some (.lst (bs.map V.ref)) ∧ bs.length = F.length ∧ (∀ j b, bs[j]? = some b → b ≠ rA ∧ H5 b = some (.lst ((W j).map nv))) ∧ Rws (steps F ps) ((zs.take i).map kz) F.length W)
    ⟨fun j => [j], bs, none, rfl, SameT.refl, hr4, hbl, fun j b hb => ?_, rws_start _ _⟩ (fun i σ H5 _ ⟨_, _, _, _, s5, _⟩ => SqL.of (s5 _ _ hBA hrB)) ?_ ?_⟩
  · obtain ⟨i, hi, hbH⟩ := paired_at hbs2 hb
    obtain ⟨_, _, hbH2⟩ := paired_at hbs hb
    have hj : j < F.length := by have := (List.getElem?_eq_some_iff.mp hb).1; omega
    rw [List.getElem?_range hj] at hi
    cases hi
    exact ⟨fun e => (by rw [e, hrA] at hbH2; cases hbH2), k4.lst hbH⟩
  · rintro i y σ H5 hy ⟨W, bs', v3, rfl, s5, hr5, hbl5, hb5, rw5⟩
    rw [List.getElem?_map] at hy
    cases ezi : zs[i]? with
    | none => rw [ezi] at hy; cases hy
    | some zz =>
      rw [ezi] at hy
      have ey : y = .ref zz.1 := (Option.some.inj hy).symm
      subst ey
      have hzm := List.mem_of_getElem? ezi
      obtain ⟨eiz, hst⟩ := ziz zz hzm
      have hzt := hz zz hzm
      obtain ⟨l1, l2⟩ := lt _ hst
      have e1 : zz.2.1 = ((kz zz).1 : Int) := (congrArg Prod.fst eiz).symm
      have e2 : zz.2.2 = ((kz zz).2 : Int) := (congrArg Prod.snd eiz).symm
      have zt5 : H5 zz.1 = some (.tup (pairOf zz.2)) := s5 _ _ (fun e => by rw [e, hr4] at hzt; cases hzt) hzt
      obtain ⟨b1, hb1⟩ : ∃ b1, bs'[(kz zz).1]? = some b1 := ⟨_, List.getElem?_eq_getElem (by omega)⟩
      obtain ⟨b2, hb2⟩ : ∃ b2, bs'[(kz zz).2]? = some b2 := ⟨_, List.getElem?_eq_getElem (by omega)⟩
      obtain ⟨n1, h1⟩ := hb5 _ _ hb1
      obtain ⟨n2, h2⟩ := hb5 _ _ hb2
      have at1 : atI (bs'.map V.ref) zz.2.1 = some (.ref b1) := by rw [e1]; exact atI_nat (by rw [List.getElem?_map, hb1]; rfl)
      have at2 : atI (bs'.map V.ref) zz.2.2 = some (.ref b2) := by rw [e2]; exact atI_nat (by rw [List.getElem?_map, hb2]; rfl)
      have htk : (zs.take (i + 1)).map kz = (zs.take i).map kz ++ [kz zz] := by rw [take_succ_get ezi, List.map_append]; rfl
      have hdone : ∀ a b, (a, b) ∈ (zs.take i).map kz → a ≤ (kz zz).1 ∧ a < b ∧ a < F.length ∧ b < F.length := fun a b h => by
        obtain ⟨z0, hz0, e0⟩ := List.mem_map.mp h
        have hz0m := List.mem_of_mem_take hz0
        obtain ⟨q1, q2⟩ := ziz z0 hz0m
        rw [e0] at q1 q2
        have q3 := lt _ q2
        refine ⟨?_, up _ _ q2, q3.1, q3.2⟩
        obtain ⟨j, hj⟩ := List.mem_iff_getElem?.mp hz0
        have hj1 := (List.getElem?_eq_some_iff.mp hj).1
        rw [List.length_take] at hj1
        rw [List.getElem?_take_of_lt (by omega)] at hj
        obtain ⟨g1, g2⟩ := List.getElem?_eq_some_iff.mp hj
        obtain ⟨g3, g4⟩ := List.getElem?_eq_some_iff.mp ezi
        have hpw := List.pairwise_iff_getElem.mp (List.pairwise_map.mp hsrt) j i g1 g3 (by omega)
        rw [g2, g4] at hpw
        have q4 : z0.2.1 = (a : Int) := (congrArg Prod.fst q1).symm
        unfold plt at hpw
        omega
      have hW : ∀ j, j < F.length → (W j).length ≤ j + 1 := rws_len (fun a b h => (hdone a b h).2.1) (fun p h => (hdone p.1 p.2 h).2.2) rw5
      have rnext := rws_step hst ⟨l1, l2⟩ (up _ _ hst) (fun a b h => (hdone a b h).1) (fun a b h => (hdone a b h).2.1) rw5
      refine ⟨_, rfl, _, rfl, zz.1, _, _, _, rfl, rfl, SqT.of zt5, rfl, rA, _, _, V.ref b2, rfl, rfl, SqL.of hr5, at2, b2, _, rfl, .inl (SqL.of h2), _, rfl, _, rfl, zz.1, _, _, _, rfl, rfl, SqT.of zt5, rfl, rA, _, _, V.ref b1, rfl, rfl, SqL.of hr5, at1, b1, _, rfl, .inl (SqL.of h1), _, _, rfl, rfl, _, rfl, ?_⟩
      refine ite2 (fun cc => ?_) (fun cc => ?_)
      · have hw1 := hW _ l1
        refine ⟨_, rfl, _, rfl, zz.1, _, _, _, rfl, rfl, SqT.of zt5, rfl, rA, _, _, V.ref b1, rfl, rfl, SqL.of hr5, at1, _, rfl, zz.1, _, _, _, rfl, rfl, SqT.of zt5, rfl, (by show 1 ≤ sizeLine; decide), fun e he => ?_⟩
        have se := same_new he (.lst [V.int zz.2.2])
        refine ⟨b1, e, _, [V.int zz.2.2], rfl, rfl, se _ _ h1, upd_same, by rw [List.length_map, List.length_singleton, sizeLine_eq]; omega, fun p hp => ?_⟩
        have sp := same_new hp (.lst ((W (kz zz).1).map nv ++ [V.int zz.2.2]))
        have sx := se.trans sp
        have hpr : p ≠ rA := fun y => by rw [y, se _ _ hr5] at hp; cases hp
        refine ⟨_, rfl, _, rfl, zz.1, _, _, _, rfl, rfl, SqT.of (sx _ _ zt5), rfl, rA, _, zz.2.2, (kz zz).2, rfl, rfl, sx _ _ hr5, ixN_natD e2 (by rw [List.length_map]; omega), ?_⟩
        have esr : setRow W (kz zz) = fun k => if k = (kz zz).2 then W (kz zz).1 ++ [(kz zz).2] else W k := by
          unfold setRow
          rw [if_pos]
          have := of_decide_eq_true cc
          rw [List.length_map, List.length_map] at this
          omega
        refine ⟨setRow W (kz zz), bs'.set (kz zz).2 p, _, rfl, fun b u nb e => ?_, ?_, by rw [List.length_set]; exact hbl5, fun k b hk => ?_, by rw [htk]; exact rnext⟩
        · rw [upd_ne nb]; exact sx _ _ (s5 b u nb e)
        · rw [upd_same, List.map_set]
        · rw [List.getElem?_set] at hk
          by_cases c : (kz zz).2 = k
          · rw [if_pos c, if_pos (by omega)] at hk
            have eb : p = b := Option.some.inj hk
            rw [← eb, esr, upd_ne hpr, upd_same]
            refine ⟨hpr, ?_⟩
            show _ = some (HO.lst (List.map nv (if k = (kz zz).2 then W (kz zz).1 ++ [(kz zz).2] else W k)))
            rw [if_pos c.symm, List.map_append, e2]; rfl
          · rw [if_neg c] at hk
            obtain ⟨g1, g2⟩ := hb5 k b hk
            rw [upd_ne g1, esr]
            refine ⟨g1, ?_⟩
            show _ = some (HO.lst (List.map nv (if k = (kz zz).2 then W (kz zz).1 ++ [(kz zz).2] else W k)))
            rw [if_neg (Ne.symm c)]
            exact sx _ _ g2
      · refine ⟨W, bs', _, rfl, s5, hr5, hbl5, hb5, ?_⟩
        rw [htk]
        have : setRow W (kz zz) = W := by
          unfold setRow
          rw [if_neg]
          intro h
          refine cc (decide_eq_true ?_)
          rw [List.length_map, List.length_map]
          omega
        rw [this] at rnext
        exact rnext
  · rintro σ H5 ⟨W, bs', v3, rfl, s5, hr5, hbl5, hb5, rw5⟩
    rw [List.length_map, List.take_length] at rw5
    refine ⟨_, rfl, q rA W (zs.map kz) H5 (fun b u nt e => s5 b u (fun y => ?_) (k4 b u nt (k03 b u nt e))) (tab_butR hT4 hr4 s5) O2 ⟨bs', hr5, hbl5, fun j b hb => (hb5 j b hb).2⟩ (fun k => ?_) rw5⟩
    · rw [y] at e
      have := k02 _ _ nt e
      rw [hrA] at this; cases this
    · rw [List.mem_map]
      constructor
      · rintro ⟨zz, hzz, rfl⟩
        exact (ziz zz hzz).2
      · intro hk
        obtain ⟨zz, hzz, e⟩ := List.mem_map.mp ((hmem (iz k)).mpr (mem_iz.mpr hk))
        exact ⟨zz, hzz, iz_inj ((ziz zz hzz).1.trans e)⟩
set_option maxHeartbeats 0 in
theorem ok_depths (d : DefAt K mg "depths" sDepths PDepths fDepths gDepths) (z : Zs mg) (dLongestRows : DefAt K mg "longest_rows" sLongestRows PLongestRows fRows gRows) (GLongestRows : FnOk P w K mg base CX0 7 fRows gRows PLongestRows (spRows T)) : FnOk P w K mg base CX0 8 fDepths gDepths PDepths (spDepths T) := by
  refine d.F.ok scDepths (fun vs H Q E h => ?_) (fun cdv A outer s H vs Q E hr h => ?_)
  · obtain ⟨n, l, ps, rfl, _⟩ := h
    rfl
  obtain ⟨n, l, ps, rfl, hL, hlen, hin, hn, hT, q⟩ := h
  refine ⟨_, (pss_one (ps_ret (pe_lc csDepths0 rfl (pi_list (pe_call GLongestRows (hr.mono (by decide)) rfl dLongestRows.m dLongestRows.F.kp dLongestRows.b .nil pass0 (pa_cons (pv 0) (pa_cons (pv 1) pa_nil)))) (fun _ _ _ _ => pcs_nil) (fun _ _ _ _ => (pe_callB (call_len_seqK (K := K) rfl) rfl z.len bt_len (pa_cons (pv 0) pa_nil)))))), ?_⟩
  refine ⟨_, rfl, _, rfl, n, l, ps, rfl, hL, hlen, hin, hn, hT, fun r W done H1 k1 hT1 O ⟨bs, hr1, hbl, hb⟩ hmem rw1 => ?_⟩
  generalize partsC n ps = F at O hbl hmem rw1 q
  have hFl := parts_len O
  refine ⟨r, rfl, ⟨_, SqL.of hr1⟩, lc_list (K := K) (a := r) (xs := bs.map V.ref) (fun i ys H2 => ys = (List.range i).map (fun j => nv (W j).length) ∧ H2 = H1) ⟨rfl, rfl⟩ (fun i ys H2 hi ⟨e, e2⟩ => ?_) (by rw [List.length_map]; exact small (by omega)) (fun i x ys H2 hx ⟨e, e2⟩ => ?_) (fun ys H2 ⟨e, e2⟩ c hc => ?_)⟩
  · subst e e2
    exact ⟨SqL.of hr1, by rw [List.length_map, List.length_range]; exact Nat.le_refl _⟩
  · subst e e2
    rw [List.getElem?_map] at hx
    cases eb : bs[i]? with
    | none => rw [eb] at hx; cases hx
    | some b =>
      rw [eb] at hx
      have ex : x = .ref b := (Option.some.inj hx).symm
      subst ex
      refine yes_of (iteT ⟨_, rfl, b, _, rfl, .inl (SqL.of (hb i b eb)), ?_, rfl⟩)
      rw [List.range_succ, List.map_append, List.length_map]; rfl
  subst e e2
  have sc := same_new hc (.lst ((List.range (bs.map V.ref).length).map fun j => nv (W j).length))
  refine q c _ _ (k1.trans (Kp.of sc)) (hT1.same sc) (rws_depth hmem (steps_lt O hin) rw1) ?_
  rw [upd_same, List.length_map, hbl]
  refine congrArg (fun x => some (HO.lst x)) (List.map_congr_left fun j hj => ?_)
  rw [if_pos (List.mem_range.mp hj)]
set_option maxHeartbeats 0 in
theorem ok_deepest (d : DefAt K mg "deepest" sDeepest PDeepest fDeep gDeep) (z : Zs mg) (dLongestRows : DefAt K mg "longest_rows" sLongestRows PLongestRows fRows gRows) (GLongestRows : FnOk P w K mg base CX0 7 fRows gRows PLongestRows (spRows T)) : FnOk P w K mg base CX0 8 fDeep gDeep PDeepest (spDeepest T) := by
  refine d.F.ok scDeepest (fun vs H Q E h => ?_) (fun cdv A outer s H vs Q E hr h => ?_)
  · obtain ⟨n, l, ps, rfl, _⟩ := h
    rfl
  obtain ⟨n, l, ps, rfl, hL, hlen, hin, hn, hT, q⟩ := h
  refine ⟨_, (pss_one (ps_ret (pe_maxlen (K := K) rfl rfl rfl z.max rfl z.len (pe_call GLongestRows (hr.mono (by decide)) rfl dLongestRows.m dLongestRows.F.kp dLongestRows.b .nil pass0 (pa_cons (pv 0) (pa_cons (pv 1) pa_nil)))))), ?_⟩
  refine ⟨_, rfl, _, rfl, n, l, ps, rfl, hL, hlen, hin, hn, hT, fun r W done H1 k1 hT1 O ⟨bs, hr1, hbl, hb⟩ hmem rw1 => ?_⟩
  generalize partsC n ps = F at O hbl hmem rw1 q
  have hFl := parts_len O
  have up := steps_up O hin
  have lt := steps_lt O hin
  have hls : ∀ j, j < F.length → ((List.range F.length).map fun j => (W j).length).getD j 0 = (W j).length := fun j hj => by
    rw [List.getD_eq_getElem?_getD, List.getElem?_map, List.getElem?_range hj]; rfl
  refine ⟨r, bs, (List.range F.length).map fun j => (W j).length, rfl, SqL.of hr1, fun i b hbi => ⟨_, SqL.of (hb i b hbi), ?_⟩, fun c hc => ⟨fun e => ?_, fun i b hbi hbest => ?_⟩⟩
  · have hi := (List.getElem?_eq_some_iff.mp hbi).1
    rw [List.length_map, hls i (by omega)]
  · have sc := same_new hc (.lst [])
    have h0 : F.length = 0 := by rw [← hbl, e]; rfl
    exact q c [] _ (k1.trans (Kp.of sc)) (hT1.same sc) ⟨fun k a b h => (by simp at h), fun _ => rfl, fun x hx => (by cases hx), fun h => (by omega)⟩ (Nat.zero_le _) upd_same
  · have sc := same_new hc (.lst [])
    have hi : i < F.length := by have := (List.getElem?_eq_some_iff.mp hbi).1; omega
    have hle : ∀ j, j < F.length → (W j).length ≤ (W i).length := fun j hj => by
      have := hbest j (by omega)
      rw [hls j hj, hls i hi] at this
      exact this
    refine q b (W i) _ (k1.trans (Kp.of sc)) (hT1.same sc) ⟨rw1.chain i hi, fun h => by omega, rw1.rng i hi, fun _ => ⟨_, rws_depth hmem lt rw1, fun j hj => ?_, i, hi, if_pos hi⟩⟩ ?_ (sc _ _ (hb i b hbi))
    · show (if j < F.length then (W j).length else 1) ≤ _
      rw [if_pos hj]; exact hle j hj
    · have := rws_len (fun a b h => up a b ((hmem _).mp h)) (fun p h => lt p ((hmem p).mp h)) rw1 i hi
      omega
end
def spLPairs : Sp := fun vs H Q _ => ∃ (f g : Addr) (zs us : L2.Zs), vs = [.ref f, .ref g] ∧ H f = some (.lst (zs.map fun z => V.ref z.1)) ∧ H g = some (.lst (us.map fun z => V.ref z.1)) ∧ (∀ z ∈ zs, H z.1 = some (.tup (pairOf z.2))) ∧ (∀ z ∈ us, H z.1 = some (.tup (pairOf z.2))) ∧
  zs.map (·.2) = us.map (·.2) ∧ zs.length ≤ 63 ∧ ∀ H', Same H H' → Q (.bl true) H'
theorem plt_unique : ∀ {l m : List (Int × Int)}, l.Pairwise plt → m.Pairwise plt → (∀ x, x ∈ l ↔ x ∈ m) → l = m := by
  intro l
  induction l with
  | nil =>
    intro m _ _ h
    cases m with
    | nil => rfl
    | cons b m => exact absurd ((h b).mpr List.mem_cons_self) (by simp)
  | cons a l ih =>
    intro m h1 h2 h
    cases m with
    | nil => exact absurd ((h a).mp List.mem_cons_self) (by simp)
    | cons b m =>
      obtain ⟨x1, x2⟩ := List.pairwise_cons.mp h1
      obtain ⟨y1, y2⟩ := List.pairwise_cons.mp h2
      have irr : ∀ {u v : Int × Int}, plt u v → plt v u → False := fun {u v} p q => by unfold plt at p q; omega
      have e : a = b := by
        rcases List.mem_cons.mp ((h a).mp List.mem_cons_self) with c | c
        · exact c
        rcases List.mem_cons.mp ((h b).mpr List.mem_cons_self) with c' | c'
        · exact c'.symm
        exact (irr (x1 b c') (y1 a c)).elim
      subst e
      refine congrArg (a :: ·) (ih x2 y2 fun x => ⟨fun hx => ?_, fun hx => ?_⟩)
      · rcases List.mem_cons.mp ((h x).mp (List.mem_cons_of_mem _ hx)) with c | c
        · have := x1 x hx
          rw [c] at this
          exact (irr this this).elim
        · exact c
      · rcases List.mem_cons.mp ((h x).mpr (List.mem_cons_of_mem _ hx)) with c | c
        · have := y1 x hx
          rw [c] at this
          exact (irr this this).elim
        · exact c
section
variable {P : Program} {w : World} {K : PySem.W.Frag} {mg : Str → Option Value} {base : Heap} {T : Addr}
variable {fWholeRow fLPairs : Addr} {gWholeRow gLPairs : FuncData}
theorem ok_lpairs (d : DefAt K mg "_law_pairs" sLPairs PLPairs fLPairs gLPairs) (z : Zs mg) (dLWholeRow : DefAt K mg "_law_whole_row" sLWholeRow PLWholeRow fWholeRow gWholeRow) (GLWholeRow : FnOk P w K mg base CX0 2 fWholeRow gWholeRow PLWholeRow spWholeRow) : FnOk P w K mg base CX0 3 fLPairs gLPairs PLPairs spLPairs := by
  refine d.F.ok scLPairs (fun vs H Q E h => ?_) (fun cdv A outer s H vs Q E hr h => ?_)
  · obtain ⟨f, g, zs, us, rfl, _⟩ := h
    rfl
  obtain ⟨f, g, zs, us, rfl, hf, hg, hz, hu1, he, hl, q⟩ := h
  have hu := hu_of hr
  have hu0 := Nat.lt_of_succ_lt hu
  have hzu : us.length = zs.length := by
    have := congrArg List.length he
    rw [List.length_map, List.length_map] at this
    exact this.symm
  refine ⟨_, (pss_cons (ps_if (PW.pt (pw_or (pt_not (pt_val (pe_callB call_isi rfl z.isinstance bt_isinstance (pa_cons (pv 0) (pa_cons (pe_bltn (v := .ty "list") rfl z.list bt_list rfl) pa_nil))))) (pw_or1 (pt_cmpR op_ne (pe_callB call_len_seq rfl z.len bt_len (pa_cons (pv 0) pa_nil)) (pe_callB call_len_seq rfl z.len bt_len (pa_cons (pv 1) pa_nil)) (nomark _))))) (pss_one (ps_ret pe_bl)) pss_nil)
      (pss_cons (ps_for PassesOwn.never rfl (pi_range1 rfl z.range (pa_cons (pe_callB call_len_seq rfl z.len bt_len (pa_cons (pv 1) pa_nil)) pa_nil)) (pg_name (i := 2) scLPairs.nd rfl (by first | exact Or.inl rfl | exact Or.inr rfl)) (pss_cons (ps_if (PW.pt (pw_or (pt_not (pt_val (pe_callB call_isi rfl z.isinstance bt_isinstance (pa_cons (pe_ix ix_list (pv 0) (pv 2) (fun _ _ => rfl)) (pa_cons (pe_bltn (v := .ty "tuple") rfl z.tuple bt_tuple rfl) pa_nil))))) (pw_or1 (pt_not (pt_val (pe_call GLWholeRow (hr.mono (by decide)) rfl dLWholeRow.m dLWholeRow.F.kp dLWholeRow.b .nil pass0 (pa_cons (pe_callTy call_list_of rfl z.list bt_list (pa_cons (pe_ix ix_list (pv 0) (pv 2) (fun _ _ => rfl)) pa_nil)) pa_nil))))))) (pss_one (ps_ret pe_bl)) pss_nil)
      (pss_one (ps_if (pt_cmpR (op_neT hu0) (pe_ix ix_list (pv 0) (pv 2) (fun _ _ => rfl)) (pe_ix ix_list (pv 1) (pv 2) (fun _ _ => rfl)) (nomark _)) (pss_one (ps_ret pe_bl)) pss_nil))))
      (pss_one (ps_ret pe_bl)))), ?_⟩
  have m1 : (zs.map fun z => V.ref z.1).length = zs.length := List.length_map _
  have m2 : (us.map fun z => V.ref z.1).length = zs.length := by rw [List.length_map]; exact hzu
  refine ⟨_, rfl, _, _, _, _, rfl, .lst hf, kit_list_list, _, rfl, ?_⟩
  refine iteF ⟨_, rfl, f, _, rfl, .inl (SqL.of hf), _, rfl, g, _, rfl, .inl (SqL.of hg), rfl, _, rfl, ?_⟩
  rw [m1, m2]
  refine iteNS rfl ?_
  refine ⟨_, rfl, g, _, rfl, .inl (SqL.of hg), _, rfl, (by omega), (by rw [m2]; omega), for_range (n := ((((us.map fun z : Addr × Int × Int => V.ref z.1).length : Nat) : Int)).toNat) (fun i σ H2 => ∃ v, σ = [some (.ref f), some (.ref g), v] ∧ Same H H2) ⟨none, rfl, Same.refl _⟩ ?_ ?_⟩
  · rintro i σ H2 hi ⟨v, rfl, s2⟩
    have hi' : i < zs.length := by rw [m2] at hi; omega
    have e0 : (0 : Int) + (i : Int) = (i : Int) := Int.zero_add _
    rw [e0]
    have a1 : zs[i]? = some zs[i] := List.getElem?_eq_getElem hi'
    have b1 : us[i]? = some (us[i]'(by omega)) := List.getElem?_eq_getElem _
    have xa : atI (zs.map fun z => V.ref z.1) (i : Int) = some (.ref zs[i].1) := atI_nat (by rw [List.getElem?_map, a1]; rfl)
    have xb : atI (us.map fun z => V.ref z.1) (i : Int) = some (.ref (us[i]'(by omega)).1) := atI_nat (by rw [List.getElem?_map, b1]; rfl)
    have hA := s2 _ _ (hz _ (List.mem_of_getElem? a1))
    have hB := s2 _ _ (hu1 _ (List.mem_of_getElem? b1))
    have ek : (us[i]'(by omega)).2 = zs[i].2 := by
      have := congrArg (fun l => l[i]?) he
      simp only [List.getElem?_map, a1, b1] at this
      exact (Option.some.inj this).symm
    rw [ek] at hB
    have hf2 := s2 _ _ hf
    have hg2 := s2 _ _ hg
    refine ⟨_, rfl, _, rfl, f, _, _, _, rfl, rfl, SqL.of hf2, xa, _, _, _, _, rfl, .tup hA, kit_tup_tup, _, rfl, ?_⟩
    refine iteF ⟨_, rfl, _, rfl, f, _, _, _, rfl, rfl, SqL.of hf2, xa, _, _, rfl, .inr (SqT.of hA), fun e he => ?_⟩
    have se := same_new he (.lst (pairOf zs[i].2))
    refine ⟨e, [zs[i].2.1, zs[i].2.2], rfl, upd_same, (by show 2 ≤ 1000; decide), _, rfl, ?_⟩
    refine iteF ?_
    refine ⟨_, rfl, _, rfl, f, _, _, _, rfl, rfl, SqL.of (se _ _ hf2), xa, _, rfl, _, rfl, g, _, _, _, rfl, rfl, SqL.of (se _ _ hg2), xb, _, _, [zs[i].2.1, zs[i].2.2], [zs[i].2.1, zs[i].2.2], rfl, rfl, SqT.of (se _ _ hA), SqT.of (se _ _ hB), rfl, _, rfl, ?_⟩
    refine iteNS rfl ?_
    exact ⟨_, rfl, s2.trans se⟩
  · rintro σ H2 ⟨v, rfl, s2⟩
    exact q H2 s2
end
theorem mem_si {F : List (List Int)} {ps : Lanes} {k : Int × Int} : k ∈ (steps F ps).map iz ↔ ∃ p ∈ ps, iz (stp F p) = k ∧ k.1 ≠ k.2 := by
  rw [List.mem_map]
  constructor
  · rintro ⟨k0, h, rfl⟩
    obtain ⟨p, hp, rfl, hne⟩ := mem_steps.mp h
    exact ⟨p, hp, rfl, fun e => hne (by have e' : ((stp F p).1 : Int) = ((stp F p).2 : Int) := e; omega)⟩
  · rintro ⟨p, hp, rfl, hne⟩
    exact ⟨stp F p, mem_steps.mpr ⟨p, hp, rfl, fun e => hne (congrArg (fun x : Nat => (x : Int)) e)⟩, rfl⟩
theorem in2 {us : L2.Zs} {k : Int × Int} : [k.1, k.2] ∈ us.map (fun z => [z.2.1, z.2.2]) ↔ k ∈ us.map (·.2) := by
  rw [List.mem_map, List.mem_map]
  constructor
  · rintro ⟨z, hz, e⟩
    have e1 := List.cons.inj e
    exact ⟨z, hz, Prod.ext e1.1 (List.cons.inj e1.2).1⟩
  · rintro ⟨z, hz, rfl⟩
    exact ⟨z, hz, rfl⟩
theorem nodup_snocP {l : List (Int × Int)} {x : Int × Int} (h : l.Nodup) (hx : x ∉ l) : (l ++ [x]).Nodup := by
  rw [List.nodup_append]
  exact ⟨h, by simp, fun a ha b hb e => hx (by rw [← List.mem_singleton.mp hb, ← e]; exact ha)⟩
def spLaw (T : Addr) (K : PySem.W.Frag) : Sp := fun vs H Q _ => ∃ (a : Addr) (ns : List Int), vs = [.ref a] ∧ SqL K H a (ns.map V.int) ∧ ns.length ≤ 63 ∧ TabAt H T lamP lamQ ∧ ∀ H', Q (.bl true) H'
section
variable {P : Program} {w : World} {K : PySem.W.Frag} {mg : Str → Option Value} {base : Heap} {T : Addr}
variable {fUpto fAt fLanesBy fParts fHold fNums fWholeRow fBetw fLPairs fDepths fDeep fLaw : Addr} {gUpto gAt gLanesBy gParts gHold gNums gWholeRow gBetw gLPairs gDepths gDeep gLaw : FuncData}
set_option maxHeartbeats 0 in
theorem ok_law (d : DefAt K mg "law" sLaw PLaw fLaw gLaw) (z : Zs mg) (dLUpto : DefAt K mg "_law_upto" sLUpto PLUpto fUpto gUpto) (GLUpto : FnOk P w K mg base CX0 1 fUpto gUpto PLUpto (spUpto K)) (dLAt : DefAt K mg "_law_at" sLAt PLAt fAt gAt) (GLAt : FnOk P w K mg base CX0 1 fAt gAt PLAt (spAt K))
    (dLLanesBy : DefAt K mg "_law_lanes_by" sLLanesBy PLLanesBy fLanesBy gLanesBy) (GLLanesBy : FnOk P w K mg base CX0 1 fLanesBy gLanesBy PLLanesBy (spLanesBy K)) 
    (dParts : DefAt K mg "parts" sParts PParts fParts gParts) (GParts : FnOk P w K mg base CX0 4 fParts gParts PParts (spParts T)) (dLPartsHold : DefAt K mg "_law_parts_hold" sLPartsHold PLPartsHold fHold gHold) (GLPartsHold : FnOk P w K mg base CX0 3 fHold gHold PLPartsHold spHold)
    (dPartNumbers : DefAt K mg "part_numbers" sPartNumbers PPartNumbers fNums gNums) (GPartNumbers : FnOk P w K mg base CX0 5 fNums gNums PPartNumbers (spNums T)) (dLWholeRow : DefAt K mg "_law_whole_row" sLWholeRow PLWholeRow fWholeRow gWholeRow) (GLWholeRow : FnOk P w K mg base CX0 2 fWholeRow gWholeRow PLWholeRow spWholeRow)
    (dBetweenParts : DefAt K mg "between_parts" sBetweenParts PBetweenParts fBetw gBetw) (GBetweenParts : FnOk P w K mg base CX0 6 fBetw gBetw PBetweenParts (spBetw T)) (dLPairs : DefAt K mg "_law_pairs" sLPairs PLPairs fLPairs gLPairs) (GLPairs : FnOk P w K mg base CX0 3 fLPairs gLPairs PLPairs spLPairs)
    (dDepths : DefAt K mg "depths" sDepths PDepths fDepths gDepths) (GDepths : FnOk P w K mg base CX0 8 fDepths gDepths PDepths (spDepths T)) (dDeepest : DefAt K mg "deepest" sDeepest PDeepest fDeep gDeep) (GDeepest : FnOk P w K mg base CX0 8 fDeep gDeep PDeepest (spDeepest T)) :
    FnOk P w K mg base CX0 9 fLaw gLaw PLaw (spLaw T K) := by
  refine (d.F.ok scLaw (k := 8) (fun vs H Q E h => ?_) (fun cdv A outer s H vs Q E hr h => ?_))
  · obtain ⟨a, ns, rfl, _⟩ := h
    rfl
  obtain ⟨a, ns, rfl, hS, hl, hT, q⟩ := h
  have hu := hu_of hr
  have hu0 := Nat.lt_of_succ_lt hu
  refine ⟨_, (pss_cons (ps_set (i := 0) scLaw.nd rfl (by first | exact Or.inl rfl | exact Or.inr rfl) (pe_slice sl_list (pv 0) po_none (po_some pe_int)))
      (pss_cons (ps_set (i := 1) scLaw.nd rfl (by first | exact Or.inl rfl | exact Or.inr rfl) (pe_op op_mod (pe_call GLAt (hr.mono (by decide)) rfl dLAt.m dLAt.F.kp dLAt.b .nil pass0 (pa_cons (pv 0) (pa_cons pe_int pa_nil))) (pe_call GLUpto (hr.mono (by decide)) rfl dLUpto.m dLUpto.F.kp dLUpto.b .nil pass0 (pa_cons (pv 0) (pa_cons pe_int (pa_cons pe_int pa_nil))))))
      (pss_cons (ps_set (i := 2) scLaw.nd rfl (by first | exact Or.inl rfl | exact Or.inr rfl) (pe_call GLLanesBy (hr.mono (by decide)) rfl dLLanesBy.m dLLanesBy.F.kp dLLanesBy.b .nil pass0 (pa_cons (pe_slice sl_list (pv 0) (po_some pe_int) po_none) (pa_cons (pv 1) (pa_cons (pe_op op_fdiv (pe_call GLAt (hr.mono (by decide)) rfl dLAt.m dLAt.F.kp dLAt.b .nil pass0 (pa_cons (pv 0) (pa_cons pe_int pa_nil))) pe_int) pa_nil)))))
      (pss_cons (ps_set (i := 3) scLaw.nd rfl (by first | exact Or.inl rfl | exact Or.inr rfl) (pe_call GParts (hr.mono (by decide)) rfl dParts.m dParts.F.kp dParts.b .nil pass0 (pa_cons (pv 1) (pa_cons (pe_callTy call_list_of rfl z.list bt_list (pa_cons (pv 2) pa_nil)) pa_nil))))
      (pss_cons (ps_if (pt_not (pt_val (pe_call GLPartsHold (hr.mono (by decide)) rfl dLPartsHold.m dLPartsHold.F.kp dLPartsHold.b .nil pass0 (pa_cons (pv 3) (pa_cons (pv 1) (pa_cons (pv 2) pa_nil)))))) (pss_one (ps_ret pe_bl)) pss_nil)
      (pss_cons (ps_set (i := 4) scLaw.nd rfl (by first | exact Or.inl rfl | exact Or.inr rfl) (pe_op op_rep (pe_lst (pa_cons pe_int pa_nil)) (pv 1)))
      (pss_cons (ps_for PassesOwn.never rfl (pi_range1 rfl z.range (pa_cons (pe_callB call_len_seq rfl z.len bt_len (pa_cons (pv 3) pa_nil)) pa_nil)) (pg_name (i := 5) scLaw.nd rfl (by first | exact Or.inl rfl | exact Or.inr rfl)) (pss_one (ps_for PassesOwn.never rfl (pi_list (pe_ix ix_list (pv 3) (pv 5) (fun _ _ => rfl))) (pg_name (i := 13) scLaw.nd rfl (by first | exact Or.inl rfl | exact Or.inr rfl)) (pss_one (ps_asg (pv 5) (pg_sub (pv 4) (pv 13) set_list))))))
      (pss_cons (ps_set (i := 6) scLaw.nd rfl (by first | exact Or.inl rfl | exact Or.inr rfl) (pe_call GPartNumbers (hr.mono (by decide)) rfl dPartNumbers.m dPartNumbers.F.kp dPartNumbers.b .nil pass0 (pa_cons (pv 1) (pa_cons (pe_callTy call_list_of rfl z.list bt_list (pa_cons (pv 2) pa_nil)) pa_nil))))
      (pss_cons (ps_if (PW.pt (pw_or (pt_not (pt_val (pe_call GLWholeRow (hr.mono (by decide)) rfl dLWholeRow.m dLWholeRow.F.kp dLWholeRow.b .nil pass0 (pa_cons (pv 6) pa_nil)))) (pw_or1 (pt_cmpR (op_neL hu0) (pv 6) (pv 4) (nomark _))))) (pss_one (ps_ret pe_bl)) pss_nil)
      (pss_cons (ps_set (i := 7) scLaw.nd rfl (by first | exact Or.inl rfl | exact Or.inr rfl) (pe_lst pa_nil))
      (pss_cons (ps_for PassesOwn.never rfl (pi_list (pv 2)) (pg_name (i := 8) scLaw.nd rfl (by first | exact Or.inl rfl | exact Or.inr rfl)) (pss_cons (ps_set (i := 14) scLaw.nd rfl (by first | exact Or.inl rfl | exact Or.inr rfl) (pe_tup (pa_cons (pe_ix ix_list (pv 4) (pe_ix ix_tup (pv 8) pe_int (fun _ _ => rfl)) (fun _ _ => rfl)) (pa_cons (pe_ix ix_list (pv 4) (pe_ix ix_tup (pv 8) pe_int (fun _ _ => rfl)) (fun _ _ => rfl)) pa_nil))))
      (pss_one (ps_if (PW.pt (pw_and (pt_cmpR op_ne (pe_ix ix_tup (pv 14) pe_int (fun _ _ => rfl)) (pe_ix ix_tup (pv 14) pe_int (fun _ _ => rfl)) (nomark _)) (pw_and1 (pt_cmpR (op_notInT hu) (pv 14) (pv 7) (by with_unfolding_all rfl))))) (pss_one (ps_expr (pe_bm PySem.F.plainAttrs_list PySem.F.slot_list_append PySem.F.type_list_append mt_append (pv 7) (pa_cons (pv 14) pa_nil)))) pss_nil))))
      (pss_cons (ps_if (pt_not (pt_val (pe_call GLPairs (hr.mono (by decide)) rfl dLPairs.m dLPairs.F.kp dLPairs.b .nil pass0 (pa_cons (pe_call GBetweenParts (hr.mono (by decide)) rfl dBetweenParts.m dBetweenParts.F.kp dBetweenParts.b .nil pass0 (pa_cons (pv 1) (pa_cons (pe_callTy call_list_of rfl z.list bt_list (pa_cons (pv 2) pa_nil)) pa_nil))) (pa_cons (pe_callB call_sortedP rfl z.sorted bt_sorted (pa_cons (pv 7) pa_nil)) pa_nil))))) (pss_one (ps_ret pe_bl)) pss_nil)
      (pss_cons (ps_set (i := 9) scLaw.nd rfl (by first | exact Or.inl rfl | exact Or.inr rfl) (pe_op op_rep (pe_lst (pa_cons pe_int pa_nil)) (pe_callB call_len_seq rfl z.len bt_len (pa_cons (pv 3) pa_nil))))
      (pss_cons (ps_for PassesOwn.never rfl (pi_range1 rfl z.range (pa_cons (pe_callB call_len_seq rfl z.len bt_len (pa_cons (pv 3) pa_nil)) pa_nil)) (pg_name (i := 10) scLaw.nd rfl (by first | exact Or.inl rfl | exact Or.inr rfl)) (pss_one (ps_for PassesOwn.never rfl (pi_list (pv 7)) (pg_name (i := 14) scLaw.nd rfl (by first | exact Or.inl rfl | exact Or.inr rfl)) (pss_one (ps_asg (pe_callB (call_max2 rfl) rfl z.max bt_max (pa_cons (pe_ix ix_list (pv 9) (pe_ix ix_tup (pv 14) pe_int (fun _ _ => rfl)) (fun _ _ => rfl)) (pa_cons (pe_op op_add (pe_ix ix_list (pv 9) (pe_ix ix_tup (pv 14) pe_int (fun _ _ => rfl)) (fun _ _ => rfl)) pe_int) pa_nil))) (pg_sub (pv 9) (pe_ix ix_tup (pv 14) pe_int (fun _ _ => rfl)) set_list))))))
      (pss_cons (ps_set (i := 11) scLaw.nd rfl (by first | exact Or.inl rfl | exact Or.inr rfl) (pe_call GDepths (hr.mono (by decide)) rfl dDepths.m dDepths.F.kp dDepths.b .nil pass0 (pa_cons (pv 1) (pa_cons (pe_callTy call_list_of rfl z.list bt_list (pa_cons (pv 2) pa_nil)) pa_nil))))
      (pss_cons (ps_set (i := 12) scLaw.nd rfl (by first | exact Or.inl rfl | exact Or.inr rfl) (pe_call GDeepest (hr.mono (by decide)) rfl dDeepest.m dDeepest.F.kp dDeepest.b .nil pass0 (pa_cons (pv 1) (pa_cons (pe_callTy call_list_of rfl z.list bt_list (pa_cons (pv 2) pa_nil)) pa_nil))))
      (pss_cons (ps_if (PW.pt (pw_or (pt_not (pt_val (pe_call GLWholeRow (hr.mono (by decide)) rfl dLWholeRow.m dLWholeRow.F.kp dLWholeRow.b .nil pass0 (pa_cons (pv 11) pa_nil)))) (pw_or (pt_cmpR (op_neL hu0) (pv 11) (pv 9) (nomark _)) (pw_or1 (pt_not (pt_val (pe_call GLWholeRow (hr.mono (by decide)) rfl dLWholeRow.m dLWholeRow.F.kp dLWholeRow.b .nil pass0 (pa_cons (pv 12) pa_nil)))))))) (pss_one (ps_ret pe_bl)) pss_nil)
      (pss_cons (ps_for PassesOwn.never rfl (pi_range2 rfl z.range (pa_cons pe_int (pa_cons (pe_callB call_len_seq rfl z.len bt_len (pa_cons (pv 12) pa_nil)) pa_nil))) (pg_name (i := 5) scLaw.nd rfl (by first | exact Or.inl rfl | exact Or.inr rfl)) (pss_one (ps_if (pt_cmpR (op_notInT hu) (pe_tup (pa_cons (pe_ix ix_list (pv 12) (pe_op op_sub (pv 5) pe_int) (fun _ _ => rfl)) (pa_cons (pe_ix ix_list (pv 12) (pv 5) (fun _ _ => rfl)) pa_nil))) (pv 7) (by with_unfolding_all rfl)) (pss_one (ps_ret pe_bl)) pss_nil)))
      (pss_cons (ps_if (pt_cmpR op_eq (pv 1) pe_int (nomark _)) (pss_one (ps_ret (pe_cmpR (op_eqL hu0) (pv 12) (pe_lst pa_nil) (nomark _)))) pss_nil)
      (pss_one (ps_ret (pe_and (pe_cmpR op_eq (pe_callB call_len_seq rfl z.len bt_len (pa_cons (pv 12) pa_nil)) (pe_callB (call_maxI rfl) rfl z.max bt_max (pa_cons (pv 9) pa_nil)) (nomark _)) (pe_and (pe_cmpR op_ge (pe_ix ix_list (pv 12) pe_int (fun _ _ => rfl)) pe_int (nomark _)) (pe_one (pe_cmpR op_lt (pe_ix ix_list (pv 12) pe_int (fun _ _ => rfl)) (pe_callB call_len_seq rfl z.len bt_len (pa_cons (pv 3) pa_nil)) (nomark _)))))))))))))))))))))))))), ?_⟩
  -- script[:1000]
  refine ⟨_, rfl, _, rfl, a, _, rfl, hS, fun b hb => ?_⟩
  rw [cut_small hl]
  have hB : (upd H b (.lst (ns.map V.int))) b = some (.lst (ns.map V.int)) := upd_same
  have hT0 := hT.same (same_new hb (.lst (ns.map V.int)))
  generalize upd H b (.lst (ns.map V.int)) = H0 at hB hT0 ⊢
  -- count
  refine ⟨_, rfl, b, ns, 0, rfl, SqL.of hB, _, rfl, b, ns, _, _, rfl, SqL.of hB, hl, _, _, rfl, rfl, (by show (0 : Int) < 14; decide), ?_⟩
  have c1 : 0 ≤ ns.getD 0 0 % 14 := Int.emod_nonneg _ (by decide)
  have c2 : ns.getD 0 0 % 14 < 14 := Int.emod_lt_of_pos _ (by decide)
  obtain ⟨n, hn⟩ : ∃ n : Nat, ns.getD 0 0 % 14 = (n : Int) := ⟨(ns.getD 0 0 % 14).toNat, by omega⟩
  -- lanes
  obtain ⟨ms, hms, hml⟩ := cut_from ns 1 (by decide)
  refine ⟨_, rfl, _, rfl, b, _, rfl, SqL.of hB, fun c hc => ?_⟩
  rw [hms]
  have s1 : Same H0 (upd H0 c (.lst (ms.map V.int))) := same_new hc _
  refine ⟨_, rfl, _, rfl, b, ns, 0, rfl, SqL.of (s1 _ _ hB), _, _, rfl, rfl, ⟨by decide, by decide⟩, c, ms, (ns.getD 0 0 % 14), _, rfl, SqL.of upd_same, by omega, by omega, by omega, fun l ps H2 s2 hL hin hpl => ?_⟩
  have hin' : InR n ps := by rw [← hn]; exact hin
  have hps : ps.length ≤ 63 := by omega
  have hT2 := hT0.same (s1.trans s2)
  obtain ⟨as, hl4, hp4⟩ := id hL
  -- told
  refine ⟨_, rfl, _, rfl, l, _, rfl, .inl (SqL.of hl4), fun h hh => ?_⟩
  have s5 := same_new hh (.lst (as.map V.ref))
  have hH := list_copy hl4 hp4 hh
  have hT5 := hT2.same s5
  refine ⟨n, h, ps, by rw [← hn]; rfl, hH, by omega, hin', by omega, hT5, fun r qs F H6 sT hT6 hr6 hP6 O eF => ?_⟩
  have k26 : Kp H2 H6 := (Kp.of s5).trans (Kp.t hT5 sT)
  -- they hold
  refine ⟨_, rfl, _, rfl, _, rfl, r, l, qs, F, n, ps, by rw [← hn]; rfl, hr6, hP6, O, k26.lanes hL, by omega, hin', by omega, fun H7 s7 => ⟨_, rfl, iteF ?_⟩⟩
  have k27 := k26.trans (Kp.of s7)
  have hT7 := hT6.same s7
  have hr7 := s7 _ _ hr6
  have hP7 := Paired.mapP hP6 fun _ _ e => s7 _ _ e
  have hFl := parts_len O
  have hmq : (qs.map V.ref).length = F.length := by rw [List.length_map]; exact Paired.len hP6
  -- numbers
  refine ⟨(by show 1 ≤ sizeLine; decide), fun e2 he2 => ?_⟩
  have se2 := same_new he2 (.lst [.int 0])
  refine ⟨_, rfl, e2, (n : Int), [.int 0], rfl, by rw [← hn], upd_same, by omega, by omega, (by show 1 * (n : Int).toNat ≤ sizeLine; rw [sizeLine_eq]; omega), fun nA hnA => ?_⟩
  have erep : (List.replicate (n : Int).toNat [V.int 0]).flatten = List.replicate n (V.int 0) := by rw [List.flatten_replicate_singleton, Int.toNat_natCast]
  rw [erep]
  have s78 := se2.trans (same_new hnA (.lst (List.replicate n (V.int 0))))
  have hnA7 : H7 nA = none := se2.free hnA
  have hN8 : (upd (upd H7 e2 (.lst [.int 0])) nA (.lst (List.replicate n (V.int 0)))) nA = some (.lst (List.replicate n (V.int 0))) := upd_same
  generalize upd (upd H7 e2 (.lst [.int 0])) nA (.lst (List.replicate n (V.int 0))) = H8 at s78 hN8 ⊢
  have eN : ((((qs.map V.ref).length : Nat) : Int)).toNat = F.length := by rw [hmq]; omega
  refine ⟨_, rfl, r, _, rfl, .inl (SqL.of (s78 _ _ hr7)), _, rfl, (by omega), (by rw [hmq]; omega), for_range (n := ((((qs.map V.ref).length : Nat) : Int)).toNat) (fun i σ H9 => ∃ (v5 v13 : Option V), σ = [some (.ref b), some (.int (ns.getD 0 0 % 14)), some (.ref l), some (.ref r), some (.ref nA), v5, none, none, none, none, none, none, none, v13, none] ∧ Same H7 H9 ∧ H9 nA = some (.lst (setAll V.int (List.replicate n (V.int 0)) (numsFrom 0 (F.take i)))))
    ⟨none, none, rfl, s78, hN8⟩ ?_ ?_⟩
  · rintro i σ H9 hi ⟨v5, v13, rfl, s9, hN9⟩
    rw [Int.zero_add]
    have hi' : i < qs.length := by rw [List.length_map] at hi; omega
    have hqi : qs[i]? = some qs[i] := List.getElem?_eq_getElem hi'
    obtain ⟨part, hpi, hbp⟩ := paired_at hP7 hqi
    have hpm := List.mem_of_getElem? hpi
    have hti : (F.take i).length = i := by
      have := (List.getElem?_eq_some_iff.mp hpi).1
      rw [List.length_take]; omega
    have hnums : numsFrom 0 (F.take (i + 1)) = numsFrom 0 (F.take i) ++ part.map (fun x => (x, (i : Int))) := by rw [take_succ_get hpi, nums_snoc, hti, Nat.zero_add]
    refine ⟨_, rfl, _, rfl, r, _, _, V.ref qs[i], rfl, rfl, SqL.of (s9 _ _ hr7), atI_nat (by rw [List.getElem?_map, hqi]; rfl), qs[i], rfl, ⟨_, SqL.of (s9 _ _ hbp)⟩, for_list (K := K) (a := qs[i]) (xs := part.map V.int) (fun j σ H10 => ∃ (v13 : Option V), σ = [some (.ref b), some (.int (ns.getD 0 0 % 14)), some (.ref l), some (.ref r), some (.ref nA), some (.int (i : Int)), none, none, none, none, none, none, none, v13, none] ∧ Same H7 H10 ∧ H10 nA = some (.lst (setAll V.int (List.replicate n (V.int 0)) (numsFrom 0 (F.take i) ++ (part.take j).map fun x => (x, (i : Int))))))
      ⟨v13, rfl, s9, by rw [hN9]; simp⟩ (fun j σ H10 _ ⟨_, _, s10, _⟩ => SqL.of (s10 _ _ hbp)) ?_ ?_⟩
    · rintro j y σ H10 hj ⟨v13', rfl, s10, hN10⟩
      obtain ⟨x, rfl, hx⟩ := int_of hj
      have hxr := O.rg part hpm x (List.mem_of_getElem? hx)
      obtain ⟨xn, hxn⟩ : ∃ xn : Nat, x = (xn : Int) := ⟨x.toNat, by omega⟩
      refine ⟨_, rfl, _, rfl, _, rfl, nA, _, x, xn, rfl, rfl, hN10, ixN_natD hxn (by rw [setAll_len, List.length_replicate]; omega), ?_⟩
      refine ⟨_, rfl, same_put s10 hnA7 _, ?_⟩
      rw [upd_same, take_succ_get hx, List.map_append, ← List.append_assoc]
      show some (HO.lst _) = some (HO.lst (setAll V.int (List.replicate n (V.int 0)) (_ ++ [(x, (i : Int))])))
      rw [setAll_snoc, hxn, Int.toNat_natCast]
    · rintro σ H10 ⟨v13', rfl, s10, hN10⟩
      rw [List.length_map, List.take_length, ← hnums] at hN10
      exact ⟨_, _, rfl, s10, hN10⟩
  rintro σ H9 ⟨v5, v13, rfl, s9, hN9⟩
  rw [eN, List.take_length, setAll_parts O List.length_replicate] at hN9
  have hN9' : H9 nA = some (.lst ((numI n F).map V.int)) := by
    rw [hN9]
    unfold numI
    rw [List.map_map]; rfl
  clear hN9
  have k29 := k27.trans (Kp.of s9)
  have hT9 := hT7.same s9
  have hr9 := s9 _ _ hr7
  -- found
  obtain ⟨as9, hl9, hp9⟩ := k29.lanes hL
  refine ⟨_, rfl, _, rfl, l, _, rfl, .inl (SqL.of hl9), fun h2 hh2 => ?_⟩
  have s9a := same_new hh2 (.lst (as9.map V.ref))
  refine ⟨n, h2, ps, by rw [← hn]; rfl, list_copy hl9 hp9 hh2, hps, hin', by omega, hT9.same s9a, fun fA H11 k11 hT11 _ hfA => ?_⟩
  rw [← eF] at hfA
  have kA := (Kp.of s9a).trans k11
  have k211 := k29.trans kA
  have hN11 := kA.lst hN9'
  have hr11 := kA.lst hr9
  have hnl := numI_len n F
  refine ⟨_, rfl, fA, _, rfl, hfA, by omega, _, rfl, iteF ?_⟩
  refine ⟨_, rfl, _, rfl, fA, nA, numI n F, numI n F, rfl, rfl, SqL.of hfA, SqL.of hN11, _, rfl, ?_⟩
  rw [decide_eq_true rfl]
  refine iteF ?_
  -- steps
  refine ⟨(by show 0 ≤ sizeLine; decide), fun stA hst => ?_⟩
  have s12 := same_new hst (.lst [])
  obtain ⟨as11, hl11, hp11⟩ := k211.lanes hL
  have hm11 : (as11.map V.ref).length = ps.length := by rw [List.length_map]; exact Paired.len hp11
  refine ⟨_, rfl, l, rfl, ⟨_, SqL.of (s12 _ _ hl11)⟩, for_list (K := K) (a := l) (xs := as11.map V.ref) (fun i σ H12 => ∃ (us : L2.Zs) (v8 v14 : Option V), σ = [some (.ref b), some (.int (ns.getD 0 0 % 14)), some (.ref l), some (.ref r), some (.ref nA), v5, some (.ref fA), some (.ref stA), v8, none, none, none, none, v13, v14] ∧ Same H11 H12 ∧ H12 stA = some (.lst (us.map fun z => V.ref z.1)) ∧
      (∀ z ∈ us, H12 z.1 = some (.tup (pairOf z.2))) ∧ (us.map (·.2)).Nodup ∧ us.length ≤ i ∧ ∀ k, k ∈ us.map (·.2) ↔ k ∈ (steps F (ps.take i)).map iz)
    ⟨[], none, none, rfl, s12, upd_same, fun _ h => (by cases h), List.nodup_nil, Nat.le_refl _, fun k => Iff.rfl⟩ (fun i σ H12 _ ⟨_, _, _, _, s12, _⟩ => SqL.of (s12 _ _ hl11)) ?_ ?_⟩
  · rintro i y σ H12 hy ⟨us, v8, v14, rfl, s12, hU, hut, hun, hul, hum⟩
    obtain ⟨a, pq, rfl, hpi, ha⟩ := lane_at hp11 hy
    have hrg := hin' pq (List.mem_of_getElem? hpi)
    have hil := (List.getElem?_eq_some_iff.mp hpi).1
    obtain ⟨x1, hx1⟩ : ∃ x1 : Nat, pq.1 = (x1 : Int) := ⟨pq.1.toNat, by omega⟩
    obtain ⟨x2, hx2⟩ : ∃ x2 : Nat, pq.2 = (x2 : Int) := ⟨pq.2.toNat, by omega⟩
    have a1 : atI ((numI n F).map V.int) pq.1 = some (.int ((nm F pq.1 : Nat) : Int)) := by rw [hx1]; exact at_int (numI_at (by omega))
    have a2 : atI ((numI n F).map V.int) pq.2 = some (.int ((nm F pq.2 : Nat) : Int)) := by rw [hx2]; exact at_int (numI_at (by omega))
    refine ⟨_, rfl, _, rfl, a, _, _, _, rfl, rfl, SqT.of (s12 _ _ ha), rfl, nA, _, _, _, rfl, rfl, SqL.of (s12 _ _ hN11), a1, _, rfl, _, rfl, a, _, _, _, rfl, rfl, SqT.of (s12 _ _ ha), rfl, nA, _, _, _, rfl, rfl, SqL.of (s12 _ _ hN11), a2, (by show 2 ≤ sizeLine; decide), fun p hp => ?_⟩
    have sp := same_new hp (.tup [V.int ((nm F pq.1 : Nat) : Int), V.int ((nm F pq.2 : Nat) : Int)])
    have hpt : (upd H12 p (.tup [V.int ((nm F pq.1 : Nat) : Int), V.int ((nm F pq.2 : Nat) : Int)])) p = some (.tup (pairOf (iz (stp F pq)))) := upd_same
    have s13 := s12.trans sp
    have hU3 := sp _ _ hU
    have hut3 : ∀ z ∈ us, (upd H12 p (.tup [V.int ((nm F pq.1 : Nat) : Int), V.int ((nm F pq.2 : Nat) : Int)])) z.1 = some (.tup (pairOf z.2)) := fun z hz => sp _ _ (hut z hz)
    generalize upd H12 p (.tup [V.int ((nm F pq.1 : Nat) : Int), V.int ((nm F pq.2 : Nat) : Int)]) = H13 at hpt s13 hU3 hut3 ⊢
    have htk : ∀ k, k ∈ (steps F (ps.take (i + 1))).map iz ↔ k ∈ (steps F (ps.take i)).map iz ∨ (iz (stp F pq) = k ∧ k.1 ≠ k.2) := fun k => by
      rw [mem_si, mem_si, take_succ_get hpi]
      constructor
      · rintro ⟨p0, h0, h1⟩
        rcases List.mem_append.mp h0 with h0 | h0
        · exact .inl ⟨p0, h0, h1⟩
        · rw [List.mem_singleton.mp h0] at h1; exact .inr h1
      · rintro (⟨p0, h0, h1⟩ | h1)
        · exact ⟨p0, List.mem_append_left _ h0, h1⟩
        · exact ⟨pq, List.mem_append_right _ List.mem_cons_self, h1⟩
    refine ⟨_, rfl, p, _, _, _, rfl, rfl, SqT.of hpt, rfl, _, rfl, p, _, _, _, rfl, rfl, SqT.of hpt, rfl, rfl, _, rfl, ?_⟩
    by_cases cc : (iz (stp F pq)).1 = (iz (stp F pq)).2
    · rw [decide_eq_true (congrArg V.int cc)]
      refine iteF ⟨us, _, _, rfl, s13, hU3, hut3, hun, by omega, fun k => ?_⟩
      rw [hum k, htk k]
      refine ⟨.inl, fun h => h.elim id fun ⟨e, hne⟩ => absurd ?_ hne⟩
      rw [← e]
      exact cc
    · rw [decide_eq_false fun e => cc (V.int.inj e)]
      refine iteT ⟨_, rfl, _, rfl, p, [(iz (stp F pq)).1, (iz (stp F pq)).2], stA, us.map (·.1), us.map (fun z => [z.2.1, z.2.2]), rfl, rfl, hpt, by rw [hU3, List.map_map]; rfl, tups_paired hut3, fun k hk => ?_, _, rfl, ?_⟩
      · obtain ⟨z0, _, rfl⟩ := List.mem_map.mp hk
        rfl
      · by_cases ci : iz (stp F pq) ∈ us.map (·.2)
        · rw [decide_eq_true (in2.mpr ci)]
          refine iteF ⟨us, _, _, rfl, s13, hU3, hut3, hun, by omega, fun k => ?_⟩
          rw [hum k, htk k]
          refine ⟨.inl, fun h => h.elim id fun ⟨e, _⟩ => ?_⟩
          rw [← e, ← hum]; exact ci
        · rw [decide_eq_false fun e => ci (in2.mp e)]
          refine iteT ⟨_, rfl, .inl ⟨rfl, _, SqL.of hU3⟩, _, rfl, stA, _, _, rfl, rfl, hU3, small1000 (by rw [List.length_map]; omega), ?_⟩
          refine ⟨us ++ [(p, iz (stp F pq))], _, _, rfl, same_put s13 hst _, by rw [upd_same, List.map_append]; rfl, fun z hz => ?_, ?_, ?_, fun k => ?_⟩
          · have nz : z.1 ≠ stA := fun e => by
              rcases List.mem_append.mp hz with hz | hz
              · have := hut3 z hz
                rw [e, hU3] at this; cases this
              · rw [List.mem_singleton.mp hz] at e
                have e' : p = stA := e
                rw [e', hU3] at hpt; cases hpt
            rw [upd_ne nz]
            rcases List.mem_append.mp hz with hz | hz
            · exact hut3 z hz
            · rw [List.mem_singleton.mp hz]; exact hpt
          · rw [List.map_append]
            exact nodup_snocP hun ci
          · rw [List.length_append, List.length_singleton]; omega
          · rw [List.map_append, List.mem_append, hum k, htk k]
            refine or_congr Iff.rfl ⟨fun h => ?_, fun h => ?_⟩
            · have h' : k = iz (stp F pq) := List.mem_singleton.mp h
              rw [h']
              exact ⟨rfl, cc⟩
            · exact List.mem_singleton.mpr h.1.symm
  rintro σ H12 ⟨us, v8, v14, rfl, s12, hU, hut, hun, hul, hum⟩
  rw [hm11, List.take_length] at hum
  rw [hm11] at hul
  have k212 := k211.trans (Kp.of s12)
  have hT12 := hT11.same s12
  have hr12 := s12 _ _ hr11
  -- between
  obtain ⟨as12, hl12, hp12⟩ := k212.lanes hL
  refine ⟨_, rfl, _, rfl, l, _, rfl, .inl (SqL.of hl12), fun h3 hh3 => ?_⟩
  have s12a := same_new hh3 (.lst (as12.map V.ref))
  refine ⟨n, h3, ps, by rw [← hn]; rfl, list_copy hl12 hp12 hh3, hps, hin', by omega, hT12.same s12a, fun rB zs H14 k14 hT14 hrBn _ hrB hz hzl hsrt hmem => ?_⟩
  rw [← eF] at hmem
  have kB := (Kp.of s12a).trans k14
  have k214 := k212.trans kB
  have hU14 := kB.lst hU
  have hut14 : ∀ z ∈ us, H14 z.1 = some (.tup (pairOf z.2)) := fun z hz => kB.tup (hut z hz)
  have hr14 := kB.lst hr12
  refine ⟨_, rfl, stA, us, rfl, hU14, hut14, by omega, fun us' hp' hs' l2 hl2 => ?_⟩
  have sl2 := same_new hl2 (.lst (us'.map fun z => V.ref z.1))
  have hus' : (us'.map (·.2)).Pairwise plt := plt_of hs' ((hp'.map (·.2)).nodup_iff.mpr hun)
  have hkeys : zs.map (·.2) = us'.map (·.2) := plt_unique hsrt hus' fun k => by rw [hmem k, (hp'.map (·.2)).mem_iff, hum k]
  refine ⟨rB, l2, zs, us', rfl, sl2 _ _ hrB, upd_same, fun z hz' => sl2 _ _ (hz z hz'), fun z hz' => sl2 _ _ (hut14 z (hp'.mem_iff.mp hz')), hkeys, hzl, fun H15 s15 => ⟨_, rfl, iteF ?_⟩⟩
  have s14 := sl2.trans s15
  have k215 := k214.trans (Kp.of s14)
  have hT15 := hT14.same s14
  have hU15 := s14 _ _ hU14
  have hut15 : ∀ z ∈ us, H15 z.1 = some (.tup (pairOf z.2)) := fun z hz => s14 _ _ (hut14 z hz)
  have hr15 := s14 _ _ hr14
  -- the depths, as they are
  have up := steps_up O hin'
  have lt := steps_lt O hin'
  obtain ⟨D, hD⟩ : ∃ D, Depth (steps F ps) D := by
    have zk : ∀ z ∈ zs, iz (kz z) = z.2 ∧ kz z ∈ steps F ps := fun z hz => by
      obtain ⟨k, hk, e⟩ := List.mem_map.mp ((hmem z.2).mp (List.mem_map.mpr ⟨z, hz, rfl⟩))
      have : kz z = k := by
        unfold kz
        rw [← e]
        exact Prod.ext (Int.toNat_natCast _) (Int.toNat_natCast _)
      rw [this]; exact ⟨e, hk⟩
    have same : ∀ p, p ∈ zs.map kz ↔ p ∈ steps F ps := fun p => by
      rw [List.mem_map]
      constructor
      · rintro ⟨z, hz', rfl⟩
        exact (zk z hz').2
      · intro hk
        obtain ⟨z, hz', e⟩ := List.mem_map.mp ((hmem (iz p)).mpr (mem_iz.mpr hk))
        exact ⟨z, hz', iz_inj ((zk z hz').1.trans e)⟩
    obtain ⟨D, hD⟩ := depth_is (S := zs.map kz) (fun p hp => lt p ((same p).mp hp)) (fun i j h => up i j ((same _).mp h)) (by
      rw [List.pairwise_map]
      refine (List.Pairwise.and_mem.mp (List.pairwise_map.mp hsrt)).imp fun {a b} ⟨ha, hb, h⟩ => ?_
      have e1 : ((kz a).1 : Int) = a.2.1 := congrArg Prod.fst (zk a ha).1
      have e2 : ((kz b).1 : Int) = b.2.1 := congrArg Prod.fst (zk b hb).1
      unfold plt at h
      omega)
    exact ⟨D, hD.congr same⟩
  -- due
  refine ⟨(by show 1 ≤ sizeLine; decide), fun e3 he3 => ?_⟩
  have se3 := same_new he3 (.lst [.int 1])
  refine ⟨_, rfl, r, _, rfl, .inl (SqL.of (se3 _ _ hr15)), e3, _, [.int 1], rfl, rfl, upd_same, by rw [hmq]; omega, by rw [hmq]; omega, (by show 1 * _ ≤ sizeLine; rw [eN, sizeLine_eq]; omega), fun dA hdA => ?_⟩
  have edue : (List.replicate ((((qs.map V.ref).length : Nat) : Int)).toNat [V.int 1]).flatten = (List.range F.length).map (fun j => nv ((fun _ => 1) j)) := by
    rw [eN, List.flatten_replicate_singleton]
    refine (List.eq_replicate_iff.mpr ⟨by rw [List.length_map, List.length_range], fun x hx => ?_⟩).symm
    obtain ⟨_, _, rfl⟩ := List.mem_map.mp hx
    rfl
  rw [edue]
  have s15b := se3.trans (same_new hdA (.lst ((List.range F.length).map (fun j => nv ((fun _ => 1) j)))))
  have hdA15 : H15 dA = none := se3.free hdA
  have hD16 : (upd (upd H15 e3 (.lst [.int 1])) dA (.lst ((List.range F.length).map (fun j => nv ((fun _ => 1) j))))) dA = some (.lst ((List.range F.length).map (fun j => nv ((fun _ => 1) j)))) := upd_same
  generalize upd (upd H15 e3 (.lst [.int 1])) dA (.lst ((List.range F.length).map (fun j => nv ((fun _ => 1) j)))) = H16 at s15b hD16 ⊢
  have uk : ∀ z ∈ us, iz (kz z) = z.2 ∧ kz z ∈ steps F ps := fun z hz => by
    obtain ⟨k, hk, e⟩ := List.mem_map.mp ((hum z.2).mp (List.mem_map.mpr ⟨z, hz, rfl⟩))
    have : kz z = k := by
      unfold kz
      rw [← e]
      exact Prod.ext (Int.toNat_natCast _) (Int.toNat_natCast _)
    rw [this]; exact ⟨e, hk⟩
  have usame : ∀ p, p ∈ us.map kz ↔ p ∈ steps F ps := fun p => by
    rw [List.mem_map]
    constructor
    · rintro ⟨z, hz', rfl⟩
      exact (uk z hz').2
    · intro hk
      obtain ⟨z, hz', e⟩ := List.mem_map.mp ((hum (iz p)).mpr (mem_iz.mpr hk))
      exact ⟨z, hz', iz_inj ((uk z hz').1.trans e)⟩
  have hDu : Depth (us.map kz) D := hD.congr fun p => (usame p).symm
  refine ⟨_, rfl, r, _, rfl, .inl (SqL.of (s15b _ _ hr15)), _, rfl, (by omega), (by rw [hmq]; omega), for_range (n := ((((qs.map V.ref).length : Nat) : Int)).toNat) (fun t σ H17 => ∃ (E : Nat → Nat) (v10 v14 : Option V), σ = [some (.ref b), some (.int (ns.getD 0 0 % 14)), some (.ref l), some (.ref r), some (.ref nA), v5, some (.ref fA), some (.ref stA), v8, some (.ref dA), v10, none, none, v13, v14] ∧ Same H15 H17 ∧ H17 dA = some (.lst ((List.range F.length).map fun j => nv (E j))) ∧ Rnd (us.map kz) D t [] E)
    ⟨_, none, v14, rfl, s15b, hD16, rnd_start hDu⟩ ?_ ?_⟩
  · rintro t σ H17 ht ⟨E, v10, v14, rfl, s17, hD17, hRn⟩
    refine ⟨_, rfl, stA, rfl, ⟨_, SqL.of (s17 _ _ hU15)⟩, for_list (K := K) (a := stA) (xs := us.map fun z : Addr × Int × Int => V.ref z.1) (fun i σ H18 => ∃ (E : Nat → Nat) (v14 : Option V), σ = [some (.ref b), some (.int (ns.getD 0 0 % 14)), some (.ref l), some (.ref r), some (.ref nA), v5, some (.ref fA), some (.ref stA), v8, some (.ref dA), some (.int (0 + (t : Int))), none, none, v13, v14] ∧ Same H15 H18 ∧ H18 dA = some (.lst ((List.range F.length).map fun j => nv (E j))) ∧ Rnd (us.map kz) D t ((us.take i).map kz) E)
      ⟨E, v14, rfl, s17, hD17, hRn⟩ (fun i σ H18 _ ⟨_, _, _, s18, _⟩ => SqL.of (s18 _ _ hU15)) ?_ ?_⟩
    · rintro i y σ H18 hy ⟨E, v14, rfl, s18, hD18, hRn⟩
      rw [List.getElem?_map] at hy
      cases ezi : us[i]? with
      | none => rw [ezi] at hy; cases hy
      | some zz =>
        rw [ezi] at hy
        have ey : y = .ref zz.1 := (Option.some.inj hy).symm
        subst ey
        have hzm := List.mem_of_getElem? ezi
        obtain ⟨eiz, hst⟩ := uk zz hzm
        have hzt := s18 _ _ (hut15 zz hzm)
        obtain ⟨l1, l2⟩ := lt _ hst
        have e1 : zz.2.1 = ((kz zz).1 : Int) := (congrArg Prod.fst eiz).symm
        have e2 : zz.2.2 = ((kz zz).2 : Int) := (congrArg Prod.snd eiz).symm
        have at1 : atI ((List.range F.length).map fun j => nv (E j)) zz.2.1 = some (nv (E (kz zz).1)) := by rw [e1]; exact atI_nat (by rw [List.getElem?_map, List.getElem?_range l1]; rfl)
        have at2 : atI ((List.range F.length).map fun j => nv (E j)) zz.2.2 = some (nv (E (kz zz).2)) := by rw [e2]; exact atI_nat (by rw [List.getElem?_map, List.getElem?_range l2]; rfl)
        refine ⟨_, rfl, _, rfl, zz.1, _, _, _, rfl, rfl, SqT.of hzt, rfl, dA, _, _, _, rfl, rfl, SqL.of hD18, at2, _, rfl, _, rfl, zz.1, _, _, _, rfl, rfl, SqT.of hzt, rfl, dA, _, _, _, rfl, rfl, SqL.of hD18, at1, _, _, rfl, rfl, _, _, rfl, ?_⟩
        refine ⟨_, rfl, _, rfl, zz.1, _, _, _, rfl, rfl, SqT.of hzt, rfl, dA, _, zz.2.2, (kz zz).2, rfl, rfl, hD18, ixN_natD e2 (by rw [List.length_map, List.length_range]; exact l2), ?_⟩
        refine ⟨push1 E (kz zz), _, rfl, same_put s18 hdA15 _, ?_, ?_⟩
        · rw [upd_same, range_set]
          refine congrArg (fun x => some (HO.lst x)) (List.map_congr_left fun k hk => ?_)
          unfold push1
          by_cases c : k = (kz zz).2
          · rw [if_pos c, if_pos c]
            by_cases c2 : ((E (kz zz).1 : Nat) : Int) + 1 > ((E (kz zz).2 : Nat) : Int)
            · rw [if_pos c2]
              unfold nv
              rw [Nat.max_eq_right (by omega)]; rfl
            · rw [if_neg c2]
              unfold nv
              rw [Nat.max_eq_left (by omega)]
          · rw [if_neg c, if_neg c]
        · rw [take_succ_get ezi, List.map_append]
          exact rnd_step hDu ((usame _).mpr hst) hRn
    · rintro σ H18 ⟨E, v14, rfl, s18, hD18, hRn⟩
      rw [List.length_map, List.take_length] at hRn
      exact ⟨E, _, _, rfl, s18, hD18, rnd_next hDu hRn⟩
  rintro σ H17 ⟨E, v10, v14, rfl, s17, hD17, hRn⟩
  rw [eN] at hRn
  have hED := rnd_end (fun i j h => up i j ((usame _).mp h)) hDu hRn
  have hD17' : H17 dA = some (.lst ((List.range F.length).map fun j => nv (D j))) := by
    rw [hD17]
    exact congrArg (fun x => some (HO.lst x)) (List.map_congr_left fun j hj => by rw [hED j (List.mem_range.mp hj)])
  clear hD17 hRn
  have k217 := k215.trans (Kp.of s17)
  have hT17 := hT15.same s17
  have hU17 := s17 _ _ hU15
  have hut17 : ∀ z ∈ us, H17 z.1 = some (.tup (pairOf z.2)) := fun z hz => s17 _ _ (hut15 z hz)
  have hr17 := s17 _ _ hr15
  -- deep
  obtain ⟨as17, hl17, hp17⟩ := k217.lanes hL
  refine ⟨_, rfl, _, rfl, l, _, rfl, .inl (SqL.of hl17), fun h4 hh4 => ?_⟩
  have s17a := same_new hh4 (.lst (as17.map V.ref))
  refine ⟨n, h4, ps, by rw [← hn]; rfl, list_copy hl17 hp17 hh4, hps, hin', by omega, hT17.same s17a, fun dp D' H18 k18 hT18 hD' hdp => ?_⟩
  rw [← eF] at hD' hdp
  have hDD : ∀ j, D' j = D j := hD'.unique up hD
  have hdp' : H18 dp = some (.lst (((List.range F.length).map fun j => ((D j : Nat) : Int)).map V.int)) := by
    rw [hdp, List.map_map]
    exact congrArg (fun x => some (HO.lst x)) (List.map_congr_left fun j _ => by rw [hDD j]; rfl)
  have hdu17 : H17 dA = some (.lst (((List.range F.length).map fun j => ((D j : Nat) : Int)).map V.int)) := by rw [hD17', List.map_map]; rfl
  have kC := (Kp.of s17a).trans k18
  have k218 := k217.trans kC
  have hdu18 := kC.lst hdu17
  have hU18 := kC.lst hU17
  have hut18 : ∀ z ∈ us, H18 z.1 = some (.tup (pairOf z.2)) := fun z hz => kC.tup (hut17 z hz)
  have hr18 := kC.lst hr17
  -- row
  obtain ⟨as18, hl18, hp18⟩ := k218.lanes hL
  refine ⟨_, rfl, _, rfl, l, _, rfl, .inl (SqL.of hl18), fun h5 hh5 => ?_⟩
  have s18a := same_new hh5 (.lst (as18.map V.ref))
  refine ⟨n, h5, ps, by rw [← hn]; rfl, list_copy hl18 hp18 hh5, hps, hin', by omega, hT18.same s18a, fun rw_ R H19 k19 hT19 hR hRl hrw => ?_⟩
  rw [← eF] at hR
  have kD := (Kp.of s18a).trans k19
  have hdp19 := kD.lst hdp'
  have hdu19 := kD.lst hdu18
  have hU19 := kD.lst hU18
  have hut19 : ∀ z ∈ us, H19 z.1 = some (.tup (pairOf z.2)) := fun z hz => kD.tup (hut18 z hz)
  have hr19 := kD.lst hr18
  have hrw' : H19 rw_ = some (.lst ((R.map fun k => ((k : Nat) : Int)).map V.int)) := by rw [hrw, List.map_map]; rfl
  have hml19 : ((List.range F.length).map fun j => ((D j : Nat) : Int)).length = F.length := by rw [List.length_map, List.length_range]
  have hRm : ((R.map fun k => ((k : Nat) : Int)).map V.int).length = R.length := by rw [List.length_map, List.length_map]
  refine ⟨_, rfl, dp, _, rfl, hdp19, by omega, _, rfl, iteF ?_⟩
  refine ⟨_, rfl, _, rfl, dp, dA, _, _, rfl, rfl, SqL.of hdp19, SqL.of hdu19, _, rfl, ?_⟩
  rw [decide_eq_true rfl]
  refine iteF ⟨_, rfl, rw_, _, rfl, hrw', by rw [List.length_map]; omega, _, rfl, iteF ?_⟩
  -- the row goes by steps
  refine ⟨_, rfl, rw_, _, rfl, .inl (SqL.of hrw'), 1, _, rfl, ⟨by omega, by omega, by rw [hRm]; omega, by rw [hRm]; omega⟩, for_range (lo := 1) (n := ((((((R.map fun k => ((k : Nat) : Int)).map V.int).length : Nat) : Int)) - 1).toNat) (fun i σ H20 => ∃ (v5 : Option V), σ = [some (.ref b), some (.int (ns.getD 0 0 % 14)), some (.ref l), some (.ref r), some (.ref nA), v5, some (.ref fA), some (.ref stA), v8, some (.ref dA), v10, some (.ref dp), some (.ref rw_), v13, v14] ∧ Same H19 H20)
    ⟨v5, rfl, Same.refl _⟩ ?_ ?_⟩
  · rintro i σ H20 hi ⟨v5', rfl, s20⟩
    have hi' : i + 1 < R.length := by rw [hRm] at hi; omega
    obtain ⟨x, hx⟩ : ∃ x, R[i]? = some x := ⟨_, List.getElem?_eq_getElem (by omega)⟩
    obtain ⟨y, hy⟩ : ∃ y, R[i + 1]? = some y := ⟨_, List.getElem?_eq_getElem hi'⟩
    have aX : atI ((R.map fun k => ((k : Nat) : Int)).map V.int) ((1 : Int) + (i : Int) - 1) = some (.int (x : Int)) := by
      have : (1 : Int) + (i : Int) - 1 = (i : Int) := by omega
      rw [this]; exact at_int (by rw [List.getElem?_map, hx]; rfl)
    have aY : atI ((R.map fun k => ((k : Nat) : Int)).map V.int) ((1 : Int) + (i : Int)) = some (.int (y : Int)) := by
      have : (1 : Int) + (i : Int) = ((i + 1 : Nat) : Int) := by omega
      rw [this]; exact at_int (by rw [List.getElem?_map, hy]; rfl)
    have hstp := hR.chain i x y hx hy
    refine ⟨_, rfl, _, rfl, _, _, rfl, rfl, rw_, _, _, _, rfl, rfl, SqL.of (s20 _ _ hrw'), aX, _, rfl, _, rfl, rw_, _, _, _, rfl, rfl, SqL.of (s20 _ _ hrw'), aY, (by show 2 ≤ sizeLine; decide), fun t ht => ?_⟩
    have s21 := s20.trans (same_new ht (.tup [.int (x : Int), .int (y : Int)]))
    refine ⟨_, rfl, t, [(x : Int), (y : Int)], stA, us.map (·.1), us.map (fun z => [z.2.1, z.2.2]), rfl, rfl, upd_same, by rw [s21 _ _ hU19, List.map_map]; rfl, tups_paired fun z hz => s21 _ _ (hut19 z hz), fun k hk => ?_, _, rfl, ?_⟩
    · obtain ⟨z0, _, rfl⟩ := List.mem_map.mp hk
      rfl
    · rw [decide_eq_true (in2 (k := ((x : Int), (y : Int))).mpr ((hum _).mpr (mem_iz (k := (x, y)).mpr hstp)))]
      exact iteF ⟨_, rfl, s21⟩
  rintro σ H20 ⟨v5', rfl, s20⟩
  refine ⟨_, rfl, rfl, _, rfl, ?_⟩
  by_cases c0 : ns.getD 0 0 % 14 = 0
  · rw [decide_eq_true (congrArg V.int c0)]
    have hF0 : F.length = 0 := by omega
    have hR0 := hR.none_ hF0
    refine iteT ⟨_, rfl, (by show 0 ≤ sizeLine; decide), fun e he => ?_⟩
    have se := same_new he (.lst [])
    refine ⟨rw_, e, _, [], rfl, rfl, SqL.of (se _ _ (s20 _ _ hrw')), SqL.of upd_same, ?_⟩
    rw [hR0]
    exact q _
  · rw [decide_eq_false fun e => c0 (V.int.inj e)]
    refine iteF ?_
    have hn0 : 0 < n := by omega
    have hF0 := parts_pos O hn0
    obtain ⟨D2, hD2, hle, i0, hi0, hi0e⟩ := hR.len hF0
    have hDD2 : ∀ j, D2 j = D j := hD2.unique up hD
    have hpos : 0 < R.length := by rw [← hi0e]; exact hD2.one i0
    obtain ⟨x0, hx0⟩ : ∃ x0, R[0]? = some x0 := ⟨_, List.getElem?_eq_getElem hpos⟩
    have hx0m := hR.rng x0 (List.mem_of_getElem? hx0)
    have a0 : atI ((R.map fun k => ((k : Nat) : Int)).map V.int) 0 = some (.int (x0 : Int)) := atI_nat (j := 0) (by rw [List.getElem?_map, List.getElem?_map, hx0]; rfl)
    have hrw20 := s20 _ _ hrw'
    have hdu20 := s20 _ _ hdu19
    have hr20 := s20 _ _ hr19
    refine ⟨_, rfl, rw_, _, rfl, .inl (SqL.of hrw20), _, rfl, dA, _, rfl, SqL.of hdu20, fun e => ?_, fun M hM hMx => ?_⟩
    · have := congrArg List.length e
      rw [hml19, List.length_nil] at this
      omega
    · have eM : M = ((R.length : Nat) : Int) := by
        obtain ⟨j, hj, rfl⟩ := List.mem_map.mp hM
        have h1 := hle j (List.mem_range.mp hj)
        have h2 := hMx ((D i0 : Nat) : Int) (List.mem_map.mpr ⟨i0, List.mem_range.mpr hi0, rfl⟩)
        rw [hDD2 j] at h1
        rw [hDD2 i0] at hi0e
        omega
      refine ⟨rfl, _, rfl, ?_⟩
      rw [eM, hRm, decide_eq_true rfl]
      refine iteT ⟨_, rfl, rw_, _, _, _, rfl, rfl, SqL.of hrw20, a0, _, _, rfl, rfl, _, rfl, ?_⟩
      rw [decide_eq_true (by omega : (0 : Int) ≤ (x0 : Int))]
      refine iteT ⟨_, rfl, rw_, _, _, _, rfl, rfl, SqL.of hrw20, a0, _, rfl, r, _, rfl, .inl (SqL.of hr20), _, _, rfl, rfl, ?_⟩
      show Q (.bl (decide ((x0 : Int) < (((qs.map V.ref).length : Nat) : Int)))) H20
      rw [decide_eq_true (by rw [hmq]; omega : (x0 : Int) < (((qs.map V.ref).length : Nat) : Int))]
      exact q _
end
theorem all_mk {l : PySem.W.OpenLaw} {w : World} {K : PySem.W.Frag} {h : Heap} {mg : Str → Option Value} {fa : Addr} (X : K.In h) (G : h.Ns mainGlobals mg) (hfa : mg "law" = some (.ref fa))
    {f0 : Addr} {od0 an0 : Option Addr} {sl0 : Array (Option Value)} {oc0 kV0 dc0 pm0 cd0 ct0 : Value}
    (a0 : PySem.W.nsIn K mainGlobals "are_places" = some (some (.ref f0))) (l0 : K.lookup f0 = some ⟨oc0, od0, .func (PySem.W.fnOf "are_places" "are_places" (defArgs sArePlaces) (defBody sArePlaces) (defScope sArePlaces) .none kV0 dc0 pm0 an0 cd0 ct0), sl0⟩) (c0 : PySem.W.codeIn K cd0 "are_places" = true) (k0 : PySem.W.keepIn K (.ref f0) = true)
    {f1 : Addr} {od1 an1 : Option Addr} {sl1 : Array (Option Value)} {oc1 kV1 dc1 pm1 cd1 ct1 : Value}
    (a1 : PySem.W.nsIn K mainGlobals "check_places" = some (some (.ref f1))) (l1 : K.lookup f1 = some ⟨oc1, od1, .func (PySem.W.fnOf "check_places" "check_places" (defArgs sCheckPlaces) (defBody sCheckPlaces) (defScope sCheckPlaces) .none kV1 dc1 pm1 an1 cd1 ct1), sl1⟩) (c1 : PySem.W.codeIn K cd1 "check_places" = true) (k1 : PySem.W.keepIn K (.ref f1) = true)
    {f2 : Addr} {od2 an2 : Option Addr} {sl2 : Array (Option Value)} {oc2 kV2 dc2 pm2 cd2 ct2 : Value}
    (a2 : PySem.W.nsIn K mainGlobals "check_lanes" = some (some (.ref f2))) (l2 : K.lookup f2 = some ⟨oc2, od2, .func (PySem.W.fnOf "check_lanes" "check_lanes" (defArgs sCheckLanes) (defBody sCheckLanes) (defScope sCheckLanes) .none kV2 dc2 pm2 an2 cd2 ct2), sl2⟩) (c2 : PySem.W.codeIn K cd2 "check_lanes" = true) (k2 : PySem.W.keepIn K (.ref f2) = true)
    {f3 : Addr} {od3 an3 : Option Addr} {sl3 : Array (Option Value)} {oc3 kV3 dc3 pm3 cd3 ct3 : Value}
    (a3 : PySem.W.nsIn K mainGlobals "ends_by_place" = some (some (.ref f3))) (l3 : K.lookup f3 = some ⟨oc3, od3, .func (PySem.W.fnOf "ends_by_place" "ends_by_place" (defArgs sEndsByPlace) (defBody sEndsByPlace) (defScope sEndsByPlace) .none kV3 dc3 pm3 an3 cd3 ct3), sl3⟩) (c3 : PySem.W.codeIn K cd3 "ends_by_place" = true) (k3 : PySem.W.keepIn K (.ref f3) = true)
    {f4 : Addr} {od4 an4 : Option Addr} {sl4 : Array (Option Value)} {oc4 kV4 dc4 pm4 cd4 ct4 : Value}
    (a4 : PySem.W.nsIn K mainGlobals "reach" = some (some (.ref f4))) (l4 : K.lookup f4 = some ⟨oc4, od4, .func (PySem.W.fnOf "reach" "reach" (defArgs sReach) (defBody sReach) (defScope sReach) .none kV4 dc4 pm4 an4 cd4 ct4), sl4⟩) (c4 : PySem.W.codeIn K cd4 "reach" = true) (k4 : PySem.W.keepIn K (.ref f4) = true)
    {f5 : Addr} {od5 an5 : Option Addr} {sl5 : Array (Option Value)} {oc5 kV5 dc5 pm5 cd5 ct5 : Value}
    (a5 : PySem.W.nsIn K mainGlobals "part_with" = some (some (.ref f5))) (l5 : K.lookup f5 = some ⟨oc5, od5, .func (PySem.W.fnOf "part_with" "part_with" (defArgs sPartWith) (defBody sPartWith) (defScope sPartWith) .none kV5 dc5 pm5 an5 cd5 ct5), sl5⟩) (c5 : PySem.W.codeIn K cd5 "part_with" = true) (k5 : PySem.W.keepIn K (.ref f5) = true)
    {f6 : Addr} {od6 an6 : Option Addr} {sl6 : Array (Option Value)} {oc6 kV6 dc6 pm6 cd6 ct6 : Value}
    (a6 : PySem.W.nsIn K mainGlobals "parts" = some (some (.ref f6))) (l6 : K.lookup f6 = some ⟨oc6, od6, .func (PySem.W.fnOf "parts" "parts" (defArgs sParts) (defBody sParts) (defScope sParts) .none kV6 dc6 pm6 an6 cd6 ct6), sl6⟩) (c6 : PySem.W.codeIn K cd6 "parts" = true) (k6 : PySem.W.keepIn K (.ref f6) = true)
    {f7 : Addr} {od7 an7 : Option Addr} {sl7 : Array (Option Value)} {oc7 kV7 dc7 pm7 cd7 ct7 : Value}
    (a7 : PySem.W.nsIn K mainGlobals "part_numbers" = some (some (.ref f7))) (l7 : K.lookup f7 = some ⟨oc7, od7, .func (PySem.W.fnOf "part_numbers" "part_numbers" (defArgs sPartNumbers) (defBody sPartNumbers) (defScope sPartNumbers) .none kV7 dc7 pm7 an7 cd7 ct7), sl7⟩) (c7 : PySem.W.codeIn K cd7 "part_numbers" = true) (k7 : PySem.W.keepIn K (.ref f7) = true)
    {f8 : Addr} {od8 an8 : Option Addr} {sl8 : Array (Option Value)} {oc8 kV8 dc8 pm8 cd8 ct8 : Value}
    (a8 : PySem.W.nsIn K mainGlobals "between_parts" = some (some (.ref f8))) (l8 : K.lookup f8 = some ⟨oc8, od8, .func (PySem.W.fnOf "between_parts" "between_parts" (defArgs sBetweenParts) (defBody sBetweenParts) (defScope sBetweenParts) .none kV8 dc8 pm8 an8 cd8 ct8), sl8⟩) (c8 : PySem.W.codeIn K cd8 "between_parts" = true) (k8 : PySem.W.keepIn K (.ref f8) = true)
    {f9 : Addr} {od9 an9 : Option Addr} {sl9 : Array (Option Value)} {oc9 kV9 dc9 pm9 cd9 ct9 : Value}
    (a9 : PySem.W.nsIn K mainGlobals "longest_rows" = some (some (.ref f9))) (l9 : K.lookup f9 = some ⟨oc9, od9, .func (PySem.W.fnOf "longest_rows" "longest_rows" (defArgs sLongestRows) (defBody sLongestRows) (defScope sLongestRows) .none kV9 dc9 pm9 an9 cd9 ct9), sl9⟩) (c9 : PySem.W.codeIn K cd9 "longest_rows" = true) (k9 : PySem.W.keepIn K (.ref f9) = true)
    {f10 : Addr} {od10 an10 : Option Addr} {sl10 : Array (Option Value)} {oc10 kV10 dc10 pm10 cd10 ct10 : Value}
    (a10 : PySem.W.nsIn K mainGlobals "depths" = some (some (.ref f10))) (l10 : K.lookup f10 = some ⟨oc10, od10, .func (PySem.W.fnOf "depths" "depths" (defArgs sDepths) (defBody sDepths) (defScope sDepths) .none kV10 dc10 pm10 an10 cd10 ct10), sl10⟩) (c10 : PySem.W.codeIn K cd10 "depths" = true) (k10 : PySem.W.keepIn K (.ref f10) = true)
    {f11 : Addr} {od11 an11 : Option Addr} {sl11 : Array (Option Value)} {oc11 kV11 dc11 pm11 cd11 ct11 : Value}
    (a11 : PySem.W.nsIn K mainGlobals "deepest" = some (some (.ref f11))) (l11 : K.lookup f11 = some ⟨oc11, od11, .func (PySem.W.fnOf "deepest" "deepest" (defArgs sDeepest) (defBody sDeepest) (defScope sDeepest) .none kV11 dc11 pm11 an11 cd11 ct11), sl11⟩) (c11 : PySem.W.codeIn K cd11 "deepest" = true) (k11 : PySem.W.keepIn K (.ref f11) = true)
    {f12 : Addr} {od12 an12 : Option Addr} {sl12 : Array (Option Value)} {oc12 kV12 dc12 pm12 cd12 ct12 : Value}
    (a12 : PySem.W.nsIn K mainGlobals "_law_upto" = some (some (.ref f12))) (l12 : K.lookup f12 = some ⟨oc12, od12, .func (PySem.W.fnOf "_law_upto" "_law_upto" (defArgs sLUpto) (defBody sLUpto) (defScope sLUpto) .none kV12 dc12 pm12 an12 cd12 ct12), sl12⟩) (c12 : PySem.W.codeIn K cd12 "_law_upto" = true) (k12 : PySem.W.keepIn K (.ref f12) = true)
    {f13 : Addr} {od13 an13 : Option Addr} {sl13 : Array (Option Value)} {oc13 kV13 dc13 pm13 cd13 ct13 : Value}
    (a13 : PySem.W.nsIn K mainGlobals "_law_whole" = some (some (.ref f13))) (l13 : K.lookup f13 = some ⟨oc13, od13, .func (PySem.W.fnOf "_law_whole" "_law_whole" (defArgs sLWhole) (defBody sLWhole) (defScope sLWhole) .none kV13 dc13 pm13 an13 cd13 ct13), sl13⟩) (c13 : PySem.W.codeIn K cd13 "_law_whole" = true) (k13 : PySem.W.keepIn K (.ref f13) = true)
    {f14 : Addr} {od14 an14 : Option Addr} {sl14 : Array (Option Value)} {oc14 kV14 dc14 pm14 cd14 ct14 : Value}
    (a14 : PySem.W.nsIn K mainGlobals "_law_at" = some (some (.ref f14))) (l14 : K.lookup f14 = some ⟨oc14, od14, .func (PySem.W.fnOf "_law_at" "_law_at" (defArgs sLAt) (defBody sLAt) (defScope sLAt) .none kV14 dc14 pm14 an14 cd14 ct14), sl14⟩) (c14 : PySem.W.codeIn K cd14 "_law_at" = true) (k14 : PySem.W.keepIn K (.ref f14) = true)
    {f15 : Addr} {od15 an15 : Option Addr} {sl15 : Array (Option Value)} {oc15 kV15 dc15 pm15 cd15 ct15 : Value}
    (a15 : PySem.W.nsIn K mainGlobals "_law_lanes_by" = some (some (.ref f15))) (l15 : K.lookup f15 = some ⟨oc15, od15, .func (PySem.W.fnOf "_law_lanes_by" "_law_lanes_by" (defArgs sLLanesBy) (defBody sLLanesBy) (defScope sLLanesBy) .none kV15 dc15 pm15 an15 cd15 ct15), sl15⟩) (c15 : PySem.W.codeIn K cd15 "_law_lanes_by" = true) (k15 : PySem.W.keepIn K (.ref f15) = true)
    {f16 : Addr} {od16 an16 : Option Addr} {sl16 : Array (Option Value)} {oc16 kV16 dc16 pm16 cd16 ct16 : Value}
    (a16 : PySem.W.nsIn K mainGlobals "_law_whole_row" = some (some (.ref f16))) (l16 : K.lookup f16 = some ⟨oc16, od16, .func (PySem.W.fnOf "_law_whole_row" "_law_whole_row" (defArgs sLWholeRow) (defBody sLWholeRow) (defScope sLWholeRow) .none kV16 dc16 pm16 an16 cd16 ct16), sl16⟩) (c16 : PySem.W.codeIn K cd16 "_law_whole_row" = true) (k16 : PySem.W.keepIn K (.ref f16) = true)
    {f17 : Addr} {od17 an17 : Option Addr} {sl17 : Array (Option Value)} {oc17 kV17 dc17 pm17 cd17 ct17 : Value}
    (a17 : PySem.W.nsIn K mainGlobals "_law_reach" = some (some (.ref f17))) (l17 : K.lookup f17 = some ⟨oc17, od17, .func (PySem.W.fnOf "_law_reach" "_law_reach" (defArgs sLReach) (defBody sLReach) (defScope sLReach) .none kV17 dc17 pm17 an17 cd17 ct17), sl17⟩) (c17 : PySem.W.codeIn K cd17 "_law_reach" = true) (k17 : PySem.W.keepIn K (.ref f17) = true)
    {f18 : Addr} {od18 an18 : Option Addr} {sl18 : Array (Option Value)} {oc18 kV18 dc18 pm18 cd18 ct18 : Value}
    (a18 : PySem.W.nsIn K mainGlobals "_law_all_reach" = some (some (.ref f18))) (l18 : K.lookup f18 = some ⟨oc18, od18, .func (PySem.W.fnOf "_law_all_reach" "_law_all_reach" (defArgs sLAllReach) (defBody sLAllReach) (defScope sLAllReach) .none kV18 dc18 pm18 an18 cd18 ct18), sl18⟩) (c18 : PySem.W.codeIn K cd18 "_law_all_reach" = true) (k18 : PySem.W.keepIn K (.ref f18) = true)
    {f19 : Addr} {od19 an19 : Option Addr} {sl19 : Array (Option Value)} {oc19 kV19 dc19 pm19 cd19 ct19 : Value}
    (a19 : PySem.W.nsIn K mainGlobals "_law_parts_hold" = some (some (.ref f19))) (l19 : K.lookup f19 = some ⟨oc19, od19, .func (PySem.W.fnOf "_law_parts_hold" "_law_parts_hold" (defArgs sLPartsHold) (defBody sLPartsHold) (defScope sLPartsHold) .none kV19 dc19 pm19 an19 cd19 ct19), sl19⟩) (c19 : PySem.W.codeIn K cd19 "_law_parts_hold" = true) (k19 : PySem.W.keepIn K (.ref f19) = true)
    {f20 : Addr} {od20 an20 : Option Addr} {sl20 : Array (Option Value)} {oc20 kV20 dc20 pm20 cd20 ct20 : Value}
    (a20 : PySem.W.nsIn K mainGlobals "_law_pairs" = some (some (.ref f20))) (l20 : K.lookup f20 = some ⟨oc20, od20, .func (PySem.W.fnOf "_law_pairs" "_law_pairs" (defArgs sLPairs) (defBody sLPairs) (defScope sLPairs) .none kV20 dc20 pm20 an20 cd20 ct20), sl20⟩) (c20 : PySem.W.codeIn K cd20 "_law_pairs" = true) (k20 : PySem.W.keepIn K (.ref f20) = true)
    {f21 : Addr} {od21 an21 : Option Addr} {sl21 : Array (Option Value)} {oc21 kV21 dc21 pm21 cd21 ct21 : Value}
    (a21 : PySem.W.nsIn K mainGlobals "law" = some (some (.ref f21))) (l21 : K.lookup f21 = some ⟨oc21, od21, .func (PySem.W.fnOf "law" "law" (defArgs sLaw) (defBody sLaw) (defScope sLaw) .none kV21 dc21 pm21 an21 cd21 ct21), sl21⟩) (c21 : PySem.W.codeIn K cd21 "law" = true) (k21 : PySem.W.keepIn K (.ref f21) = true)
    (z_all : PySem.W.nsIn K mainGlobals "all" = some none)
    (z_bool : PySem.W.nsIn K mainGlobals "bool" = some none)
    (z_enumerate : PySem.W.nsIn K mainGlobals "enumerate" = some none)
    (z_int : PySem.W.nsIn K mainGlobals "int" = some none)
    (z_isinstance : PySem.W.nsIn K mainGlobals "isinstance" = some none)
    (z_len : PySem.W.nsIn K mainGlobals "len" = some none)
    (z_list : PySem.W.nsIn K mainGlobals "list" = some none)
    (z_max : PySem.W.nsIn K mainGlobals "max" = some none)
    (z_range : PySem.W.nsIn K mainGlobals "range" = some none)
    (z_set : PySem.W.nsIn K mainGlobals "set" = some none)
    (z_sorted : PySem.W.nsIn K mainGlobals "sorted" = some none)
    (z_tuple : PySem.W.nsIn K mainGlobals "tuple" = some none)
    (t_tab : tabOk K "parts" = true)
    : ∃ (fd : FuncData) (c T : Addr), PySem.W.tabIn K "parts" = some (c, T) ∧ (∀ (s : Shared) (v : Value), BindsTo s fd ⟨[v], []⟩ [("_law_script", v)]) ∧ (h.get? T = some (PySem.W.tabObj #[]) → ∀ base : Heap, (cutK K T).In base → base.Ns mainGlobals mg → PySem.W.CodeHd base c T → base.BuiltinsAt mg T → FnOk l.prog w (cutK K T) mg base CX0 9 fa fd ["_law_script"] (spLaw T (cutK K T))) := by
  have e := hfa.symm.trans (PySem.W.mg_of X G a21)
  cases e
  have z : Zs mg := ⟨PySem.W.mg_none_of X G z_all, PySem.W.mg_none_of X G z_bool, PySem.W.mg_none_of X G z_enumerate, PySem.W.mg_none_of X G z_int, PySem.W.mg_none_of X G z_isinstance, PySem.W.mg_none_of X G z_len, PySem.W.mg_none_of X G z_list, PySem.W.mg_none_of X G z_max, PySem.W.mg_none_of X G z_range, PySem.W.mg_none_of X G z_set, PySem.W.mg_none_of X G z_sorted, PySem.W.mg_none_of X G z_tuple⟩
  obtain ⟨c, T, t_tab, t_no⟩ := tabOk_of t_tab
  refine ⟨PySem.W.fnOf "law" "law" (defArgs sLaw) (defBody sLaw) (defScope sLaw) .none kV21 dc21 pm21 an21 cd21 ct21, c, T, t_tab, fun s v => .of_eq rfl, fun hT base _ _ hC hB => ?_⟩
  rw [cutK_self t_no]
  have cTab := funC_mk (fun_mk (st := sParts) l6 c6 k6) X hT (tab_code a6 l6 t_tab)
  rw [cutK_self t_no] at cTab
  have F0 := fun_mk (st := sArePlaces) l0 c0 k0
  have dArePlaces : DefAt K mg "are_places" sArePlaces PArePlaces _ _ := ⟨F0, F0.binds (ps := PArePlaces) fun _ _ _ _ _ _ us hl => match us, hl with | [_, _], _ => rfl, PySem.W.mg_of X G a0⟩
  have F1 := fun_mk (st := sCheckPlaces) l1 c1 k1
  have dCheckPlaces : DefAt K mg "check_places" sCheckPlaces PCheckPlaces _ _ := ⟨F1, F1.binds (ps := PCheckPlaces) fun _ _ _ _ _ _ us hl => match us, hl with | [_, _], _ => rfl, PySem.W.mg_of X G a1⟩
  have F2 := fun_mk (st := sCheckLanes) l2 c2 k2
  have dCheckLanes : DefAt K mg "check_lanes" sCheckLanes PCheckLanes _ _ := ⟨F2, F2.binds (ps := PCheckLanes) fun _ _ _ _ _ _ us hl => match us, hl with | [_, _], _ => rfl, PySem.W.mg_of X G a2⟩
  have F3 := fun_mk (st := sEndsByPlace) l3 c3 k3
  have dEndsByPlace : DefAt K mg "ends_by_place" sEndsByPlace PEndsByPlace _ _ := ⟨F3, F3.binds (ps := PEndsByPlace) fun _ _ _ _ _ _ us hl => match us, hl with | [_], _ => rfl, PySem.W.mg_of X G a3⟩
  have F4 := fun_mk (st := sReach) l4 c4 k4
  have dReach : DefAt K mg "reach" sReach PReach _ _ := ⟨F4, F4.binds (ps := PReach) fun _ _ _ _ _ _ us hl => match us, hl with | [_, _], _ => rfl, PySem.W.mg_of X G a4⟩
  have F5 := fun_mk (st := sPartWith) l5 c5 k5
  have dPartWith : DefAt K mg "part_with" sPartWith PPartWith _ _ := ⟨F5, F5.binds (ps := PPartWith) fun _ _ _ _ _ _ us hl => match us, hl with | [_, _], _ => rfl, PySem.W.mg_of X G a5⟩
  have F6 := fun_mk (st := sParts) l6 c6 k6
  have dParts : DefAt K mg "parts" sParts PParts _ _ := ⟨F6, F6.binds (ps := PParts) fun _ _ _ _ _ _ us hl => match us, hl with | [_, _], _ => rfl, PySem.W.mg_of X G a6⟩
  have F7 := fun_mk (st := sPartNumbers) l7 c7 k7
  have dPartNumbers : DefAt K mg "part_numbers" sPartNumbers PPartNumbers _ _ := ⟨F7, F7.binds (ps := PPartNumbers) fun _ _ _ _ _ _ us hl => match us, hl with | [_, _], _ => rfl, PySem.W.mg_of X G a7⟩
  have F8 := fun_mk (st := sBetweenParts) l8 c8 k8
  have dBetweenParts : DefAt K mg "between_parts" sBetweenParts PBetweenParts _ _ := ⟨F8, F8.binds (ps := PBetweenParts) fun _ _ _ _ _ _ us hl => match us, hl with | [_, _], _ => rfl, PySem.W.mg_of X G a8⟩
  have F9 := fun_mk (st := sLongestRows) l9 c9 k9
  have dLongestRows : DefAt K mg "longest_rows" sLongestRows PLongestRows _ _ := ⟨F9, F9.binds (ps := PLongestRows) fun _ _ _ _ _ _ us hl => match us, hl with | [_, _], _ => rfl, PySem.W.mg_of X G a9⟩
  have F10 := fun_mk (st := sDepths) l10 c10 k10
  have dDepths : DefAt K mg "depths" sDepths PDepths _ _ := ⟨F10, F10.binds (ps := PDepths) fun _ _ _ _ _ _ us hl => match us, hl with | [_, _], _ => rfl, PySem.W.mg_of X G a10⟩
  have F11 := fun_mk (st := sDeepest) l11 c11 k11
  have dDeepest : DefAt K mg "deepest" sDeepest PDeepest _ _ := ⟨F11, F11.binds (ps := PDeepest) fun _ _ _ _ _ _ us hl => match us, hl with | [_, _], _ => rfl, PySem.W.mg_of X G a11⟩
  have F12 := fun_mk (st := sLUpto) l12 c12 k12
  have dLUpto : DefAt K mg "_law_upto" sLUpto PLUpto _ _ := ⟨F12, F12.binds (ps := PLUpto) fun _ _ _ _ _ _ us hl => match us, hl with | [_, _, _], _ => rfl, PySem.W.mg_of X G a12⟩
  have F13 := fun_mk (st := sLWhole) l13 c13 k13
  have dLWhole : DefAt K mg "_law_whole" sLWhole PLWhole _ _ := ⟨F13, F13.binds (ps := PLWhole) fun _ _ _ _ _ _ us hl => match us, hl with | [_], _ => rfl, PySem.W.mg_of X G a13⟩
  have F14 := fun_mk (st := sLAt) l14 c14 k14
  have dLAt : DefAt K mg "_law_at" sLAt PLAt _ _ := ⟨F14, F14.binds (ps := PLAt) fun _ _ _ _ _ _ us hl => match us, hl with | [_, _], _ => rfl, PySem.W.mg_of X G a14⟩
  have F15 := fun_mk (st := sLLanesBy) l15 c15 k15
  have dLLanesBy : DefAt K mg "_law_lanes_by" sLLanesBy PLLanesBy _ _ := ⟨F15, F15.binds (ps := PLLanesBy) fun _ _ _ _ _ _ us hl => match us, hl with | [_, _, _], _ => rfl, PySem.W.mg_of X G a15⟩
  have F16 := fun_mk (st := sLWholeRow) l16 c16 k16
  have dLWholeRow : DefAt K mg "_law_whole_row" sLWholeRow PLWholeRow _ _ := ⟨F16, F16.binds (ps := PLWholeRow) fun _ _ _ _ _ _ us hl => match us, hl with | [_], _ => rfl, PySem.W.mg_of X G a16⟩
  have F17 := fun_mk (st := sLReach) l17 c17 k17
  have dLReach : DefAt K mg "_law_reach" sLReach PLReach _ _ := ⟨F17, F17.binds (ps := PLReach) fun _ _ _ _ _ _ us hl => match us, hl with | [_, _], _ => rfl, PySem.W.mg_of X G a17⟩
  have F18 := fun_mk (st := sLAllReach) l18 c18 k18
  have dLAllReach : DefAt K mg "_law_all_reach" sLAllReach PLAllReach _ _ := ⟨F18, F18.binds (ps := PLAllReach) fun _ _ _ _ _ _ us hl => match us, hl with | [_, _], _ => rfl, PySem.W.mg_of X G a18⟩
  have F19 := fun_mk (st := sLPartsHold) l19 c19 k19
  have dLPartsHold : DefAt K mg "_law_parts_hold" sLPartsHold PLPartsHold _ _ := ⟨F19, F19.binds (ps := PLPartsHold) fun _ _ _ _ _ _ us hl => match us, hl with | [_, _, _], _ => rfl, PySem.W.mg_of X G a19⟩
  have F20 := fun_mk (st := sLPairs) l20 c20 k20
  have dLPairs : DefAt K mg "_law_pairs" sLPairs PLPairs _ _ := ⟨F20, F20.binds (ps := PLPairs) fun _ _ _ _ _ _ us hl => match us, hl with | [_, _], _ => rfl, PySem.W.mg_of X G a20⟩
  have F21 := fun_mk (st := sLaw) l21 c21 k21
  have dLaw : DefAt K mg "law" sLaw PLaw _ _ := ⟨F21, F21.binds (ps := PLaw) fun _ _ _ _ _ _ us hl => match us, hl with | [_], _ => rfl, PySem.W.mg_of X G a21⟩
  have GA := ok_are (P := l.prog) (w := w) (base := base) dArePlaces z
  have GC := ok_check dCheckPlaces dArePlaces GA
  have GL := ok_checkL dCheckLanes dCheckPlaces GC
  have GE := ok_ends (P := l.prog) (w := w) (base := base) dEndsByPlace
  have GR := ok_reach dReach z dEndsByPlace GE
  have GPw := ok_partw (P := l.prog) (w := w) (base := base) dPartWith z
  have GPa := ok_parts cTab hC hB z dCheckLanes GL dReach GR dPartWith GPw
  have GNu := ok_nums dPartNumbers z dParts GPa
  have GBe := ok_betw dBetweenParts z dPartNumbers GNu
  have GRo := ok_rows dLongestRows z dParts GPa dBetweenParts GBe
  have GDe := ok_depths dDepths z dLongestRows GRo
  have GDp := ok_deepest dDeepest z dLongestRows GRo
  have GU := ok_upto (P := l.prog) (w := w) (base := base) dLUpto z
  have GH := ok_whole (P := l.prog) (w := w) (base := base) dLWhole z
  have GAt := ok_at (P := l.prog) (w := w) (base := base) dLAt z
  have GB := ok_lanesBy (P := l.prog) (w := w) (base := base) dLLanesBy z
  have GWR := ok_wholeRow dLWholeRow z dLWhole GH
  have GLR := ok_lreach (P := l.prog) (w := w) (base := base) dLReach
  have GAl := ok_allr dLAllReach z dLReach GLR
  have GHo := ok_hold dLPartsHold z dLWholeRow GWR dLAllReach GAl
  have GLP := ok_lpairs dLPairs z dLWholeRow GWR
  exact ok_law dLaw z dLUpto GU dLAt GAt dLLanesBy GB dParts GPa dLPartsHold GHo dPartNumbers GNu dLWholeRow GWR dBetweenParts GBe dLPairs GLP dDepths GDe dDeepest GDp
theorem walkL {l : PySem.W.OpenLaw} {q : Program} {loose : List Str} {XP : (Str → Option Value) → Heap → Prop} {YP : World → Heap → Prop} {d dg : DefRec} {K : Params → PySem.W.Frag} (hn : l.most = some 63) (hdf : d.params.defaults = []) (hrec : (PyProof.Rows.recsOf q).find? (fun e : DefRec => e.name == ("parts" : Str)) = some dg)
    (hY : ∀ (w : World) (h : Heap), YP w h → (K w.params).In h)
    (F : ∀ (w : World) (mg : Str → Option Value) (fa : Addr) (h : Heap), (K w.params).In h → h.Ns mainGlobals mg → mg d.name = some (.ref fa) →
      ∃ (fd : FuncData) (c T : Addr), PySem.W.tabIn (K w.params) "parts" = some (c, T) ∧ (∀ (s : Shared) (u : Value), BindsTo s fd ⟨[u], []⟩ [("_law_script", u)]) ∧
        (h.get? T = some (PySem.W.tabObj #[]) → ∀ base : Heap, (cutK (K w.params) T).In base → base.Ns mainGlobals mg → PySem.W.CodeHd base c T → base.BuiltinsAt mg T → FnOk l.prog w (cutK (K w.params) T) mg base CX0 9 fa fd ["_law_script"] (spLaw T (cutK (K w.params) T)))) :
    PySem.W.WalkO q loose XP YP l.row.toRowW d [] (fun f vs => PySem.call f vs) :=
  L2.walk_ofT (n := 63) (k := 9) (x := "_law_script") (g := "parts") (sp := fun K T => spLaw T K) hn (by decide) hdf ⟨rfl, by decide, by decide⟩ hrec hY F (fun K T H a ns hl hT hS => ⟨a, ns, rfl, hS, hl, tab_start hT, fun _ => rfl⟩)
end Toy
open PySem PySem.W PyProof.Rows
set_option maxRecDepth 100000 in
set_option maxHeartbeats 0 in
theorem PySem.Challenge.cw_lanemap_k06_whole_depths_holds : PySem.Challenge.rw_lanemap_k06_whole_depths.Holds := by
  w_on; o_law; k_head; (case hw => w_witness2)
  k_fill
  refine Toy.walkL (l := PySem.Challenge.rw_lanemap_k06_whole_depths) rfl rfl rfl (fun w h Y => PySem.W.km_in_of Y) ?F
  case F =>
    intro w mg fa h KX G hmg
    refine' Toy.all_mk KX G hmg ?a0 ?l0 ?c0 ?k0 ?a1 ?l1 ?c1 ?k1 ?a2 ?l2 ?c2 ?k2 ?a3 ?l3 ?c3 ?k3 ?a4 ?l4 ?c4 ?k4 ?a5 ?l5 ?c5 ?k5 ?a6 ?l6 ?c6 ?k6 ?a7 ?l7 ?c7 ?k7 ?a8 ?l8 ?c8 ?k8 ?a9 ?l9 ?c9 ?k9 ?a10 ?l10 ?c10 ?k10 ?a11 ?l11 ?c11 ?k11 ?a12 ?l12 ?c12 ?k12 ?a13 ?l13 ?c13 ?k13 ?a14 ?l14 ?c14 ?k14 ?a15 ?l15 ?c15 ?k15 ?a16 ?l16 ?c16 ?k16 ?a17 ?l17 ?c17 ?k17 ?a18 ?l18 ?c18 ?k18 ?a19 ?l19 ?c19 ?k19 ?a20 ?l20 ?c20 ?k20 ?a21 ?l21 ?c21 ?k21 ?z_all ?z_bool ?z_enumerate ?z_int ?z_isinstance ?z_len ?z_list ?z_max ?z_range ?z_set ?z_sorted ?z_tuple ?t_tab
    (case a0 => k_is)
    (case l0 => k_is)
    (case c0 => k_is)
    (case k0 => k_is)
    (case a1 => k_is)
    (case l1 => k_is)
    (case c1 => k_is)
    (case k1 => k_is)
    (case a2 => k_is)
    (case l2 => k_is)
    (case c2 => k_is)
    (case k2 => k_is)
    (case a3 => k_is)
    (case l3 => k_is)
    (case c3 => k_is)
    (case k3 => k_is)
    (case a4 => k_is)
    (case l4 => k_is)
    (case c4 => k_is)
    (case k4 => k_is)
    (case a5 => k_is)
    (case l5 => k_is)
    (case c5 => k_is)
    (case k5 => k_is)
    (case a6 => k_is)
    (case l6 => k_is)
    (case c6 => k_is)
    (case k6 => k_is)
    (case a7 => k_is)
    (case l7 => k_is)
    (case c7 => k_is)
    (case k7 => k_is)
    (case a8 => k_is)
    (case l8 => k_is)
    (case c8 => k_is)
    (case k8 => k_is)
    (case a9 => k_is)
    (case l9 => k_is)
    (case c9 => k_is)
    (case k9 => k_is)
    (case a10 => k_is)
    (case l10 => k_is)
    (case c10 => k_is)
    (case k10 => k_is)
    (case a11 => k_is)
    (case l11 => k_is)
    (case c11 => k_is)
    (case k11 => k_is)
    (case a12 => k_is)
    (case l12 => k_is)
    (case c12 => k_is)
    (case k12 => k_is)
    (case a13 => k_is)
    (case l13 => k_is)
    (case c13 => k_is)
    (case k13 => k_is)
    (case a14 => k_is)
    (case l14 => k_is)
    (case c14 => k_is)
    (case k14 => k_is)
    (case a15 => k_is)
    (case l15 => k_is)
    (case c15 => k_is)
    (case k15 => k_is)
    (case a16 => k_is)
    (case l16 => k_is)
    (case c16 => k_is)
    (case k16 => k_is)
    (case a17 => k_is)
    (case l17 => k_is)
    (case c17 => k_is)
    (case k17 => k_is)
    (case a18 => k_is)
    (case l18 => k_is)
    (case c18 => k_is)
    (case k18 => k_is)
    (case a19 => k_is)
    (case l19 => k_is)
    (case c19 => k_is)
    (case k19 => k_is)
    (case a20 => k_is)
    (case l20 => k_is)
    (case c20 => k_is)
    (case k20 => k_is)
    (case a21 => k_is)
    (case l21 => k_is)
    (case c21 => k_is)
    (case k21 => k_is)
    (case z_all => k_is)
    (case z_bool => k_is)
    (case z_enumerate => k_is)
    (case z_int => k_is)
    (case z_isinstance => k_is)
    (case z_len => k_is)
    (case z_list => k_is)
    (case z_max => k_is)
    (case z_range => k_is)
    (case z_set => k_is)
    (case z_sorted => k_is)
    (case z_tuple => k_is)
    (case t_tab => kernel_rfl)
