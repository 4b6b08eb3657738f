import PyProof.Rows.All
import Wide.All
import OpenK.AllK
import Wide.FinOn
import Lean
import PyProof.EqAt
import PyProof.EqKinds
import PyProof.TupleCall
import PySem.Challenge.RW_rimread_k04_determinants_of_many_rows
set_option Elab.async false
set_option linter.all false
set_option maxRecDepth 100000
/-! THE HAND LAYER, for ints, bools, texts, own classes, LISTS and tuples (index, slices, in, append, pop ..), calls, loops. Paste it whole ahead of your own text; what your proof does not reach may be deleted. -/
namespace L2
open PySem PySem.Spec PyProof.Rows

/-- a key: an int or a str -/
abbrev Key := Sum Int Str
def keyIs : Key → Value → Bool
  | .inl k, v => Value.isInt k v
  | .inr x, v => Value.isStrOf x v
def keyH (w : World) : Key → Int
  | .inl k => hashInt k
  | .inr x => hashStr w x
theorem keyIs_shape : ∀ {k : Key} {v : Value}, keyIs k v = true → (∃ i t, k = Sum.inl i ∧ v = Value.int i t) ∨ (∃ x t, k = Sum.inr x ∧ v = Value.str x t)
  | .inl i, v, h => by
    obtain ⟨t, e⟩ := Value.isInt_shape (k := i) (v := v) h
    exact .inl ⟨i, t, rfl, e⟩
  | .inr x, v, h => by
    obtain ⟨t, e⟩ := Value.isStrOf_shape (x := x) (v := v) h
    exact .inr ⟨x, t, rfl, e⟩
theorem keyIs_int (i : Int) (t : Tok) : keyIs (.inl i) (.int i t) = true := by simp [keyIs, Value.isInt]
theorem keyIs_str (x : Str) (t : Tok) : keyIs (.inr x) (.str x t) = true := by simp [keyIs, Value.isStrOf]
theorem key_ll (a b : Int) : decide ((Sum.inl a : Key) = Sum.inl b) = (a == b) := by
  by_cases e : a = b
  · subst e; simp
  · have h : ¬ (Sum.inl a : Key) = Sum.inl b := fun q => e (Sum.inl.inj q)
    rw [decide_eq_false h]
    exact (beq_eq_false_iff_ne.mpr e).symm
theorem key_rr (a b : Str) : decide ((Sum.inr a : Key) = Sum.inr b) = decide (a = b) := by
  by_cases e : a = b
  · subst e; simp
  · have h : ¬ (Sum.inr a : Key) = Sum.inr b := fun q => e (Sum.inr.inj q)
    rw [decide_eq_false h, decide_eq_false e]
theorem key_lr (a : Int) (b : Str) : decide ((Sum.inl a : Key) = Sum.inr b) = false := decide_eq_false (fun q => nomatch q)
theorem key_rl (a : Str) (b : Int) : decide ((Sum.inr a : Key) = Sum.inl b) = false := decide_eq_false (fun q => nomatch q)

def mixKind (prog : Program) (w : World) : PySem.KeyKind prog w Key where
  is := keyIs
  hash := keyH w
  inj := fun v a b ha hb => by
    rcases keyIs_shape ha with ⟨i, t, rfl, rfl⟩ | ⟨x, t, rfl, rfl⟩
    · rcases keyIs_shape hb with ⟨j, u, rfl, e⟩ | ⟨y, u, rfl, e⟩
      · injection e with e1 _; rw [e1]
      · exact nomatch e
    · rcases keyIs_shape hb with ⟨j, u, rfl, e⟩ | ⟨y, u, rfl, e⟩
      · exact nomatch e
      · injection e with e1 _; rw [e1]
  byValue := fun k v h => by
    rcases keyIs_shape h with ⟨i, t, rfl, rfl⟩ | ⟨x, t, rfl, rfl⟩ <;> rfl
  pyHash := fun hv h => by
    rcases keyIs_shape hv with ⟨i, t, rfl, rfl⟩ | ⟨x, t, rfl, rfl⟩
    · exact wpAny_pyHash_int h
    · exact wpAny_pyHash_str h
  eqBool := fun hu hv h => by
    rcases keyIs_shape hu with ⟨i, t, rfl, rfl⟩ | ⟨x, t, rfl, rfl⟩
    · rcases keyIs_shape hv with ⟨j, u, rfl, rfl⟩ | ⟨y, u, rfl, rfl⟩
      · rw [key_ll] at h; exact wpAny_eqBool_int h
      · rw [key_lr] at h; exact SeqAt.EqAt.int_str i t y u _ _ _ _ h
    · rcases keyIs_shape hv with ⟨j, u, rfl, rfl⟩ | ⟨y, u, rfl, rfl⟩
      · rw [key_rl] at h; exact SeqAt.EqAt.str_int x t j u _ _ _ _ h
      · rw [key_rr] at h; exact wpAny_eqBool_str h
  «strs» := fun k x t v h => by
    rcases keyIs_shape h with ⟨i, u, rfl, e⟩ | ⟨y, u, rfl, e⟩
    · exact nomatch e
    · injection e with e1 _
      subst e1
      cases v <;> rfl

theorem mixKind_is (prog : Program) (w : World) (k : Key) (v : Value) : (mixKind prog w).is k v = keyIs k v := rfl
theorem mixKind_int (prog : Program) (w : World) (i : Int) (t : Tok) : (mixKind prog w).is (.inl i) (.int i t) = true := keyIs_int i t
theorem mixKind_str (prog : Program) (w : World) (x : Str) (t : Tok) : (mixKind prog w).is (.inr x) (.str x t) = true := keyIs_str x t
end L2

namespace L2
open PySem PySem.Spec PyProof.Rows

/-- a value, without the heap -/
inductive V where
  | non | bl (b : Bool) | int (i : Int) | str (x : Str) | byt (b : Array UInt8) | flt (b : UInt64) | ref (a : Addr) | ty (n : String)
  deriving DecidableEq

def RelV : V → Value → Prop
  | .non, u => u = Value.none
  | .bl b, u => u = Value.bool b
  | .int i, u => ∃ t, u = Value.int i t
  | .str x, u => ∃ t, u = Value.str x t
  | .byt b, u => ∃ t, u = Value.bytes b t
  | .flt b, u => ∃ t, u = Value.float b t
  | .ref a, u => u = Value.ref a
  | .ty n, u => u = Value.type n

abbrev Vals : List V → List Value → Prop := Paired RelV
theorem Vals.length {xs : List V} {us : List Value} (r : Vals xs us) : xs.length = us.length := Paired.length r
theorem Vals.get : ∀ {xs : List V} {us : List Value} {i : Nat} {x : V}, Vals xs us → xs[i]? = some x → ∃ u, us[i]? = some u ∧ RelV x u
  | _, _, _, _, .nil, e => by simp at e
  | _, _, 0, _, .cons r _, e => by simp at e; subst e; exact ⟨_, rfl, r⟩
  | _, _, i + 1, x, .cons _ t, e => by
    obtain ⟨u, h1, h2⟩ := Vals.get (i := i) (x := x) t (by simpa using e)
    exact ⟨u, by simpa using h1, h2⟩
theorem Vals.set {x : V} {u : Value} (r : RelV x u) : ∀ {xs : List V} {us : List Value} (i : Nat), Vals xs us → Vals (xs.set i x) (us.set i u)
  | _, _, _, .nil => .nil
  | _, _, 0, .cons _ t => .cons r t
  | _, _, i + 1, .cons q t => .cons q (Vals.set r i t)
theorem Vals.append : ∀ {xs ys : List V} {us ws : List Value}, Vals xs us → Vals ys ws → Vals (xs ++ ys) (us ++ ws)
  | _, _, _, _, .nil, s => s
  | _, _, _, _, .cons r t, s => .cons r (Vals.append t s)
theorem Vals.take : ∀ {xs : List V} {us : List Value} (n : Nat), Vals xs us → Vals (xs.take n) (us.take n)
  | _, _, 0, _ => .nil
  | _, _, _ + 1, .nil => .nil
  | _, _, n + 1, .cons r t => .cons r (Vals.take n t)
theorem Vals.drop : ∀ {xs : List V} {us : List Value} (n : Nat), Vals xs us → Vals (xs.drop n) (us.drop n)
  | _, _, 0, r => r
  | _, _, _ + 1, .nil => .nil
  | _, _, n + 1, .cons _ t => Vals.drop n t
theorem Vals.none_of : ∀ {xs : List V} {us : List Value} {i : Nat}, Vals xs us → xs[i]? = none → us[i]? = none := fun {xs us i} r e => by
  have h1 := r.length
  have h2 : xs.length ≤ i := List.getElem?_eq_none_iff.mp e
  exact List.getElem?_eq_none_iff.mpr (by omega)

def RelO : Option V → Option Value → Prop
  | some v, some u => RelV v u
  | none, none => True
  | _, _ => False
def KV {κ : Type} : List (κ × V) → List (κ × Value) → Prop := Paired fun (p : κ × V) (q : κ × Value) => p.1 = q.1 ∧ RelV p.2 q.2

/-- a key of a dict (00_mix): an int or a text -/
def kV : Key → V
  | .inl i => .int i
  | .inr x => .str x

/-- what stands at a tracked address -/
inductive HO where
  /-- a list -/
  | lst (xs : List V)
  /-- a tuple (never changes) -/
  | tup (xs : List V)
  /-- a dict whose keys are ints and texts; one whose keys are tuples of ints and texts (the empty one is both) -/
  | dK (kvs : List (Key × V)) | dT (kvs : List (List Key × V))
  /-- a set of ints: its members, its size -/
  | set (S : Int → Bool) (n : Nat)
  /-- an instance of the class at C, its dict at dx, its attributes -/
  | ins (C dx : Addr) (fs : List (Str × V))
  /-- the dict of the instance at x -/
  | own (x : Addr)
  /-- the dict of an exception -/
  | xd (fs : List (Str × V))
  /-- a bound method, f of x -/
  | met (f x : Addr)
  /-- a range object lo, lo + 1, .. below hi -/
  | rng (lo hi : Int)
  /-- a thing that is known to the object (the script; a dict while a loop walks it): read, never written while it is so -/
  | frz (o : Obj) (u : HO)
  /-- a code object's table -/
  | tbl (ps : Array Value)
  /-- any other thing, by what is true of its one object (a def of one's own: SetO a S n := HO.ext fun h => ..) -/
  | ext (φ : Heap → Prop)

abbrev Hp := Addr → Option HO
def upd (H : Hp) (a : Addr) (o : HO) : Hp := fun b => if b = a then some o else H b
theorem upd_same {H : Hp} {a : Addr} {o : HO} : upd H a o a = some o := by unfold upd; rw [if_pos rfl]
theorem upd_ne {H : Hp} {a b : Addr} {o : HO} (h : b ≠ a) : upd H a o b = H b := by unfold upd; rw [if_neg h]
theorem upd_upd {H : Hp} {a : Addr} {o u : HO} : upd (upd H a o) a u = upd H a u := by
  funext b; unfold upd; split <;> rfl
/-- two objects of different content stand apart -/
theorem ne_of {H : Hp} {a b : Addr} {o u : HO} (h : H a = some o) (h' : H b = some u) (d : o ≠ u) : a ≠ b := by
  intro e; subst e; rw [h] at h'; exact d (Option.some.inj h')
theorem ne_of_none {H : Hp} {a b : Addr} {o : HO} (h : H a = some o) (h' : H b = none) : a ≠ b := by
  intro e; subst e; rw [h] at h'; cases h'

section
variable (P : Program) (w : World)
def ObjOk (H : Hp) (h : Heap) (a : Addr) : HO → Prop
  | .lst xs => xs.length ≤ sizeLine ∧ ∃ (its : List Value) (n : Nat), Vals xs its ∧ h.get? a = some { cls := .type "list", data := .seq its.toArray n }
  | .tup xs => xs.length ≤ sizeLine ∧ ∃ its : List Value, Vals xs its ∧ IsTup h a its.toArray
  | .dK kvs => kvs.length ≤ sizeLine ∧ (a == sysModules) = false ∧ ∃ vs, KV kvs vs ∧ h.DictOf (mixKind P w) a vs
  | .dT kvs => kvs.length ≤ sizeLine ∧ (a == sysModules) = false ∧ ∃ xs : List (List Key × Addr × Value),
      Paired (fun (p : List Key × V) (q : List Key × Addr × Value) => p.1 = q.1 ∧ H q.2.1 = some (.tup (p.1.map kV)) ∧ RelV p.2 q.2.2) kvs xs ∧
      ∃ o es ep, h.get? a = some o ∧ o.ExactDict ∧ o.data = .dict es ep ∧ es.toList = xs.map (entryOfKey (tupleKind (mixKind P w))) ∧ (xs.map (·.1)).Nodup
  | .set S n => h.SetOf (intKind P w) a S n
  | .ins C dx fs => H dx = some (.own a) ∧ fs.length ≤ 1000 ∧ dx ≠ a ∧ h.get? a = some (PySem.W.instObj C dx) ∧
      ∃ mA, h.Ns1 dx mA ∧ (∀ f, RelO (fs.lookup f) (mA f)) ∧ PySem.Within mA (fs.map (·.1))
  | .own _ => ∃ o, h.get? a = some o
  | .xd fs => ∃ mA, h.Ns1 a mA ∧ ∀ f, RelO (fs.lookup f) (mA f)
  | .rng lo hi => ∃ t u v, h.get? a = some { cls := .type "range", data := .fields #[.int lo t, .int hi u, .int 1 v] }
  | .frz o u => h.get? a = some o ∧ ObjOk H h a u
  | .tbl ps => h.get? a = some { cls := .none, data := .fields ps }
  | .met f x => h.get? a = some (PySem.W.methodObj (.ref f) (.ref x))
  | .ext φ => φ h ∧ (∃ o, h.get? a = some o) ∧ ∀ h1 h2 : Heap, φ h1 → (∀ o, h1.get? a = some o → h2.get? a = some o) → φ h2
/-- the abstract heap is held -/
def HOk (H : Hp) (h : Heap) : Prop := ∀ a o, H a = some o → ObjOk P w H h a o
end

section
variable {P : Program} {w : World} {H H' : Hp} {h h' : Heap} {a : Addr} {o : HO}
theorem ObjOk.lt (x : ObjOk P w H h a o) : a < h.objs.size := by
  cases o with
  | lst xs => obtain ⟨_, _, _, _, e⟩ := x; exact Heap.lt_size e
  | tup xs => obtain ⟨_, _, _, p⟩ := x; exact p.lt
  | dK kvs => obtain ⟨_, _, _, _, o, _, _, e, _⟩ := x; exact Heap.lt_size e
  | dT kvs => obtain ⟨_, _, _, _, o, _, _, e, _⟩ := x; exact Heap.lt_size e
  | set S n => obtain ⟨o, _, _, _, e, _⟩ := x; exact Heap.lt_size e
  | ins C dx fs => obtain ⟨_, _, _, e, _⟩ := x; exact Heap.lt_size e
  | own y => obtain ⟨_, e⟩ := x; exact Heap.lt_size e
  | xd fs => obtain ⟨_, ⟨_, _, _, e, _⟩, _⟩ := x; exact Heap.lt_size e
  | rng lo hi => obtain ⟨_, _, _, e⟩ := x; exact Heap.lt_size e
  | frz ob u => obtain ⟨e, _⟩ := x; exact Heap.lt_size e
  | tbl ps => exact Heap.lt_size (show h.get? a = some _ from x)
  | met f y => exact Heap.lt_size (show h.get? a = some _ from x)
  | ext φ => obtain ⟨_, ⟨_, e⟩, _⟩ := x; exact Heap.lt_size e
theorem Paired.mapP {α β : Type} {F G : α → β → Prop} : ∀ {l₁ : List α} {l₂ : List β}, Paired F l₁ l₂ → (∀ a b, F a b → G a b) → Paired G l₁ l₂
  | _, _, .nil, _ => .nil
  | _, _, .cons r t, f => .cons (f _ _ r) (Paired.mapP t f)
theorem Paired.imp' {α β : Type} {F G : α → β → Prop} (f : ∀ a b, F a b → G a b) {l₁ : List α} {l₂ : List β} (r : Paired F l₁ l₂) : Paired G l₁ l₂ := Paired.mapP r f
/-- what an object's description leans on: its own object, its own dict, the tuples -/
theorem ObjOk.stay (x : ObjOk P w H h a o) (k : ∀ b u, (b = a ∨ H b = some (.own a)) → h.get? b = some u → h'.get? b = some u)
    (ho : ∀ b, H b = some (.own a) → H' b = some (.own a)) (ht : ∀ b xs, H b = some (.tup xs) → H' b = some (.tup xs)) : ObjOk P w H' h' a o := by
  induction o with
  | lst xs => obtain ⟨z, its, n, r, e⟩ := x; exact ⟨z, its, n, r, k _ _ (.inl rfl) e⟩
  | tup xs => obtain ⟨z, its, r, ob, e, c⟩ := x; exact ⟨z, its, r, ob, k _ _ (.inl rfl) e, c⟩
  | dK kvs => obtain ⟨z, y, vs, r, ob, es, ep, e, c⟩ := x; exact ⟨z, y, vs, r, ob, es, ep, k _ _ (.inl rfl) e, c⟩
  | dT kvs =>
    obtain ⟨z, y, xs, r, ob, es, ep, e, c⟩ := x
    exact ⟨z, y, xs, Paired.mapP r fun p q z => ⟨z.1, ht _ _ z.2.1, z.2.2⟩, ob, es, ep, k _ _ (.inl rfl) e, c⟩
  | set S n => obtain ⟨ob, es, ep, t, e, c⟩ := x; exact ⟨ob, es, ep, t, k _ _ (.inl rfl) e, c⟩
  | ins C dx fs =>
    obtain ⟨d, z, ne, e, mA, ⟨od, es, ep, e2, c⟩, r⟩ := x
    exact ⟨ho _ d, z, ne, k _ _ (.inl rfl) e, mA, ⟨od, es, ep, k _ _ (.inr d) e2, c⟩, r⟩
  | own y => obtain ⟨ob, e⟩ := x; exact ⟨ob, k _ _ (.inl rfl) e⟩
  | xd fs => obtain ⟨mA, ⟨od, es, ep, e, c⟩, r⟩ := x; exact ⟨mA, ⟨od, es, ep, k _ _ (.inl rfl) e, c⟩, r⟩
  | rng lo hi => obtain ⟨t, u, v, e⟩ := x; exact ⟨t, u, v, k _ _ (.inl rfl) e⟩
  | frz ob u ih => obtain ⟨e, q⟩ := x; exact ⟨k _ _ (.inl rfl) e, ih q⟩
  | tbl ps =>
    have e : h.get? a = some { cls := .none, data := .fields ps } := x
    show h'.get? a = some { cls := .none, data := .fields ps }
    exact k a _ (.inl rfl) e
  | met f y =>
    have e : h.get? a = some (PySem.W.methodObj (.ref f) (.ref y)) := x
    show h'.get? a = some (PySem.W.methodObj (.ref f) (.ref y))
    exact k a _ (.inl rfl) e
  | ext φ => obtain ⟨p, ⟨o, e⟩, st⟩ := x; exact ⟨st _ _ p fun o q => k _ _ (.inl rfl) q, ⟨o, k _ _ (.inl rfl) e⟩, st⟩
theorem HOk.lt (x : HOk P w H h) (e : H a = some o) : a < h.objs.size := (x a o e).lt
theorem HOk.fresh (x : HOk P w H h) (e : h.objs.size ≤ a) : H a = none := by
  cases q : H a with
  | none => rfl
  | some u => exact absurd (Nat.lt_of_lt_of_le (x.lt q) e) (Nat.lt_irrefl _)
/-- every object of the heap is kept -/
theorem HOk.kept (x : HOk P w H h) (k : ∀ b u, h.get? b = some u → h'.get? b = some u) : HOk P w H h' := fun a o e =>
  (x a o e).stay (fun b u _ q => k b u q) (fun _ q => q) fun _ _ q => q
/-- a new object is laid and tracked -/
theorem HOk.laid (x : HOk P w H h) (k : ∀ b u, h.get? b = some u → h'.get? b = some u) (hp : h.objs.size ≤ a) (new : ObjOk P w (upd H a o) h' a o) : HOk P w (upd H a o) h' := fun b u e => by
  have hn := x.fresh hp
  by_cases hb : b = a
  · subst hb; rw [upd_same] at e; cases e; exact new
  · rw [upd_ne hb] at e
    exact (x b u e).stay (fun c v _ q => k c v q) (fun c q => by rw [upd_ne (ne_of_none q hn)]; exact q) fun c xs q => by rw [upd_ne (ne_of_none q hn)]; exact q
end

/-- what may be read as u: it is u, or a known u -/
def Rd (H : Hp) (a : Addr) (u : HO) : Prop := H a = some u ∨ ∃ o, H a = some (.frz o u)
theorem Rd.of {H : Hp} {a : Addr} {u : HO} (h : H a = some u) : Rd H a u := .inl h
theorem Rd.ok {P : Program} {w : World} {H : Hp} {h : Heap} {a : Addr} {u : HO} (r : Rd H a u) (x : HOk P w H h) : ObjOk P w H h a u := by
  rcases r with r | ⟨o, r⟩
  · exact x a u r
  · obtain ⟨_, q⟩ := x a _ r
    exact q
/-- what may be written -/
def Mut : Option HO → Prop
  | some (.lst _) => True
  | some (.dK _) => True
  | some (.dT _) => True
  | some (.set _ _) => True
  | some (.ins _ _ _) => True
  | some (.ext _) => True
  | _ => False
section
variable {P : Program} {w : World} {H : Hp} {h h' : Heap} {x e : Addr} {o' : HO}
/-- the object at e is changed: x itself, or the dict of the instance x -/
theorem HOk.write (ok : HOk P w H h) (mu : Mut (H x)) (he : e = x ∨ H e = some (.own x)) (k : ∀ b u, b ≠ e → h.get? b = some u → h'.get? b = some u) (heo : ∃ u, h'.get? e = some u)
    (new : ObjOk P w (upd H x o') h' x o') : HOk P w (upd H x o') h' := fun b u q => by
  have nown : ∀ c y, H c = some (.own y) → c ≠ x := fun c y r z => by subst z; rw [r] at mu; exact mu
  have ntup : ∀ c xs, H c = some (.tup xs) → c ≠ x := fun c xs r z => by subst z; rw [r] at mu; exact mu
  by_cases hb : b = x
  · subst hb; rw [upd_same] at q; cases q; exact new
  · rw [upd_ne hb] at q
    by_cases hbe : b = e
    · have q' : H b = some (.own x) := by
        rcases he with z | z
        · exact absurd (hbe.trans z) hb
        · rw [hbe]; exact z
      rw [q] at q'; cases q'
      obtain ⟨v, hv⟩ := heo
      exact ⟨v, by rw [hbe]; exact hv⟩
    · refine (ok b u q).stay (fun c v hc r => k c v ?_ r) (fun c r => by rw [upd_ne (nown c b r)]; exact r) fun c xs r => by rw [upd_ne (ntup c xs r)]; exact r
      rcases hc with rfl | hc
      · exact hbe
      · rintro rfl
        rcases he with z | z
        · exact nown c b hc z
        · rw [hc] at z; cases z; exact hb rfl
end

/-! ### kept unless tracked; of the frames at fs (the callers') the slots may change (an exception that passes writes there); of the records at ex (iterators) nothing is said -/
structure Un (fs ex : List Addr) (H H' : Hp) (h h' : Heap) : Prop where
  keep : ∀ b o, h.get? b = some o → H b = none → b ∉ fs → b ∉ ex → h'.get? b = some o
  slot : ∀ b o, h.get? b = some o → H b = none → b ∈ fs → b ∉ ex → ∃ sl, h'.get? b = some { o with slots := sl }
  free : ∀ b o, h.get? b = some o → H b = none → b ∉ ex → H' b = none
  there : ∀ b o, h.get? b = some o → b ∉ ex → ∃ o', h'.get? b = some o'
  tups : ∀ b xs, H b = some (.tup xs) → H' b = some (.tup xs)
  frzs : ∀ b o u, H b = some (.frz o u) → H' b = some (.frz o u)
  tbls : ∀ b ps, H b = some (.tbl ps) → ∃ more, H' b = some (.tbl (ps ++ more))
section
variable {fs fs' ex ex' : List Addr} {H H1 H2 : Hp} {h h1 h2 h' : Heap} {a x e : Addr} {o : HO}
theorem Un.any (u : Un fs ex H H1 h h1) {b : Addr} {ob : Obj} (q : h.get? b = some ob) (n : H b = none) (hx : b ∉ ex) : ∃ sl, h1.get? b = some { ob with slots := sl } := by
  by_cases hb : b ∈ fs
  · exact u.slot b ob q n hb hx
  · exact ⟨ob.slots, u.keep b ob q n hb hx⟩
theorem Un.trans (a : Un fs ex H H1 h h1) (b : Un fs ex H1 H2 h1 h2) : Un fs ex H H2 h h2 where
  keep := fun c ob q n hc hx => b.keep c ob (a.keep c ob q n hc hx) (a.free c ob q n hx) hc hx
  slot := fun c ob q n hc hx => by
    obtain ⟨sl, e1⟩ := a.slot c ob q n hc hx
    obtain ⟨sl', e2⟩ := b.slot c _ e1 (a.free c ob q n hx) hc hx
    exact ⟨sl', e2⟩
  free := fun c ob q n hx => by
    obtain ⟨o', e1⟩ := a.there c ob q hx
    exact b.free c o' e1 (a.free c ob q n hx) hx
  there := fun c ob q hx => by
    obtain ⟨o', e1⟩ := a.there c ob q hx
    exact b.there c o' e1 hx
  tups := fun c xs q => b.tups c xs (a.tups c xs q)
  frzs := fun c ob xs q => b.frzs c ob xs (a.frzs c ob xs q)
  tbls := fun c ps q => by
    obtain ⟨m1, e1⟩ := a.tbls c ps q
    obtain ⟨m2, e2⟩ := b.tbls c _ e1
    exact ⟨m1 ++ m2, by rw [e2, Array.append_assoc]⟩
theorem Un.kept (k : ∀ b u, h.get? b = some u → h'.get? b = some u) : Un fs ex H H h h' :=
  ⟨fun b ob q _ _ _ => k b ob q, fun b ob q _ _ _ => ⟨ob.slots, k b ob q⟩, fun _ _ _ n _ => n, fun b ob q _ => ⟨ob, k b ob q⟩, fun _ _ q => q, fun _ _ _ q => q, fun _ ps q => ⟨#[], by rw [q]; simp⟩⟩
theorem Un.refl : Un fs ex H H h h := Un.kept fun _ _ q => q
theorem Un.laid (k : ∀ b u, h.get? b = some u → h'.get? b = some u) (hp : h.objs.size ≤ a) (hn : H a = none) : Un fs ex H (upd H a o) h h' where
  keep := fun b u q _ _ _ => k b u q
  slot := fun b u q _ _ _ => ⟨u.slots, k b u q⟩
  free := fun b u q n _ => by rw [upd_ne (Nat.ne_of_lt (Nat.lt_of_lt_of_le (Heap.lt_size q) hp))]; exact n
  there := fun b u q _ => ⟨u, k b u q⟩
  tups := fun b xs q => by rw [upd_ne (ne_of_none q hn)]; exact q
  frzs := fun b u xs q => by rw [upd_ne (ne_of_none q hn)]; exact q
  tbls := fun b ps q => ⟨#[], by rw [upd_ne (ne_of_none q hn), q]; simp⟩
theorem Un.write (mu : Mut (H x)) (he : e = x ∨ H e = some (.own x)) (k : ∀ b u, b ≠ e → h.get? b = some u → h'.get? b = some u) (heo : ∃ u, h'.get? e = some u) : Un fs ex H (upd H x o) h h' := by
  have hx : ∀ b, H b = none → b ≠ x := fun b n z => by subst z; rw [n] at mu; exact mu
  have hb : ∀ b, H b = none → b ≠ e := fun b n z => by
    subst z
    rcases he with r | r
    · exact hx b n r
    · rw [n] at r; cases r
  have hm : ∀ b u, H b = some u → ¬ Mut (some u) → b ≠ x := fun b u q nm z => by subst z; rw [q] at mu; exact nm mu
  refine ⟨fun b u q n _ _ => k b u (hb b n) q, fun b u q n _ _ => ⟨u.slots, k b u (hb b n) q⟩, fun b u q n _ => by rw [upd_ne (hx b n)]; exact n, fun b u q _ => ?_,
    fun b xs q => by rw [upd_ne (hm b _ q fun z => z)]; exact q, fun b u xs q => by rw [upd_ne (hm b _ q fun z => z)]; exact q, fun b ps q => ⟨#[], by rw [upd_ne (hm b _ q fun z => z), q]; simp⟩⟩
  by_cases hbe : b = e
  · subst hbe; exact heo
  · exact ⟨u, k b u hbe q⟩
theorem Un.mono (u : Un fs ex H H1 h h1) (hs : ∀ b ∈ fs, b ∈ fs') (hx : ∀ b ∈ ex, b ∈ ex') : Un fs' ex' H H1 h h1 :=
  ⟨fun b ob q n hb he => u.keep b ob q n (fun z => hb (hs b z)) fun z => he (hx b z), fun _ _ q n _ he => u.any q n fun z => he (hx _ z), fun b ob q n he => u.free b ob q n fun z => he (hx b z), fun b ob q he => u.there b ob q fun z => he (hx b z), u.tups, u.frzs, u.tbls⟩
end

/-! ### the heap without what is tracked -/
def trk (h : Heap) (H : Hp) : List Addr := (List.range h.objs.size).filter fun a => (H a).isSome
def hidT (h : Heap) (H : Hp) : Heap := PySem.W.hideAll h (trk h H)
theorem hidT_size (h : Heap) (H : Hp) : (hidT h H).objs.size = h.objs.size := PySem.W.hideAll_size _ _
theorem hidT_get {h : Heap} {H : Hp} {b : Addr} {o : Obj} (e : h.get? b = some o) (n : H b = none) : (hidT h H).get? b = some o :=
  PySem.W.hideAll_get _ e fun hm => by
    have q : (H b).isSome = true := (List.mem_filter.mp hm).2
    rw [n] at q; simp at q
theorem of_hidT {h : Heap} {H : Hp} {b : Addr} {o : Obj} (e : (hidT h H).get? b = some o) : h.get? b = some o ∧ H b = none := by
  have e' : h.get? b = some o := PySem.W.of_hideAll (trk h H) e
  refine ⟨e', ?_⟩
  cases q : H b with
  | none => rfl
  | some x =>
    have hm : b ∈ trk h H := List.mem_filter.mpr ⟨List.mem_range.mpr (Heap.lt_size e'), by simp [q]⟩
    have z : (hidT h H).get? b = none := PySem.W.hideAll_none (trk h H) hm
    rw [z] at e; cases e

/-! ### OpenK's ledger, filled with every new object but one -/
def allNews (g h : Heap) (L : Addr) : List (Addr × Obj) := (List.range h.objs.size).filterMap fun a => if a = L ∨ (g.get? a).isSome = true then none else (h.get? a).map fun o => (a, o)
theorem mem_allNews {g h : Heap} {L a : Addr} {o : Obj} (h1 : a ≠ L) (h2 : g.get? a = none) (h3 : h.get? a = some o) : (a, o) ∈ allNews g h L :=
  List.mem_filterMap.mpr ⟨a, List.mem_range.mpr (Heap.lt_size h3), by simp [h1, h2, h3]⟩
theorem of_mem_allNews {g h : Heap} {L : Addr} {p : Addr × Obj} (hp : p ∈ allNews g h L) : p.1 ≠ L ∧ g.get? p.1 = none ∧ h.get? p.1 = some p.2 := by
  obtain ⟨b, _, e⟩ := List.mem_filterMap.mp hp
  split at e
  · cases e
  · rename_i hn
    cases q : h.get? b with
    | none => rw [q] at e; simp at e
    | some u =>
      rw [q] at e
      simp only [Option.map_some, Option.some.injEq] at e
      subst e
      refine ⟨fun z => hn (.inl z), ?_, q⟩
      show g.get? b = none
      cases r : g.get? b with
      | none => rfl
      | some v => exact (hn (.inr (by simp [r]))).elim
def rest (g h : Heap) (L d : Addr) : List (Addr × Obj) := (allNews g h L).filter fun p => decide (p.1 ≠ d)
theorem rest_ne {g h : Heap} {L d : Addr} : ∀ p ∈ rest g h L d, p.1 ≠ d := fun p hp => of_decide_eq_true (List.mem_filter.mp hp).2
theorem mem_rest {g h : Heap} {L d a : Addr} {o : Obj} (h1 : a ≠ L) (h2 : g.get? a = none) (h3 : h.get? a = some o) (h4 : a ≠ d) : (a, o) ∈ rest g h L d :=
  List.mem_filter.mpr ⟨mem_allNews h1 h2 h3, decide_eq_true h4⟩
theorem news_all {g h : Heap} {L : Addr} : News g L h (allNews g h L) := fun p hp => let ⟨a, b, c⟩ := of_mem_allNews hp; ⟨c, a, b⟩
theorem news_at {g h : Heap} {L d : Addr} {o : Obj} (h1 : d ≠ L) (h2 : g.get? d = none) (h3 : h.get? d = some o) : News g L h ((d, o) :: rest g h L d) := fun p hp => by
  rcases List.mem_cons.mp hp with rfl | hp
  · exact ⟨h3, h1, h2⟩
  · exact news_all p (List.mem_filter.mp hp).1
/-- behind a rule that changed d alone: all else but the frame is kept -/
theorem kept_of_news {g h h' : Heap} {L d : Addr} {m : Str → Option Value} (k : ∀ b o, g.get? b = some o → h.get? b = some o) (F : Fr g L h' m) (N : News g L h' (rest g h L d)) :
    ∀ b o, b ≠ L → b ≠ d → h.get? b = some o → h'.get? b = some o := fun b o h1 h2 e => by
  cases q : g.get? b with
  | some u =>
    have := k b u q
    rw [e] at this; cases this
    exact F.keep b _ q
  | none => exact (N (b, o) (mem_rest h1 q e h2)).1
end L2

namespace L2
open PySem PySem.Spec PyProof.Rows

/-- the module's facts, over the base: the heap at the law's entry without what is tracked there -/
structure Mod (K : PySem.W.Frag) (mg : Str → Option Value) (base : Heap) : Prop where
  kin : K.In base
  glob : base.Ns mainGlobals mg
  blt : ∃ mb, base.Ns builtinsNs mb ∧ ∀ x : Str, x ≠ "__name__" → mb x = bootBuiltins x
  nolimit : base.NoLimit

/-- the context: a def's body (or a comprehension's block) running. base: fixed through the whole law; s₀, H₀: the entry; outer: the frames whose slots others may change (a def's callers); stack: all frames that run;
   ex: iterators that were made ahead of the entry and are walked here (a comprehension's); fn: the names whose cells were made at the entry (a def: all; a comprehension's block: its own); calm: not within an except suite; pn: pins that every state bears; xe: what is wanted of an exception that leaves the code -/
structure Cx where
  prog : Program
  w : World
  K : PySem.W.Frag
  mg : Str → Option Value
  base : Heap
  A : Around
  N : List Str
  s₀ : Shared
  H₀ : Hp
  env : Env
  outer : List Env
  stack : List Env
  ex : List Addr
  fn : Str → Bool
  calm : Bool
  pn : List (Addr × Obj)
  xe : Value → Shared → Prop
/-- the callers' frames -/
def frs (l : List Env) : List Addr := l.filterMap (·.frame)
abbrev Cx.fs (X : Cx) : List Addr := frs X.outer

def Vis (sc : Scope) (x : Str) : Prop := sc.names.lookup x = some .local ∨ sc.names.lookup x = some .cell ∨ sc.names.lookup x = some .free
def Loc (sc : Scope) (x : Str) : Prop := sc.names.lookup x = some .local ∨ sc.names.lookup x = some .cell
def Look (env : Env) (h : Heap) (m : Str → Option Value) (x : Str) (u : Value) : Prop :=
  (env.kindOf x = some .local ∧ m x = some u) ∨ ((env.kindOf x = some .cell ∨ env.kindOf x = some .free) ∧ ∃ c, env.cells.lookup x = some c ∧ h.IsCell c (some u))

structure Cx.Ok (X : Cx) : Prop where
  mod : Mod X.K X.mg X.base
  kind : X.env.scope.kind = .function
  glob : X.env.globals = mainGlobals
  blt : X.env.builtins = builtinsNs
  above : X.s₀.heap.objs.size ≤ X.env.locals
  inj : ∀ x y c, X.env.cells.lookup x = some c → X.env.cells.lookup y = some c → x = y
  has : ∀ x, (X.env.kindOf x = some .cell ∨ X.env.kindOf x = some .free) → ∃ c, X.env.cells.lookup x = some c
  cab : ∀ x c, X.fn x = true → X.env.cells.lookup x = some c → X.s₀.heap.objs.size ≤ c
  hd : X.calm = true → X.A.handled = none
  frames : X.A.frames = some X.stack
  stk : X.stack = X.outer ∨ (X.stack = X.env :: X.outer ∧ X.env.frame = some X.env.locals)
  exf : ∀ b ∈ X.ex, b ≠ X.env.locals ∧ ∀ x c, X.env.cells.lookup x = some c → c ≠ b
  bs : ∀ b o, X.base.get? b = some o → X.s₀.heap.get? b = some o ∧ X.H₀ b = none
  bsz : X.base.objs.size ≤ X.s₀.heap.objs.size
  noex : ∀ b o, X.base.get? b = some o → b ∉ X.ex
  exfs : ∀ b ∈ X.ex, b ∉ X.fs
  funs : X.s₀.heap.FunFrames X.base X.outer
  frf : ∀ b ∈ X.fs, X.H₀ b = none

structure Inv (X : Cx) (pins : List (Addr × Obj)) (σ : List (Option V)) (H : Hp) (s : Shared) : Prop where
  ok : X.Ok
  os : s.os = X.s₀.os
  bare : AllBare s.gens
  base : Un X.fs X.ex X.H₀ H X.s₀.heap s.heap
  loc : ∃ m, s.heap.Ns X.env.locals m ∧ ∀ (i : Nat) (x : Str) (v : V), X.N[i]? = some x → σ[i]? = some (some v) → Vis X.env.scope x → ∃ u, RelV v u ∧ Look X.env s.heap m x u
  cell : ∀ x c, X.env.cells.lookup x = some c → ∃ v, s.heap.IsCell c v
  free : H X.env.locals = none
  freeC : ∀ x c, X.env.cells.lookup x = some c → H c = none
  pin : ∀ p ∈ X.pn ++ pins, s.heap.get? p.1 = some p.2 ∧ H p.1 = none ∧ p.1 ≠ X.env.locals ∧ p.1 ∉ X.fs ∧ ∀ v, p.2.data ≠ .cell v
  hok : HOk X.prog X.w H s.heap
  len : σ.length = X.N.length

section
variable {X : Cx} {pins : List (Addr × Obj)} {σ : List (Option V)} {H H' : Hp} {s : Shared} {h' : Heap}

theorem Cx.Ok.nofr (ok : X.Ok) {b : Addr} {o : Obj} (e : X.base.get? b = some o) : b ∉ X.fs := fun hb => by
  have := (ok.funs.mem hb).1
  rw [e] at this; cases this
theorem Inv.bs (I : Inv X pins σ H s) : ∀ b o, X.base.get? b = some o → s.heap.get? b = some o ∧ H b = none := fun b o e =>
  ⟨I.base.keep b o (I.ok.bs b o e).1 (I.ok.bs b o e).2 (I.ok.nofr e) (I.ok.noex b o e), I.base.free b o (I.ok.bs b o e).1 (I.ok.bs b o e).2 (I.ok.noex b o e)⟩
theorem Inv.bk (I : Inv X pins σ H s) : ∀ b o, X.base.get? b = some o → s.heap.get? b = some o := fun b o e => (I.bs b o e).1
theorem Inv.mod (I : Inv X pins σ H s) : Mod X.K X.mg X.base := I.ok.mod
theorem Inv.kIn (I : Inv X pins σ H s) : X.K.In s.heap := I.ok.mod.kin.keeps I.bk
theorem Inv.nolimit (I : Inv X pins σ H s) : s.heap.NoLimit := I.ok.mod.nolimit.keeps I.bk
/-- the frame over the base: for OpenK's rules (K.In X.base is I.mod.kin) -/
theorem Inv.fr (I : Inv X pins σ H s) : ∃ m, Fr X.base X.env.locals s.heap m :=
  let ⟨m, hn, _⟩ := I.loc
  ⟨m, hn, I.bk, Nat.le_trans I.ok.bsz I.ok.above⟩
theorem Inv.lt (I : Inv X pins σ H s) : X.env.locals < s.heap.objs.size := let ⟨_, hn, _⟩ := I.loc; hn.lt
theorem Inv.sz (I : Inv X pins σ H s) : X.s₀.heap.objs.size ≤ s.heap.objs.size := Nat.le_trans I.ok.above (Nat.le_of_lt I.lt)
theorem Inv.nofs (I : Inv X pins σ H s) {a : Addr} (h : s.heap.objs.size ≤ a) : a ∉ X.fs := fun hb => by
  obtain ⟨_, o, ho, _⟩ := I.ok.funs.mem hb
  exact absurd (Nat.lt_of_lt_of_le (Heap.lt_size ho) (Nat.le_trans I.sz h)) (Nat.lt_irrefl _)
theorem Inv.cne (I : Inv X pins σ H s) : ∀ x c, X.env.cells.lookup x = some c → c ≠ X.env.locals := fun x c e z => by
  obtain ⟨v, o, ho, hd⟩ := I.cell x c e
  obtain ⟨m, ⟨o', es, ep, ho', hd', _⟩, _⟩ := I.loc
  rw [z, ho'] at ho; cases ho; rw [hd'] at hd; cases hd
theorem Inv.funs (I : Inv X pins σ H s) : s.heap.FunFrames X.base X.outer := by
  have all : ∀ (l : List Env), (∀ b ∈ frs l, b ∈ X.fs) → X.s₀.heap.FunFrames X.base l → s.heap.FunFrames X.base l := by
    intro l
    induction l with
    | nil => intro _ _; trivial
    | cons env r ih =>
      intro hs hl
      obtain ⟨hk, ⟨L, o, hf, hn, ho, hd⟩, hr⟩ := hl
      have hL : L ∈ X.fs := hs L (by unfold frs; rw [List.filterMap_cons, hf]; exact List.mem_cons_self)
      obtain ⟨sl, e⟩ := I.base.slot L o ho (I.ok.frf L hL) hL fun z => I.ok.exfs L z hL
      exact ⟨hk, ⟨L, _, hf, hn, e, hd⟩, ih (fun b hb => hs b (by unfold frs; rw [List.filterMap_cons, hf]; exact List.mem_cons_of_mem _ hb)) hr⟩
  exact all X.outer (fun _ hb => hb) I.ok.funs

/-- the frames that run, for a call -/
theorem Inv.stack (I : Inv X pins σ H s) : s.heap.FunFrames X.base X.stack := by
  rcases I.ok.stk with e | ⟨e, hf⟩
  · rw [e]; exact I.funs
  · rw [e]
    obtain ⟨m, hn, _⟩ := I.loc
    refine .cons (by rw [I.ok.kind]; decide) hf hn ?_ I.funs
    exact Heap.get?_none_of_le (Nat.le_trans I.ok.bsz I.ok.above)
theorem Inv.stkSub (I : Inv X pins σ H s) : ∀ b ∈ frs X.stack, b ∈ X.env.locals :: X.fs := fun b hb => by
  rcases I.ok.stk with e | ⟨e, hf⟩
  · rw [e] at hb; exact List.mem_cons_of_mem _ hb
  · rw [e] at hb
    unfold frs at hb
    rw [List.filterMap_cons, hf] at hb
    exact hb
theorem Inv.stkFree (I : Inv X pins σ H s) : ∀ b ∈ frs X.stack, H b = none := fun b hb => by
  rcases List.mem_cons.mp (I.stkSub b hb) with e | hb
  · rw [e]; exact I.free
  · obtain ⟨_, o, ho, _⟩ := I.ok.funs.mem hb
    exact I.base.free b o ho (I.ok.frf b hb) fun z => I.ok.exfs b z hb

/-- THE STEP: the untracked objects but the frame and the records at ch are kept (the callers' frames up to slots), the frame's map is kept, the new abstract heap is held -/
theorem Inv.step {g' : Array GenState} {t' : Nat} {d' : Drawn} {ch : List Addr} (I : Inv X pins σ H s)
    (hch : ∀ b ∈ ch, (b ∈ X.ex ∨ X.s₀.heap.objs.size ≤ b) ∧ b ≠ X.env.locals ∧ (∀ x c, X.env.cells.lookup x = some c → c ≠ b) ∧ ∀ p ∈ X.pn ++ pins, p.1 ≠ b)
    (keep : ∀ b o, b ≠ X.env.locals → b ∉ X.fs → b ∉ ch → s.heap.get? b = some o → H b = none → h'.get? b = some o)
    (slot : ∀ b o, b ≠ X.env.locals → b ∈ X.fs → b ∉ ch → s.heap.get? b = some o → H b = none → ∃ sl, h'.get? b = some { o with slots := sl }) (free : ∀ b o, b ∉ ch → s.heap.get? b = some o → H b = none → H' b = none)
    (there : ∀ b o, b ∉ ch → s.heap.get? b = some o → ∃ o', h'.get? b = some o')
    (tups : ∀ b xs, H b = some (.tup xs) → H' b = some (.tup xs)) (frzs : ∀ b o u, H b = some (.frz o u) → H' b = some (.frz o u)) (tbls : ∀ b ps, H b = some (.tbl ps) → ∃ more, H' b = some (.tbl (ps ++ more)))
    (ns : ∀ m, s.heap.Ns X.env.locals m → h'.Ns X.env.locals m) (hok : HOk X.prog X.w H' h') (hg : AllBare g') :
    Inv X pins σ H' { s with heap := h', gens := g', drawn := d', toks := t' } := by
  have neL : ∀ b o, X.s₀.heap.get? b = some o → b ≠ X.env.locals := fun b o e => Nat.ne_of_lt (Nat.lt_of_lt_of_le (Heap.lt_size e) I.ok.above)
  have neC : ∀ b o, X.s₀.heap.get? b = some o → b ∉ X.ex → b ∉ ch := fun b o e hx hb => by
    rcases (hch b hb).1 with z | z
    · exact hx z
    · exact absurd (Nat.lt_of_lt_of_le (Heap.lt_size e) z) (Nat.lt_irrefl _)
  have cellK : ∀ x c, X.env.cells.lookup x = some c → ∀ v, s.heap.IsCell c v → h'.IsCell c v := fun x c e v ⟨o, ho, hd⟩ => by
    have nch : c ∉ ch := fun z => (hch c z).2.2.1 x c e rfl
    by_cases hc : c ∈ X.fs
    · obtain ⟨sl, q⟩ := slot c o (I.cne x c e) hc nch ho (I.freeC x c e)
      exact ⟨_, q, hd⟩
    · exact ⟨o, keep c o (I.cne x c e) hc nch ho (I.freeC x c e), hd⟩
  refine ⟨I.ok, I.os, hg, ⟨fun b o e n hb hx => ?_, fun b o e n hb hx => ?_, fun b o e n hx => ?_, fun b o e hx => ?_, fun b xs e => tups b xs (I.base.tups b xs e), fun b o xs e => frzs b o xs (I.base.frzs b o xs e), fun b ps e => ?_⟩, ?_, fun x c e => ?_, ?_, fun x c e => ?_, fun p hp => ?_, hok, I.len⟩
  · exact keep b o (neL b o e) hb (neC b o e hx) (I.base.keep b o e n hb hx) (I.base.free b o e n hx)
  · obtain ⟨sl, e1⟩ := I.base.slot b o e n hb hx
    obtain ⟨sl', e2⟩ := slot b _ (neL b o e) hb (neC b o e hx) e1 (I.base.free b o e n hx)
    exact ⟨sl', e2⟩
  · obtain ⟨o', e1⟩ := I.base.there b o e hx
    exact free b o' (neC b o e hx) e1 (I.base.free b o e n hx)
  · obtain ⟨o', e1⟩ := I.base.there b o e hx
    exact there b o' (neC b o e hx) e1
  · obtain ⟨m1, e1⟩ := I.base.tbls b ps e
    obtain ⟨m2, e2⟩ := tbls b _ e1
    exact ⟨m1 ++ m2, by rw [e2, Array.append_assoc]⟩
  · obtain ⟨m, hn, hl⟩ := I.loc
    refine ⟨m, ns m hn, fun i x v e1 e2 e3 => ?_⟩
    obtain ⟨u, r, l⟩ := hl i x v e1 e2 e3
    refine ⟨u, r, ?_⟩
    rcases l with l | ⟨k, c, e, z⟩
    · exact .inl l
    · exact .inr ⟨k, c, e, cellK x c e _ z⟩
  · obtain ⟨v, z⟩ := I.cell x c e
    exact ⟨v, cellK x c e v z⟩
  · obtain ⟨m, ⟨o, _, _, ho, _⟩, _⟩ := I.loc
    exact free _ o (fun z => (hch _ z).2.1 rfl) ho I.free
  · obtain ⟨v, o, ho, hd⟩ := I.cell x c e
    exact free c o (fun z => (hch c z).2.2.1 x c e rfl) ho (I.freeC x c e)
  · obtain ⟨e, n, ne, nf, d⟩ := I.pin p hp
    have nch : p.1 ∉ ch := fun z => (hch p.1 z).2.2.2 p hp rfl
    exact ⟨keep p.1 p.2 ne nf nch e n, free p.1 p.2 nch e n, ne, nf, d⟩
/-- .. where the frame's own object is kept too -/
theorem Inv.un {t' : Nat} (I : Inv X pins σ H s) (u : Un X.fs [] H H' s.heap h') (hok : HOk X.prog X.w H' h') : Inv X pins σ H' { s with heap := h', toks := t' } := by
  obtain ⟨m, ⟨o, es, ep, ho, r⟩, _⟩ := id I.loc
  obtain ⟨sl, hL⟩ := u.any ho I.free (by simp)
  exact I.step (g' := s.gens) (d' := s.drawn) (ch := []) (fun _ z => nomatch z) (fun b o _ hb _ e n => u.keep b o e n hb (by simp)) (fun b o _ hb _ e n => u.slot b o e n hb (by simp)) (fun b o _ e n => u.free b o e n (by simp)) (fun b o _ e => u.there b o e (by simp)) u.tups u.frzs u.tbls (fun m' hm => by
    obtain ⟨o', es', ep', ho', r'⟩ := hm
    rw [ho] at ho'; cases ho'
    exact ⟨_, es', ep', hL, r'⟩) hok I.bare
/-- behind a call (or a comprehension's block): the slots of this frame may have changed too, the records at ch may have turned -/
theorem Inv.call {g' : Array GenState} {t' : Nat} {d' : Drawn} {ch : List Addr} (I : Inv X pins σ H s) (u : Un (frs X.stack) ch H H' s.heap h') (hok : HOk X.prog X.w H' h') (hg : AllBare g')
    (hch : ∀ b ∈ ch, (b ∈ X.ex ∨ X.s₀.heap.objs.size ≤ b) ∧ b ≠ X.env.locals ∧ (∀ x c, X.env.cells.lookup x = some c → c ≠ b) ∧ ∀ p ∈ X.pn ++ pins, p.1 ≠ b) :
    Inv X pins σ H' { s with heap := h', gens := g', drawn := d', toks := t' } := by
  obtain ⟨m, ⟨o, es, ep, ho, r⟩, _⟩ := id I.loc
  obtain ⟨sl, hL⟩ := u.any ho I.free fun z => (hch _ z).2.1 rfl
  exact I.step (ch := ch) hch (fun b o hL hb hc e n => u.keep b o e n (fun z => (List.mem_cons.mp (I.stkSub b z)).elim hL hb) hc) (fun b o _ _ hc e n => u.any e n hc) (fun b o hc e n => u.free b o e n hc) (fun b o hc e => u.there b o e hc) u.tups u.frzs u.tbls (fun m' hm => by
    obtain ⟨o', es', ep', ho', r'⟩ := hm
    rw [ho] at ho'; cases ho'
    exact ⟨_, es', ep', hL, r'⟩) hok hg
/-- an untracked record of ours (an iterator) has turned -/
theorem Inv.turned {t' : Nat} {it : Addr} (I : Inv X pins σ H s) (k : ∀ b o, b ≠ it → s.heap.get? b = some o → h'.get? b = some o) (hn : H it = none) (hL : it ≠ X.env.locals)
    (h1 : it ∈ X.ex ∨ X.s₀.heap.objs.size ≤ it) (h2 : ∀ x c, X.env.cells.lookup x = some c → c ≠ it) (h3 : ∀ p ∈ X.pn ++ pins, p.1 ≠ it) : Inv X pins σ H { s with heap := h', toks := t' } := by
  have nit : ∀ b u, H b = some u → b ≠ it := fun b u e z => by rw [z, hn] at e; cases e
  refine I.step (g' := s.gens) (d' := s.drawn) (ch := [it]) (fun b hb => ?_) (fun b o _ _ hc e _ => k b o (fun z => hc (by simp [z])) e) (fun b o _ _ hc e _ => ⟨o.slots, k b o (fun z => hc (by simp [z])) e⟩) (fun _ _ _ _ n => n)
    (fun b o hc e => ⟨o, k b o (fun z => hc (by simp [z])) e⟩) (fun _ _ e => e) (fun _ _ _ e => e) (fun b ps e => ⟨#[], by rw [e]; simp⟩) (fun m hm => ?_) (fun b u e => ?_) I.bare
  · have e : b = it := by simpa using hb
    subst e
    exact ⟨h1, hL, h2, h3⟩
  · obtain ⟨o, es, ep, ho, r⟩ := hm
    exact ⟨o, es, ep, k _ o (Ne.symm hL) ho, r⟩
  · refine (I.hok b u e).stay (fun c v hc q => k c v ?_ q) (fun _ q => q) fun _ _ q => q
    rcases hc with z | z
    · rw [z]; exact nit b u e
    · exact nit c _ z
theorem Inv.tok (I : Inv X pins σ H s) (t : Nat) : Inv X pins σ H { s with toks := t } := I.un (h' := s.heap) (t' := t) Un.refl I.hok
/-- all objects kept -/
theorem Inv.kept {t' : Nat} (I : Inv X pins σ H s) (k : ∀ b u, s.heap.get? b = some u → h'.get? b = some u) : Inv X pins σ H { s with heap := h', toks := t' } := I.un (Un.kept k) (I.hok.kept k)
/-- a new object laid and tracked -/
theorem Inv.laid {a : Addr} {o : HO} {t' : Nat} (I : Inv X pins σ H s) (k : ∀ b u, s.heap.get? b = some u → h'.get? b = some u) (hp : s.heap.objs.size ≤ a) (new : ObjOk X.prog X.w (upd H a o) h' a o) :
    Inv X pins σ (upd H a o) { s with heap := h', toks := t' } := I.un (Un.laid k hp (I.hok.fresh hp)) (I.hok.laid k hp new)
/-- an object written -/
theorem Inv.write {x e : Addr} {o : HO} {t' : Nat} (I : Inv X pins σ H s) (mu : Mut (H x)) (he : e = x ∨ H e = some (.own x)) (k : ∀ b u, b ≠ e → s.heap.get? b = some u → h'.get? b = some u) (heo : ∃ u, h'.get? e = some u)
    (new : ObjOk X.prog X.w (upd H x o) h' x o) : Inv X pins σ (upd H x o) { s with heap := h', toks := t' } := I.un (Un.write mu he k heo) (I.hok.write mu he k heo new)
/-- forgetting slots, pins -/
theorem Inv.weak {σ' : List (Option V)} (I : Inv X pins σ H s) (hl : σ'.length = σ.length) (w : ∀ (i : Nat) v, σ'[i]? = some (some v) → σ[i]? = some (some v)) : Inv X pins σ' H s :=
  ⟨I.ok, I.os, I.bare, I.base, let ⟨m, hn, hl'⟩ := I.loc; ⟨m, hn, fun i x v e1 e2 e3 => hl' i x v e1 (w i v e2) e3⟩, I.cell, I.free, I.freeC, I.pin, I.hok, hl.trans I.len⟩
theorem Inv.pins_of {pins' : List (Addr × Obj)} (I : Inv X pins σ H s) (h : ∀ p ∈ pins', s.heap.get? p.1 = some p.2 ∧ H p.1 = none ∧ p.1 ≠ X.env.locals ∧ p.1 ∉ X.fs ∧ ∀ v, p.2.data ≠ .cell v) : Inv X pins' σ H s :=
  ⟨I.ok, I.os, I.bare, I.base, I.loc, I.cell, I.free, I.freeC, fun p hp => (List.mem_append.mp hp).elim (fun z => I.pin p (List.mem_append_left _ z)) (h p), I.hok, I.len⟩

theorem nodup_ix {N : List Str} (hN : N.Nodup) {i j : Nat} {x : Str} (a : N[i]? = some x) (b : N[j]? = some x) : i = j := by
  obtain ⟨h1, e1⟩ := List.getElem?_eq_some_iff.mp a
  obtain ⟨h2, e2⟩ := List.getElem?_eq_some_iff.mp b
  exact (List.getElem_inj hN).mp (e1.trans e2.symm)

/-- a name is stored; what changed -/
theorem store_ok2 {M : Model} {A : Around} {E : Value → Shared → Prop} {i : Nat} {x : Str} {v : V} {u : Value} {Q : Unit → Shared → Prop} (I : Inv X pins σ H s) (hN : X.N.Nodup) (hi : X.N[i]? = some x) (hx : Loc X.env.scope x) (r : RelV v u)
    (h : ∀ s', Inv X pins (σ.set i (some v)) H s' → (∃ a, Heap.SameBut a s.heap s'.heap ∧ (a = X.env.locals ∨ X.env.cells.lookup x = some a)) → Q () s') (hf : X.fn x = true ∨ X.env.scope.names.lookup x = some .local := by first | exact .inl rfl | exact .inr rfl | assumption) : wpAny M A (storeName X.env x u) Q E s := by
  obtain ⟨m, hn, hl⟩ := id I.loc
  have hcls : (X.env.scope.kind == .class || (X.env.scope.kind == .module && X.env.locals != X.env.globals)) = false := by rw [I.ok.kind]; rfl
  have hiσ : i < σ.length := by rw [I.len]; exact (List.getElem?_eq_some_iff.mp hi).1
  have cne := I.cne
  have tracked : ∀ {a : Addr} {h' : Heap}, (∃ o, s.heap.get? a = some o ∧ H a = none) → Heap.SameBut a s.heap h' → HOk X.prog X.w H h' := fun {a h'} ha hs b ob e => by
    obtain ⟨_, _, hfree⟩ := ha
    refine (I.hok b ob e).stay (fun c w' hc q => (hs.2 c ?_).trans q) (fun _ q => q) fun _ _ q => q
    rintro rfl
    rcases hc with rfl | hc
    · rw [hfree] at e; cases e
    · rw [hfree] at hc; cases hc
  rcases hx with hk | hk
  · refine wpAny_storeName_local hk hn (fun h' hn' hs => ?_) hcls
    obtain ⟨oL, _, _, hoL, _⟩ := id hn
    refine h _ ⟨I.ok, I.os, I.bare, ⟨fun b o e n hb hx => ?_, fun b o e n hb hx => ?_, I.base.free, fun b o e hx => ?_, I.base.tups, I.base.frzs, I.base.tbls⟩, ⟨_, hn', fun j y v' e1 e2 e3 => ?_⟩, fun y c e => ?_, I.free, I.freeC, fun p hp => ?_, tracked ⟨oL, hoL, I.free⟩ hs, by simpa using I.len⟩ ⟨_, hs, .inl rfl⟩
    · exact (hs.2 b (Nat.ne_of_lt (Nat.lt_of_lt_of_le (Heap.lt_size e) I.ok.above))).trans (I.base.keep b o e n hb hx)
    · obtain ⟨sl, e1⟩ := I.base.slot b o e n hb hx
      exact ⟨sl, (hs.2 b (Nat.ne_of_lt (Nat.lt_of_lt_of_le (Heap.lt_size e) I.ok.above))).trans e1⟩
    · obtain ⟨o', e1⟩ := I.base.there b o e hx
      exact ⟨o', (hs.2 b (Nat.ne_of_lt (Nat.lt_of_lt_of_le (Heap.lt_size e) I.ok.above))).trans e1⟩
    · by_cases hj : j = i
      · subst hj
        rw [hi] at e1; cases e1
        rw [List.getElem?_set_self hiσ] at e2
        cases e2
        exact ⟨u, r, .inl ⟨hk, by simp⟩⟩
      · rw [List.getElem?_set_ne (Ne.symm hj)] at e2
        obtain ⟨u', r', q⟩ := hl j y v' e1 e2 e3
        refine ⟨u', r', ?_⟩
        rcases q with ⟨k, e⟩ | ⟨k, c, e, z⟩
        · refine .inl ⟨k, ?_⟩
          have : y ≠ x := fun e => hj (nodup_ix hN e1 (e ▸ hi))
          simp [this, e]
        · exact .inr ⟨k, c, e, z.sameBut hs (cne y c e)⟩
    · obtain ⟨w', z⟩ := I.cell y c e
      exact ⟨w', z.sameBut hs (cne y c e)⟩
    · obtain ⟨e, n, ne, nf, d⟩ := I.pin p hp
      exact ⟨(hs.2 p.1 ne).trans e, n, ne, nf, d⟩
  · have hfn : X.fn x = true := by
      rcases hf with z | z
      · exact z
      · rw [z] at hk; cases hk
    obtain ⟨c, hc⟩ := I.ok.has x (.inl hk)
    obtain ⟨w', z⟩ := I.cell x c hc
    refine wpAny_storeName_cell I.ok.kind hk hc z (fun h' hc' hs => ?_)
    obtain ⟨oc, hoc, hocd⟩ := id z
    refine h { s with heap := h' } ⟨I.ok, I.os, I.bare, ⟨fun b o e n hb hx => ?_, fun b o e n hb hx => ?_, I.base.free, fun b o e hx => ?_, I.base.tups, I.base.frzs, I.base.tbls⟩, ⟨m, hn.sameBut hs (Ne.symm (cne x c hc)), fun j y v' e1 e2 e3 => ?_⟩, fun y c' e => ?_, I.free, I.freeC, fun p hp => ?_, tracked ⟨oc, hoc, I.freeC x c hc⟩ hs, by simpa using I.len⟩ ⟨c, hs, .inr hc⟩
    · exact (hs.2 b (Nat.ne_of_lt (Nat.lt_of_lt_of_le (Heap.lt_size e) (I.ok.cab x c hfn hc)))).trans (I.base.keep b o e n hb hx)
    · obtain ⟨sl, e1⟩ := I.base.slot b o e n hb hx
      exact ⟨sl, (hs.2 b (Nat.ne_of_lt (Nat.lt_of_lt_of_le (Heap.lt_size e) (I.ok.cab x c hfn hc)))).trans e1⟩
    · obtain ⟨o', e1⟩ := I.base.there b o e hx
      exact ⟨o', (hs.2 b (Nat.ne_of_lt (Nat.lt_of_lt_of_le (Heap.lt_size e) (I.ok.cab x c hfn hc)))).trans e1⟩
    · by_cases hj : j = i
      · subst hj
        rw [hi] at e1; cases e1
        rw [List.getElem?_set_self hiσ] at e2
        cases e2
        exact ⟨u, r, .inr ⟨.inl hk, c, hc, hc'⟩⟩
      · rw [List.getElem?_set_ne (Ne.symm hj)] at e2
        obtain ⟨u', r', q⟩ := hl j y v' e1 e2 e3
        refine ⟨u', r', ?_⟩
        rcases q with q | ⟨k, c', e, z'⟩
        · exact .inl q
        · refine .inr ⟨k, c', e, z'.sameBut hs ?_⟩
          rintro rfl
          exact hj (nodup_ix hN e1 (I.ok.inj _ _ _ e hc ▸ hi))
    · by_cases hcc : c' = c
      · subst hcc; exact ⟨_, hc'⟩
      · obtain ⟨w2, z2⟩ := I.cell y c' e
        exact ⟨w2, z2.sameBut hs hcc⟩
    · obtain ⟨e, n, ne, nf, d⟩ := I.pin p hp
      refine ⟨(hs.2 p.1 ?_).trans e, n, ne, nf, d⟩
      intro q
      rw [q, hoc] at e
      have q' : oc = p.2 := Option.some.inj e
      exact d w' (by rw [← q']; exact hocd)
theorem store_ok {M : Model} {A : Around} {E : Value → Shared → Prop} {i : Nat} {x : Str} {v : V} {u : Value} {Q : Unit → Shared → Prop} (I : Inv X pins σ H s) (hN : X.N.Nodup) (hi : X.N[i]? = some x) (hx : Loc X.env.scope x) (r : RelV v u)
    (h : ∀ s', Inv X pins (σ.set i (some v)) H s' → Q () s') (hf : X.fn x = true ∨ X.env.scope.names.lookup x = some .local := by first | exact .inl rfl | exact .inr rfl | assumption) : wpAny M A (storeName X.env x u) Q E s :=
  store_ok2 I hN hi hx r (fun s' I' _ => h s' I') hf
/-- behind a call or a block, the state as it is -/
theorem Inv.call' {s' : Shared} {ch : List Addr} (I : Inv X pins σ H s) (ho : s'.os = s.os) (u : Un (frs X.stack) ch H H' s.heap s'.heap) (hok : HOk X.prog X.w H' s'.heap) (hg : AllBare s'.gens)
    (hch : ∀ b ∈ ch, (b ∈ X.ex ∨ X.s₀.heap.objs.size ≤ b) ∧ b ≠ X.env.locals ∧ (∀ x c, X.env.cells.lookup x = some c → c ≠ b) ∧ ∀ p ∈ X.pn ++ pins, p.1 ≠ b) : Inv X pins σ H' s' := by
  obtain ⟨h', g', d', t', o'⟩ := s'
  have e : o' = s.os := ho
  subst e
  exact I.call (g' := g') (t' := t') (d' := d') u hok hg hch
end

/-! ### the judgements -/
/-- an exception: its class, its own dict's address (where it has one), the abstract heap behind it -/
abbrev XK := Value → Option Addr → Hp → Prop
abbrev St := List (Option V)
abbrev VK := V → Hp → Prop
/-- an expression's reading; a test's; an argument list's -/
abbrev TE := St → Hp → VK → Prop
abbrev TT := St → Hp → (Bool → Hp → Prop) → Prop
abbrev TA := St → Hp → (List V → Hp → Prop) → Prop
/-- what is wanted behind a statement -/
structure Ends where
  nx : St → Hp → Prop
  rt : VK
  bk : St → Hp → Prop := fun _ _ => False
  ct : St → Hp → Prop := fun _ _ => False
abbrev TS := Ends → St → Hp → Prop

def EP (X : Cx) (pins : List (Addr × Obj)) (σ : St) (Q : VK) (u : Value) (s' : Shared) : Prop := ∃ v H', Inv X pins σ H' s' ∧ RelV v u ∧ Q v H'
def TP (X : Cx) (pins : List (Addr × Obj)) (σ : St) (Q : Bool → Hp → Prop) (b : Bool) (s' : Shared) : Prop := ∃ H', Inv X pins σ H' s' ∧ Q b H'
def AP (X : Cx) (pins : List (Addr × Obj)) (σ : St) (Q : List V → Hp → Prop) (us : List Value) (s' : Shared) : Prop := ∃ vs H', Inv X pins σ H' s' ∧ Vals vs us ∧ Q vs H'
def SP (X : Cx) (pins : List (Addr × Obj)) (D : Ends) (f : Flow) (s' : Shared) : Prop :=
  match f with
  | .next => ∃ σ' H', Inv X pins σ' H' s' ∧ D.nx σ' H'
  | .brk => ∃ σ' H', Inv X pins σ' H' s' ∧ D.bk σ' H'
  | .cont => ∃ σ' H', Inv X pins σ' H' s' ∧ D.ct σ' H'
  | .ret u => ∃ v σ' H', Inv X pins σ' H' s' ∧ RelV v u ∧ D.rt v H'

def PE (X : Cx) (e : Expr) (t : TE) : Prop :=
  ∀ (pins : List (Addr × Obj)) (s : Shared) (σ : St) (H : Hp) (Q : VK), Inv X pins σ H s → t σ H Q → wpAny (model X.prog X.w) X.A (eval e X.env) (EP X pins σ Q) X.xe s
def PT (X : Cx) (e : Expr) (t : TT) : Prop :=
  ∀ (pins : List (Addr × Obj)) (s : Shared) (σ : St) (H : Hp) (Q : Bool → Hp → Prop), Inv X pins σ H s → t σ H Q → wpAny (model X.prog X.w) X.A (isTrue e X.env (eval e X.env)) (TP X pins σ Q) X.xe s
/-- a test whatever its 'whole' is (and, or) -/
def PW (X : Cx) (e : Expr) (t : TT) : Prop :=
  ∀ (whole : Sem Value) (pins : List (Addr × Obj)) (s : Shared) (σ : St) (H : Hp) (Q : Bool → Hp → Prop), Inv X pins σ H s → t σ H Q → wpAny (model X.prog X.w) X.A (isTrue e X.env whole) (TP X pins σ Q) X.xe s
theorem PW.pt {X : Cx} {e : Expr} {t : TT} (h : PW X e t) : PT X e t := h _
/-- an argument list (no star), from the left -/
def PA (X : Cx) (es : List Expr) (t : TA) : Prop :=
  ∀ (pos : Pos) (pins : List (Addr × Obj)) (s : Shared) (σ : St) (H : Hp) (Q : List V → Hp → Prop), Inv X pins σ H s → t σ H Q → wpAny (model X.prog X.w) X.A (spliced (backTo pos (starEach es X.env))) (AP X pins σ Q) X.xe s
def PS (X : Cx) (st : Stmt) (t : TS) : Prop :=
  ∀ (pins : List (Addr × Obj)) (s : Shared) (σ : St) (H : Hp) (D : Ends), Inv X pins σ H s → t D σ H → wpAny (model X.prog X.w) X.A (exec st X.env) (SP X pins D) X.xe s
def PSs (X : Cx) (st : List Stmt) (t : TS) : Prop :=
  ∀ (pins : List (Addr × Obj)) (s : Shared) (σ : St) (H : Hp) (D : Ends), Inv X pins σ H s → t D σ H → wpAny (model X.prog X.w) X.A (execs st X.env) (SP X pins D) X.xe s
/-- weaken the end -/
theorem thn {α : Type} {t : Sem α} {Q Q' : α → Shared → Prop} {M : Model} {A : Around} {E : Value → Shared → Prop} {s : Shared} (h : wpAny M A t Q E s) (hQ : ∀ a s, Q a s → Q' a s) : wpAny M A t Q' E s := wpAny_mono h hQ fun _ _ x => x
end L2

namespace L2
open PySem PySem.Spec PyProof.Rows
section
variable {X : Cx}

/-- two expressions in a row -/
theorem bin {a b : Expr} {ta tb : TE} (ha : PE X a ta) (hb : PE X b tb) {pins : List (Addr × Obj)} {s : Shared} {σ : St} {H : Hp} {R : V → V → Hp → Prop} (I : Inv X pins σ H s) (h : ta σ H fun x H1 => tb σ H1 fun y H2 => R x y H2)
    {α : Type} {Q : α → Shared → Prop} {f : Value → Value → Sem α}
    (hf : ∀ v u s2 x y H2, Inv X pins σ H2 s2 → RelV x v → RelV y u → R x y H2 → wpAny (model X.prog X.w) X.A (f v u) Q X.xe s2) :
    wpAny (model X.prog X.w) X.A (eval a X.env) (fun v s₁ => wpAny (model X.prog X.w) X.A (eval b X.env) (fun u s₂ => wpAny (model X.prog X.w) X.A (f v u) Q X.xe s₂) X.xe s₁) X.xe s := by
  refine thn (ha pins s σ H _ I h) fun v s1 ⟨x, H1, I1, r1, q1⟩ => ?_
  refine thn (hb pins s1 σ H1 _ I1 q1) fun u s2 ⟨y, H2, I2, r2, q2⟩ => ?_
  exact hf v u s2 x y H2 I2 r1 r2 q2

/-! ### names and constants -/
def tVar (i : Nat) : TE := fun σ H Q => ∃ v, σ[i]? = some (some v) ∧ Q v H
def tC (v : V) : TE := fun _ H Q => Q v H
theorem pe_var {i : Nat} {x : Str} {pos : Pos} (hN : X.N[i]? = some x) (hv : Vis X.env.scope x) (hd : (x == ("__debug__" : Str)) = false := by decide) (hcd : (x == ("__classdict__" : Str)) = false := by decide) : PE X (.Name x pos) (tVar i) := by
  intro pins s σ H Q I h
  obtain ⟨v, e, h⟩ := h
  obtain ⟨m, hn, hl⟩ := I.loc
  obtain ⟨u, r, l⟩ := hl i x v hN e hv
  have fin : EP X pins σ Q u s := ⟨v, H, I, r, h⟩
  rcases l with ⟨hk, hm⟩ | ⟨hk, c, hc, hcell⟩
  · exact wpAny_Name (wpAny_loadName_local I.ok.kind hk hn hm fin) hd
  · rcases hk with hk | hk
    · exact wpAny_Name (wpAny_loadName_cell I.ok.kind hk hc hcell fin) hd
    · exact wpAny_Name (wpAny_loadName_free I.ok.kind hk hc hcell fin hcd) hd
theorem pe_int {i j pos} : PE X (.Constant (.int i) j pos) (tC (.int i)) := fun _ _ _ H _ I h => wpAny_Constant_int ⟨.int i, H, I.tok _, ⟨_, rfl⟩, h⟩
theorem pe_bl {b j pos} : PE X (.Constant (.bool b) j pos) (tC (.bl b)) := fun _ _ _ H _ I h => Constant_bool ⟨.bl b, H, I, rfl, h⟩
theorem pe_non {j pos} : PE X (.Constant .none j pos) (tC .non) := fun _ _ _ H _ I h => Constant_none ⟨.non, H, I, rfl, h⟩
theorem pe_str {x j pos} : PE X (.Constant (.str x) j pos) (tC (.str x)) := fun _ _ _ H _ I h => Calls.Constant_str ⟨.str x, H, I.tok _, ⟨_, rfl⟩, h⟩

/-- a global name of the def -/
def Gl (X : Cx) (x : Str) : Prop := X.env.kindOf x = some .globalImplicit
theorem ld_glob {E : Value → Shared → Prop} {pins : List (Addr × Obj)} {s : Shared} {σ : St} {H : Hp} {x : Str} {u : Value} {pos : Pos} {Q : Value → Shared → Prop} (I : Inv X pins σ H s) (hg : Gl X x) (hm : X.mg x = some u) (h : Q u s)
    (hd : (x == ("__debug__" : Str)) = false := by decide) : wpAny (model X.prog X.w) X.A (eval (.Name x pos) X.env) Q E s :=
  Calls.Name_function_global I.ok.kind hg (Calls.loadGlobal_global (by rw [I.ok.glob]; exact I.mod.glob.keeps I.bk) hm h) hd
theorem ld_blt {E : Value → Shared → Prop} {pins : List (Addr × Obj)} {s : Shared} {σ : St} {H : Hp} {x : Str} {u : Value} {pos : Pos} {Q : Value → Shared → Prop} (I : Inv X pins σ H s) (hg : Gl X x) (hm : X.mg x = none) (hv : bootBuiltins x = some u) (h : Q u s)
    (hn : x ≠ "__name__" := by decide) (hd : (x == ("__debug__" : Str)) = false := by decide) : wpAny (model X.prog X.w) X.A (eval (.Name x pos) X.env) Q E s := by
  obtain ⟨mb, h1, h2⟩ := I.mod.blt
  exact Calls.Name_function_global I.ok.kind hg (Calls.loadGlobal_builtin (by rw [I.ok.glob]; exact I.mod.glob.keeps I.bk) hm (by rw [I.ok.blt]; exact h1.keeps I.bk) ((h2 x hn).trans hv) h) hd
/-- a module's constant, a class, a function, as a value -/
theorem pe_glob {x : Str} {v : V} {u : Value} {pos : Pos} (hg : Gl X x) (hm : X.mg x = some u) (r : RelV v u) (hd : (x == ("__debug__" : Str)) = false := by decide) : PE X (.Name x pos) (tC v) :=
  fun _ _ _ H _ I h => ld_glob I hg hm ⟨v, H, I, r, h⟩ hd
theorem pe_bltn {x : Str} {v : V} {u : Value} {pos : Pos} (hg : Gl X x) (hm : X.mg x = none) (hv : bootBuiltins x = some u) (r : RelV v u) (hn : x ≠ "__name__" := by decide) (hd : (x == ("__debug__" : Str)) = false := by decide) : PE X (.Name x pos) (tC v) :=
  fun _ _ _ H _ I h => ld_blt I hg hm hv ⟨v, H, I, r, h⟩ hn hd

/-! ### arithmetic -/
/-- two ints -/
def t2I (ta tb : TE) (k : Int → Int → Hp → Prop) : St → Hp → Prop := fun σ H => ta σ H fun x H1 => tb σ H1 fun y H2 => ∃ i j, x = .int i ∧ y = .int j ∧ k i j H2
def tAdd (ta tb : TE) : TE := fun σ H Q => t2I ta tb (fun i j H2 => Q (.int (i + j)) H2) σ H
def tSub (ta tb : TE) : TE := fun σ H Q => t2I ta tb (fun i j H2 => Q (.int (i - j)) H2) σ H
/-- the left factor below 2^64 -/
def tMul (ta tb : TE) : TE := fun σ H Q => t2I ta tb (fun i j H2 => (-(2 ^ 64) < i ∧ i < 2 ^ 64) ∧ Q (.int (i * j)) H2) σ H
variable {a b : Expr} {ta tb : TE} {pos : Pos}
theorem pe_add (ha : PE X a ta) (hb : PE X b tb) : PE X (.BinOp a .Add b pos) (tAdd ta tb) := by
  intro pins s σ H Q I h
  refine wpAny_BinOp (bin ha hb I h fun v u s2 x y H2 I2 rx ry q => ?_)
  obtain ⟨i, j, rfl, rfl, q⟩ := q
  obtain ⟨t, rfl⟩ := rx
  obtain ⟨t', rfl⟩ := ry
  exact add_int ⟨.int _, H2, I2.tok _, ⟨_, rfl⟩, q⟩
theorem pe_sub (ha : PE X a ta) (hb : PE X b tb) : PE X (.BinOp a .Sub b pos) (tSub ta tb) := by
  intro pins s σ H Q I h
  refine wpAny_BinOp (bin ha hb I h fun v u s2 x y H2 I2 rx ry q => ?_)
  obtain ⟨i, j, rfl, rfl, q⟩ := q
  obtain ⟨t, rfl⟩ := rx
  obtain ⟨t', rfl⟩ := ry
  exact sub_int ⟨.int _, H2, I2.tok _, ⟨_, rfl⟩, q⟩
theorem pe_mul (ha : PE X a ta) (hb : PE X b tb) : PE X (.BinOp a .Mult b pos) (tMul ta tb) := by
  intro pins s σ H Q I h
  refine wpAny_BinOp (bin ha hb I h fun v u s2 x y H2 I2 rx ry q => ?_)
  obtain ⟨i, j, rfl, rfl, ⟨q1, q2⟩, q⟩ := q
  obtain ⟨t, rfl⟩ := rx
  obtain ⟨t', rfl⟩ := ry
  exact mul_int ⟨.int _, H2, I2.tok _, ⟨_, rfl⟩, q⟩ (.of_left (intBits_le_64 q1 q2))

/-! ### comparisons -/
def PC (X : Cx) (op : CmpOp) (a b : Expr) (t : TE) : Prop :=
  ∀ (pins : List (Addr × Obj)) (s : Shared) (σ : St) (H : Hp) (Q : VK), Inv X pins σ H s → t σ H Q →
    wpAny (model X.prog X.w) X.A (eval a X.env) (fun v s₁ => wpAny (model X.prog X.w) X.A (eval b X.env) (fun u s₂ => wpAny (model X.prog X.w) X.A (compareOp op v u) (EP X pins σ Q) X.xe s₂) X.xe s₁) X.xe s
theorem nobehind (b : Expr) {op : CmpOp} (h : op ≠ .In) (h2 : op ≠ .NotIn) : behindInMarks op b = false := by
  have e1 : (op == CmpOp.In) = false := by cases op <;> first | rfl | exact absurd rfl h
  have e2 : (op == CmpOp.NotIn) = false := by cases op <;> first | rfl | exact absurd rfl h2
  cases b <;> simp [behindInMarks, e1, e2]
def tCmp (p : Int → Int → Bool) (ta tb : TE) : TE := fun σ H Q => t2I ta tb (fun i j H2 => Q (.bl (p i j)) H2) σ H
abbrev tLt : TE → TE → TE := tCmp fun i j => decide (i < j)
abbrev tLe : TE → TE → TE := tCmp fun i j => decide (i ≤ j)
abbrev tGt : TE → TE → TE := tCmp fun i j => decide (j < i)
abbrev tGe : TE → TE → TE := tCmp fun i j => decide (j ≤ i)
abbrev tEqI : TE → TE → TE := tCmp fun i j => decide (i = j)
abbrev tNeI : TE → TE → TE := tCmp fun i j => !decide (i = j)
/-- a comparison of two ints, by its rule -/
theorem pc_int {op : CmpOp} {p : Int → Int → Bool} (ha : PE X a ta) (hb : PE X b tb)
    (rule : ∀ (i j : Int) (t u : Tok) (Q : Value → Shared → Prop) (s : Shared), Q (.bool (p i j)) s → wpAny (model X.prog X.w) X.A (compareOp op (.int i t) (.int j u)) Q X.xe s) : PC X op a b (tCmp p ta tb) := by
  intro pins s σ H Q I h
  refine bin ha hb I h fun v u s2 x y H2 I2 rx ry q => ?_
  obtain ⟨i, j, rfl, rfl, q⟩ := q
  obtain ⟨t, rfl⟩ := rx
  obtain ⟨t', rfl⟩ := ry
  exact rule i j t t' _ s2 ⟨.bl _, H2, I2, rfl, q⟩
theorem pc_lt (ha : PE X a ta) (hb : PE X b tb) : PC X .Lt a b (tLt ta tb) := pc_int ha hb fun _ _ _ _ _ _ h => lt_int h
theorem pc_le (ha : PE X a ta) (hb : PE X b tb) : PC X .LtE a b (tLe ta tb) := pc_int ha hb fun _ _ _ _ _ _ h => le_int h
theorem pc_gt (ha : PE X a ta) (hb : PE X b tb) : PC X .Gt a b (tGt ta tb) := pc_int ha hb fun _ _ _ _ _ _ h => gt_int h
theorem pc_ge (ha : PE X a ta) (hb : PE X b tb) : PC X .GtE a b (tGe ta tb) := pc_int ha hb fun _ _ _ _ _ _ h => ge_int h
theorem pc_eqI (ha : PE X a ta) (hb : PE X b tb) : PC X .Eq a b (tEqI ta tb) := pc_int ha hb fun _ _ _ _ _ _ h => eq_int (by rw [Bool.beq_eq_decide_eq]; exact h)
theorem pc_neI (ha : PE X a ta) (hb : PE X b tb) : PC X .NotEq a b (tNeI ta tb) := pc_int ha hb fun _ _ _ _ _ _ h => ne_int (by rw [bne, Bool.beq_eq_decide_eq]; exact h)
/-- is None -/
def tIsN (ta : TE) : TE := fun σ H Q => ta σ H fun x H1 => Q (.bl (decide (x = .non))) H1
def tNotN (ta : TE) : TE := fun σ H Q => ta σ H fun x H1 => Q (.bl (!decide (x = .non))) H1
theorem RelV.none_iff {x : V} {v : Value} (r : RelV x v) : (v == Value.none) = decide (x = .non) := by
  cases x with
  | non => cases r; rfl
  | bl _ => cases r; rfl
  | int _ => obtain ⟨t, rfl⟩ := r; rfl
  | str _ => obtain ⟨t, rfl⟩ := r; rfl
  | byt _ => obtain ⟨t, rfl⟩ := r; rfl
  | flt _ => obtain ⟨t, rfl⟩ := r; rfl
  | ref _ => cases r; rfl
  | ty _ => cases r; rfl
theorem pc_isN {j pos'} (ha : PE X a ta) : PC X .Is a (.Constant .none j pos') (tIsN ta) := by
  intro pins s σ H Q I h
  refine thn (ha pins s σ H _ I h) fun v s1 ⟨x, H1, I1, r1, q1⟩ => ?_
  exact Constant_none (is_none_gen ⟨.bl _, H1, I1, by rw [r1.none_iff]; rfl, q1⟩)
theorem pc_notN {j pos'} (ha : PE X a ta) : PC X .IsNot a (.Constant .none j pos') (tNotN ta) := by
  intro pins s σ H Q I h
  refine thn (ha pins s σ H _ I h) fun v s1 ⟨x, H1, I1, r1, q1⟩ => ?_
  exact Constant_none (isnot_none_gen ⟨.bl _, H1, I1, by rw [r1.none_iff]; rfl, q1⟩)
/-- a comparison as a value, as a test -/
def tB (t : TE) : TT := fun σ H Q => t σ H fun x H1 => ∃ c, x = .bl c ∧ Q c H1
theorem pe_cmp {op : CmpOp} {t : TE} (h : PC X op a b t) (h1 : behindInMarks op b = false := by first | exact nobehind _ (by decide) (by decide) | rfl) : PE X (.Compare a [op] [b] pos) t := fun pins s σ H Q I hw => wpAny_Compare1 (h pins s σ H Q I hw) h1
theorem pt_cmp {op : CmpOp} {t : TE} (h : PC X op a b t) (h1 : behindInMarks op b = false := by first | exact nobehind _ (by decide) (by decide) | rfl) : PT X (.Compare a [op] [b] pos) (tB t) := by
  intro pins s σ H Q I hw
  refine wpAny_isTrue_Compare1 (thn (h pins s σ H _ I hw) fun v s1 h1 => thn h1 fun u s2 h2 => thn h2 fun c s3 ⟨x, H1, I1, r1, q1⟩ => ?_) h1
  obtain ⟨d, rfl, q⟩ := q1
  cases r1
  exact wpAny_truthy_bool ⟨H1, I1, q⟩
/-- an expression whose value is a bool, as a test -/
theorem pt_val {e : Expr} {t : TE} (h : PE X e t) (he : ∀ whole, isTrue e X.env whole = (do let v ← whole; standAt e.pos; holding [v] (truthy v)) := by intro _; rfl) : PT X e (tB t) := by
  intro pins s σ H Q I hw
  refine isTrue_plain (thn (h pins s σ H _ I hw) fun v s1 ⟨x, H1, I1, r1, q1⟩ => ?_) (he _)
  obtain ⟨d, rfl, q⟩ := q1
  cases r1
  exact wpAny_truthy_bool ⟨H1, I1, q⟩

/-! ### and, or, not -/
variable {tA tB' : TT} {rest : List Expr}
def tAnd (t u : TT) : TT := fun σ H Q => t σ H fun c H1 => if c = true then u σ H1 Q else Q false H1
def tOr (t u : TT) : TT := fun σ H Q => t σ H fun c H1 => if c = true then Q true H1 else u σ H1 Q
def tNot (t : TT) : TT := fun σ H Q => t σ H fun c H1 => Q (!c) H1
theorem pw_and1 (ha : PT X a tA) : PW X (.BoolOp .And [a] pos) tA := by
  intro wh pins s σ H Q I h
  refine isTrue_and (thn (ha pins s σ H Q I h) fun c s1 e => ?_)
  cases c with
  | true => exact isTrue_and_nil e
  | false => exact e
theorem pw_or1 (ha : PT X a tA) : PW X (.BoolOp .Or [a] pos) tA := by
  intro wh pins s σ H Q I h
  refine isTrue_or (thn (ha pins s σ H Q I h) fun c s1 e => ?_)
  cases c with
  | false => exact isTrue_or_nil e
  | true => exact e
theorem pw_and (ha : PT X a tA) (hb : PW X (.BoolOp .And (b :: rest) pos) tB') : PW X (.BoolOp .And (a :: b :: rest) pos) (tAnd tA tB') := by
  intro wh pins s σ H Q I h
  refine isTrue_and (thn (ha pins s σ H _ I h) fun c s1 ⟨H1, I1, q1⟩ => ?_)
  cases c with
  | true => exact hb wh pins s1 σ H1 Q I1 q1
  | false => exact ⟨H1, I1, q1⟩
theorem pw_or (ha : PT X a tA) (hb : PW X (.BoolOp .Or (b :: rest) pos) tB') : PW X (.BoolOp .Or (a :: b :: rest) pos) (tOr tA tB') := by
  intro wh pins s σ H Q I h
  refine isTrue_or (thn (ha pins s σ H _ I h) fun c s1 ⟨H1, I1, q1⟩ => ?_)
  cases c with
  | true => exact ⟨H1, I1, q1⟩
  | false => exact hb wh pins s1 σ H1 Q I1 q1
theorem pt_not (ha : PT X a tA) : PT X (.UnaryOp .Not a pos) (tNot tA) := by
  intro pins s σ H Q I h
  exact isTrue_not (ha pins s σ H (fun c H1 => Q (!c) H1) I h)
/-- .. as values (bools) -/
def tAndV (ta tb : TE) : TE := fun σ H Q => ta σ H fun x H1 => ∃ c, x = .bl c ∧ if c = true then tb σ H1 Q else Q (.bl false) H1
def tOrV (ta tb : TE) : TE := fun σ H Q => ta σ H fun x H1 => ∃ c, x = .bl c ∧ if c = true then Q (.bl true) H1 else tb σ H1 Q
def tNotV (ta : TE) : TE := fun σ H Q => ta σ H fun x H1 => ∃ c, x = .bl c ∧ Q (.bl (!c)) H1
theorem pe_one {op} {t : TE} (h : PE X a t) : PE X (.BoolOp op [a] pos) t := fun pins s σ H Q I hw => BoolOp_one (h pins s σ H Q I hw)
theorem pe_and (ha : PE X a ta) (hb : PE X (.BoolOp .And (b :: rest) pos) tb) : PE X (.BoolOp .And (a :: b :: rest) pos) (tAndV ta tb) := by
  intro pins s σ H Q I h
  refine BoolOp_and (thn (ha pins s σ H _ I h) fun v s1 ⟨x, H1, I1, r1, q1⟩ => ?_)
  obtain ⟨c, rfl, q1⟩ := q1
  cases r1
  refine wpAny_truthy_bool ?_
  cases c with
  | true => exact hb pins s1 σ H1 Q I1 q1
  | false => exact ⟨.bl false, H1, I1, rfl, q1⟩
theorem pe_or (ha : PE X a ta) (hb : PE X (.BoolOp .Or (b :: rest) pos) tb) : PE X (.BoolOp .Or (a :: b :: rest) pos) (tOrV ta tb) := by
  intro pins s σ H Q I h
  refine BoolOp_or (thn (ha pins s σ H _ I h) fun v s1 ⟨x, H1, I1, r1, q1⟩ => ?_)
  obtain ⟨c, rfl, q1⟩ := q1
  cases r1
  refine wpAny_truthy_bool ?_
  cases c with
  | false => exact hb pins s1 σ H1 Q I1 q1
  | true => exact ⟨.bl true, H1, I1, rfl, q1⟩
theorem pe_not (ha : PE X a ta) : PE X (.UnaryOp .Not a pos) (tNotV ta) := by
  intro pins s σ H Q I h
  refine UnaryOp_ (thn (ha pins s σ H _ I h) fun v s1 ⟨x, H1, I1, r1, q1⟩ => ?_)
  obtain ⟨c, rfl, q1⟩ := q1
  cases r1
  exact not_of (wpAny_truthy_bool ⟨.bl (!c), H1, I1, rfl, q1⟩)
/-- a if t else b -/
def tIf (t : TT) (ta tb : TE) : TE := fun σ H Q => t σ H fun c H1 => if c = true then ta σ H1 Q else tb σ H1 Q
theorem pe_ifExp {c : Expr} (hc : PT X c tA) (ha : PE X a ta) (hb : PE X b tb) : PE X (.IfExp c a b pos) (tIf tA ta tb) := by
  intro pins s σ H Q I h
  refine wpAny_IfExp (thn (hc pins s σ H _ I h) fun d s1 ⟨H1, I1, q1⟩ => ?_)
  cases d with
  | true => exact ha pins s1 σ H1 Q I1 q1
  | false => exact hb pins s1 σ H1 Q I1 q1
end
end L2

namespace L2
open PySem PySem.Spec PyProof.Rows

/-! ### a list, a tuple that is read: tracked, frozen, or an object of the module -/
def SqL (K : PySem.W.Frag) (H : Hp) (a : Addr) (xs : List V) : Prop :=
  Rd H a (.lst xs) ∨
    ∃ (o : Obj) (its : Array Value) (n : Nat), K.lookup a = some o ∧ o.cls = .type "list" ∧ o.dict = none ∧ o.data = .seq its n ∧ its.size ≤ sizeLine ∧ Vals xs its.toList
def SqT (K : PySem.W.Frag) (H : Hp) (a : Addr) (xs : List V) : Prop :=
  Rd H a (.tup xs) ∨
    ∃ (o : Obj) (its : Array Value) (n : Nat), K.lookup a = some o ∧ o.cls = .type "tuple" ∧ o.data = .seq its n ∧ its.size ≤ sizeLine ∧ Vals xs its.toList
def absV : Value → Option V
  | .none => some .non
  | .bool b => some (.bl b)
  | .int i _ => some (.int i)
  | .str x _ => some (.str x)
  | .bytes b _ => some (.byt b)
  | .float b _ => some (.flt b)
  | .ref a => some (.ref a)
  | .type n => some (.ty n)
  | _ => none
theorem RelV.abs {x : V} {u : Value} (r : RelV x u) : absV u = some x := by
  cases x with
  | non => cases r; rfl
  | bl _ => cases r; rfl
  | int _ => obtain ⟨t, rfl⟩ := r; rfl
  | str _ => obtain ⟨t, rfl⟩ := r; rfl
  | byt _ => obtain ⟨t, rfl⟩ := r; rfl
  | flt _ => obtain ⟨t, rfl⟩ := r; rfl
  | ref _ => cases r; rfl
  | ty _ => cases r; rfl
theorem RelV.inj {x y : V} {u : Value} (r : RelV x u) (q : RelV y u) : x = y := Option.some.inj (r.abs.symm.trans q.abs)
theorem Vals.inj : ∀ {xs ys : List V} {us : List Value}, Vals xs us → Vals ys us → xs = ys
  | _, _, _, .nil, .nil => rfl
  | _, _, _, .cons r t, .cons r' t' => by rw [r.inj r', Vals.inj t t']
section
variable {X : Cx} {pins : List (Addr × Obj)} {σ : St} {H : Hp} {s : Shared} {a : Addr} {xs ys : List V}
theorem SqL.of {K : PySem.W.Frag} (h : H a = some (.lst xs)) : SqL K H a xs := .inl (.inl h)
theorem SqT.of {K : PySem.W.Frag} (h : H a = some (.tup xs)) : SqT K H a xs := .inl (.inl h)
theorem Inv.list (I : Inv X pins σ H s) (h : SqL X.K H a xs) : ∃ its : List Value, Vals xs its ∧ PlainL s.heap a its.toArray ∧ xs.length ≤ sizeLine := by
  rcases h with h | ⟨o, its, n, hk, hc, hd, hs, hz, r⟩
  · obtain ⟨z, its, n, r, e⟩ := h.ok I.hok
    exact ⟨its, r, ⟨_, n, e, rfl, rfl, rfl⟩, z⟩
  · refine ⟨its.toList, r, ⟨o, n, I.kIn a o hk, hc, hd, by simpa using hs⟩, ?_⟩
    have e := r.length
    simp only [Array.length_toList] at e
    omega
theorem Inv.tuple (I : Inv X pins σ H s) (h : SqT X.K H a xs) : ∃ its : List Value, Vals xs its ∧ IsTup s.heap a its.toArray ∧ xs.length ≤ sizeLine := by
  rcases h with h | ⟨o, its, n, hk, hc, hs, hz, r⟩
  · obtain ⟨z, its, r, p⟩ := h.ok I.hok
    exact ⟨its, r, p, z⟩
  · refine ⟨its.toList, r, ⟨o, I.kIn a o hk, hc, n, by simpa using hs⟩, ?_⟩
    have e := r.length
    simp only [Array.length_toList] at e
    omega
theorem Inv.list_inj (I : Inv X pins σ H s) (h : SqL X.K H a xs) (h' : SqL X.K H a ys) : xs = ys := by
  obtain ⟨its, r, ⟨o, n, e, _, _, d⟩, _⟩ := I.list h
  obtain ⟨its', r', ⟨o', n', e', _, _, d'⟩, _⟩ := I.list h'
  rw [e] at e'; cases e'
  rw [d] at d'
  injection d' with d1 _
  have : its = its' := by simpa using congrArg Array.toList d1
  subst this
  exact r.inj r'
theorem Inv.tuple_inj (I : Inv X pins σ H s) (h : SqT X.K H a xs) (h' : SqT X.K H a ys) : xs = ys := by
  obtain ⟨its, r, ⟨o, e, _, n, d⟩, _⟩ := I.tuple h
  obtain ⟨its', r', ⟨o', e', _, n', d'⟩, _⟩ := I.tuple h'
  rw [e] at e'; cases e'
  rw [d] at d'
  injection d' with d1 _
  have : its = its' := by simpa using congrArg Array.toList d1
  subst this
  exact r.inj r'
end

/-! ### another wish about exceptions -/
abbrev Cx.wish (X : Cx) (E : Value → Shared → Prop) : Cx := { X with xe := E }
/-- no exception leaves -/
abbrev Cx.nox (X : Cx) : Cx := X.wish fun _ _ => False
theorem Cx.Ok.wish {X : Cx} (ok : X.Ok) (E : Value → Shared → Prop) : (X.wish E).Ok :=
  ⟨ok.mod, ok.kind, ok.glob, ok.blt, ok.above, ok.inj, ok.has, ok.cab, ok.hd, ok.frames, ok.stk, ok.exf, ok.bs, ok.bsz, ok.noex, ok.exfs, ok.funs, ok.frf⟩
theorem Cx.Ok.unwish {X : Cx} {E : Value → Shared → Prop} (ok : (X.wish E).Ok) : X.Ok :=
  ⟨ok.mod, ok.kind, ok.glob, ok.blt, ok.above, ok.inj, ok.has, ok.cab, ok.hd, ok.frames, ok.stk, ok.exf, ok.bs, ok.bsz, ok.noex, ok.exfs, ok.funs, ok.frf⟩
section
variable {X : Cx} {pins : List (Addr × Obj)} {σ : St} {H : Hp} {s : Shared} {E : Value → Shared → Prop}
theorem Inv.wish (I : Inv X pins σ H s) (E : Value → Shared → Prop) : Inv (X.wish E) pins σ H s := ⟨I.ok.wish E, I.os, I.bare, I.base, I.loc, I.cell, I.free, I.freeC, I.pin, I.hok, I.len⟩
theorem Inv.unwish (I : Inv (X.wish E) pins σ H s) : Inv X pins σ H s := ⟨I.ok.unwish, I.os, I.bare, I.base, I.loc, I.cell, I.free, I.freeC, I.pin, I.hok, I.len⟩
theorem SP.unwish {D : Ends} {f : Flow} {s' : Shared} (h : SP (X.wish E) pins D f s') : SP X pins D f s' := by
  cases f with
  | next => obtain ⟨σ', H', I, q⟩ := h; exact ⟨σ', H', I.unwish, q⟩
  | brk => obtain ⟨σ', H', I, q⟩ := h; exact ⟨σ', H', I.unwish, q⟩
  | cont => obtain ⟨σ', H', I, q⟩ := h; exact ⟨σ', H', I.unwish, q⟩
  | ret u => obtain ⟨v, σ', H', I, r, q⟩ := h; exact ⟨v, σ', H', I.unwish, r, q⟩
theorem PE.nox {e : Expr} {t : TE} (h : PE X.nox e t) : PE X e t := fun pins s σ H Q I hw =>
  wpAny_mono (h pins s σ H Q (I.wish _) hw) (fun _ _ ⟨v, H', I', r, q⟩ => ⟨v, H', I'.unwish, r, q⟩) fun _ _ z => False.elim z
theorem PT.nox {e : Expr} {t : TT} (h : PT X.nox e t) : PT X e t := fun pins s σ H Q I hw =>
  wpAny_mono (h pins s σ H Q (I.wish _) hw) (fun _ _ ⟨H', I', q⟩ => ⟨H', I'.unwish, q⟩) fun _ _ z => False.elim z
theorem PSs.nox {st : List Stmt} {t : TS} (h : PSs X.nox st t) : PSs X st t := fun pins s σ H D I hw =>
  wpAny_mono (h pins s σ H D (I.wish _) hw) (fun _ _ q => q.unwish) fun _ _ z => False.elim z
end

/-! ### blocks and small statements -/
section
variable {X : Cx} {st : Stmt} {rest : List Stmt} {t u : TS} {e : Expr} {te : TE} {pos : Pos}
def tNext : TS := fun D σ H => D.nx σ H
def tSeq (t u : TS) : TS := fun D σ H => t { D with nx := u D } σ H
theorem pss_nil : PSs X [] tNext := fun _ _ σ H _ I h => wpAny_execs_nil ⟨σ, H, I, h⟩
theorem pss_cons (h1 : PS X st t) (h2 : PSs X rest u) : PSs X (st :: rest) (tSeq t u) := by
  intro pins s σ H D I h
  refine wpAny_execs_cons (thn (h1 pins s σ H { D with nx := u D } I h) fun f s1 q => ?_)
  cases f with
  | next =>
    obtain ⟨σ', H', I', q⟩ := q
    exact h2 pins s1 σ' H' D I' q
  | ret v => exact q
  | brk => exact q
  | cont => exact q
theorem pss_one (h1 : PS X st t) : PSs X [st] t := by
  intro pins s σ H D I h
  refine wpAny_execs_cons (thn (h1 pins s σ H D I h) fun f s1 q => ?_)
  cases f with
  | next => exact wpAny_execs_nil q
  | ret v => exact q
  | brk => exact q
  | cont => exact q
def tBreak : TS := fun D σ H => D.bk σ H
def tCont : TS := fun D σ H => D.ct σ H
theorem ps_pass : PS X (.Pass pos) tNext := fun _ _ σ H _ I h => wpAny_Pass ⟨σ, H, I, h⟩
theorem ps_break : PS X (.Break pos) tBreak := fun _ _ σ H _ I h => wpAny_Break ⟨σ, H, I, h⟩
theorem ps_continue : PS X (.Continue pos) tCont := fun _ _ σ H _ I h => wpAny_Continue ⟨σ, H, I, h⟩
/-- in a def's body nothing is shown -/
theorem Inv.quiet {pins : List (Addr × Obj)} {σ : St} {H : Hp} {s : Shared} (I : Inv X pins σ H s) : interactive X.env = false := by simp [interactive, I.ok.kind]
/-- a docstring -/
theorem ps_doc {x j pos pos'} : PS X (.Expr (.Constant (.str x) j pos) pos') tNext := fun _ s σ H _ I h => wpAny_Expr (Calls.Constant_str (show SP X _ _ .next { s with toks := s.toks + 1 } from ⟨σ, H, I.tok _, h⟩)) I.quiet
/-- an expression whose value is dropped -/
def tDrop (te : TE) : TS := fun D σ H => te σ H fun _ H1 => D.nx σ H1
theorem ps_expr (he : PE X e te) (hs : swapsWith e none pos.line X.env = pure false := by rfl) : PS X (.Expr e pos) (tDrop te) := by
  intro pins s σ H D I h
  exact wpAny_Expr_any (thn (he pins s σ H _ I h) fun v s1 ⟨x, H1, I1, r1, q1⟩ => ⟨σ, H1, I1, q1⟩) I.quiet hs
def tRet (te : TE) : TS := fun D σ H => te σ H D.rt
theorem ps_ret (he : PE X e te) : PS X (.Return (some e) pos) (tRet te) := by
  intro pins s σ H D I h
  exact wpAny_Return_some (thn (he pins s σ H _ I h) fun v s1 ⟨x, H1, I1, r1, q1⟩ => ⟨x, σ, H1, I1, r1, q1⟩)
def tRetN : TS := fun D _ H => D.rt .non H
theorem ps_retN : PS X (.Return none pos) tRetN := fun _ _ σ H _ I h => wpAny_Return_none ⟨.non, σ, H, I, rfl, h⟩
def tIfS (c : TT) (t u : TS) : TS := fun D σ H => c σ H fun b H1 => if b = true then t D σ H1 else u D σ H1
theorem ps_if {c : Expr} {a b : List Stmt} {tc : TT} (hc : PT X c tc) (ha : PSs X a t) (hb : PSs X b u) : PS X (.If c a b pos) (tIfS tc t u) := by
  intro pins s σ H D I h
  refine wpAny_If (thn (hc pins s σ H _ I h) fun d s1 ⟨H1, I1, q1⟩ => ?_)
  cases d with
  | true => exact ha pins s1 σ H1 D I1 q1
  | false => exact hb pins s1 σ H1 D I1 q1
/-- code that the proof never comes to -/
def tNever : TS := fun _ _ _ => False
theorem ps_never : PS X st tNever := fun _ _ _ _ _ _ h => h.elim
theorem pss_never {sts : List Stmt} : PSs X sts tNever := fun _ _ _ _ _ _ h => h.elim
end

/-! ### targets -/
abbrev TG := V → St → Hp → (St → Hp → Prop) → Prop
abbrev TGs := List V → St → Hp → (St → Hp → Prop) → Prop
def PG (X : Cx) (target : Expr) (t : TG) : Prop :=
  ∀ (pins : List (Addr × Obj)) (s : Shared) (σ : St) (H : Hp) (v : V) (u : Value) (Q : St → Hp → Prop), Inv X pins σ H s → RelV v u → t v σ H Q →
    wpAny (model X.prog X.w) X.A (assign target X.env u) (fun _ s' => ∃ σ' H', Inv X pins σ' H' s' ∧ Q σ' H') X.xe s
/-- several targets, one after another -/
def PGs (X : Cx) (ts : List Expr) (t : TGs) : Prop :=
  ∀ (pins : List (Addr × Obj)) (s : Shared) (σ : St) (H : Hp) (vs : List V) (us : List Value) (Q : St → Hp → Prop), Inv X pins σ H s → Vals vs us → t vs σ H Q →
    wpAny (model X.prog X.w) X.A (assignInOrder ((assignEach ts X.env).map (·.2)) us) (fun _ s' => ∃ σ' H', Inv X pins σ' H' s' ∧ Q σ' H') X.xe s
/-- o[i] = v, by values -/
abbrev TSet := V → V → V → Hp → (Hp → Prop) → Prop
def PSet (X : Cx) (t : TSet) : Prop :=
  ∀ (pins : List (Addr × Obj)) (s : Shared) (σ : St) (H : Hp) (o i v : V) (ov iv u : Value) (Q : Hp → Prop), Inv X pins σ H s → RelV o ov → RelV i iv → RelV v u → t o i v H Q →
    wpAny (model X.prog X.w) X.A (setItem ov iv u) (fun _ s' => ∃ H', Inv X pins σ H' s' ∧ Q H') X.xe s
/-- a op= b, by values -/
abbrev TIp := V → V → Hp → VK → Prop
def PIp (X : Cx) (op : Operator) (t : TIp) : Prop :=
  ∀ (pins : List (Addr × Obj)) (s : Shared) (σ : St) (H : Hp) (x y : V) (v u : Value) (Q : VK), Inv X pins σ H s → RelV x v → RelV y u → t x y H Q →
    wpAny (model X.prog X.w) X.A (inplaceOp op v u) (EP X pins σ Q) X.xe s
section
variable {X : Cx} {pos : Pos}
def gName (i : Nat) : TG := fun v σ H Q => Q (σ.set i (some v)) H
theorem pg_name {i : Nat} {x : Str} (hN : X.N.Nodup) (hi : X.N[i]? = some x) (hx : Loc X.env.scope x) (hf : X.fn x = true ∨ X.env.scope.names.lookup x = some .local := by first | exact .inl rfl | exact .inr rfl | assumption) : PG X (.Name x pos) (gName i) := by
  intro pins s σ H v u Q I r h
  exact wpAny_assign_Name (store_ok I hN hi hx r (fun s' I' => ⟨_, H, I', h⟩) hf)
def gNil : TGs := fun vs σ H Q => vs = [] ∧ Q σ H
def gCons (t : TG) (u : TGs) : TGs := fun vs σ H Q => ∃ v r, vs = v :: r ∧ t v σ H fun σ' H' => u r σ' H' Q
theorem pgs_nil : PGs X [] gNil := by
  intro pins s σ H vs us Q I r h
  obtain ⟨e, h⟩ := h
  subst e
  cases r
  exact assignInOrder_nil ⟨σ, H, I, h⟩
theorem pgs_cons {e : Expr} {es : List Expr} {t : TG} {u : TGs} (h1 : PG X e t) (h2 : PGs X es u)
    (hs : (assignEach (e :: es) X.env).map (·.2) = assign e X.env :: (assignEach es X.env).map (·.2) := by rfl) : PGs X (e :: es) (gCons t u) := by
  intro pins s σ H vs us Q I r h
  obtain ⟨v, vr, e1, h⟩ := h
  subst e1
  cases r with
  | cons r rr =>
    rw [hs]
    refine assignInOrder_cons (thn (h1 pins s σ H _ _ _ I r h) fun _ s1 ⟨σ1, H1, I1, q1⟩ => ?_)
    exact h2 pins s1 σ1 H1 _ _ Q I1 rr q1
/-- (a, b, ..) = a tuple of that length -/
def gTup (K : PySem.W.Frag) (n : Nat) (t : TGs) : TG := fun v σ H Q => ∃ a xs, v = .ref a ∧ SqT K H a xs ∧ xs.length = n ∧ t xs σ H Q
theorem pg_tup {es : List Expr} {k : Nat} {t : TGs} {n : Nat} (hc : X.calm = true) (h : PGs X es t)
    (hn : (assignEach es X.env).length = n := by rfl) (hst : (assignEach es X.env).findIdx? (·.1) = none := by rfl) : PG X (.Tuple es k pos) (gTup X.K n t) := by
  intro pins s σ H v u Q I r hw
  obtain ⟨a, xs, e1, hq, hl, hw⟩ := hw
  subst e1
  cases r
  obtain ⟨its, rv, ht, hz⟩ := I.tuple hq
  refine assign_Tuple_tuple (I.ok.hd hc) ht (by simp [hn, ← hl, rv.length]) hst fun h' hx => ?_
  have I1 : Inv X pins σ H { s with heap := h' } := I.kept (t' := s.toks) fun b o e => hx b o (Nat.ne_of_lt (Heap.lt_size e)) e
  exact h pins _ σ H xs _ Q I1 (by simpa using rv) hw
/-- o[i] = .. -/
def gSub (to ti : TE) (t : TSet) : TG := fun v σ H Q => to σ H fun o H1 => ti σ H1 fun i H2 => t o i v H2 fun H3 => Q σ H3
theorem pg_sub {o i : Expr} {to ti : TE} {t : TSet} (ho : PE X o to) (hi : PE X i ti) (hs : PSet X t)
    (ha : ∀ v, assign (.Subscript o i pos) X.env v = (do
      let ov ← holding [v] (eval o X.env)
      let iv ← holding [v, ov] (eval i X.env)
      standAt pos
      holding [v, ov, iv] (setItem ov iv v)
      release [v, ov, iv] []) := by intro _; rfl) : PG X (.Subscript o i pos) (gSub to ti t) := by
  intro pins s σ H v u Q I r h
  rw [ha]
  refine wpAny_bind (wpAny_holding (thn (ho pins s σ H _ I h) fun ov s1 ⟨x, H1, I1, r1, q1⟩ => ?_))
  refine wpAny_bind (wpAny_holding (thn (hi pins s1 σ H1 _ I1 q1) fun iv s2 ⟨y, H2, I2, r2, q2⟩ => ?_))
  refine wpAny_bind (wpAny_standAt (wpAny_bind (wpAny_holding (thn (hs pins s2 σ H2 x y v ov iv u _ I2 r1 r2 r q2) fun _ s3 ⟨H3, I3, q3⟩ => ?_))))
  exact wpAny_release ⟨σ, H3, I3, q3⟩
/-- target = value -/
def tAsg (te : TE) (g : TG) : TS := fun D σ H => te σ H fun x H1 => g x σ H1 D.nx
theorem ps_asg {tg e : Expr} {te : TE} {g : TG} (he : PE X e te) (hg : PG X tg g) (hs : swapsWithSole [tg] e pos.line X.env = pure false := by rfl) (hw : swappedStores [tg] e X.env = pure none := by rfl)
    (h1 : (assignEach [tg] X.env).map (·.2) = [assign tg X.env] := by rfl) : PS X (.Assign [tg] e pos) (tAsg te g) := by
  intro pins s σ H D I h
  refine wpAny_Assign_stores (thn (he pins s σ H _ I h) fun v s1 ⟨x, H1, I1, r1, q1⟩ => ?_) hs hw
  rw [h1]
  exact thn (hg pins s1 σ H1 x v _ I1 r1 q1) fun _ s2 q => q
/-- name = value -/
theorem ps_set {i : Nat} {x : Str} {e : Expr} {te : TE} {pos' : Pos} (hN : X.N.Nodup) (hi : X.N[i]? = some x) (hx : Loc X.env.scope x) (he : PE X e te) (hs : swapsWith e (some (.Name x pos')) pos.line X.env = pure false := by rfl) (hf : X.fn x = true ∨ X.env.scope.names.lookup x = some .local := by first | exact .inl rfl | exact .inr rfl | assumption) :
    PS X (.Assign [.Name x pos'] e pos) (tAsg te (gName i)) := by
  intro pins s σ H D I h
  refine wpAny_Assign_Name (thn (he pins s σ H _ I h) fun v s1 ⟨y, H1, I1, r1, q1⟩ => ?_) hs
  exact store_ok I1 hN hi hx r1 (fun s2 I2 => ⟨_, H1, I2, q1⟩) hf
/-- a, b = x, y with plain local names: stored from the right; the pair itself is not tracked (the opening rows as in PyProof/Rows/TupAssign.lean:23) -/
def tPar (i j : Nat) (ta : TA) : TS := fun D σ H => ta σ H fun vs H1 => ∃ v w, vs = [v, w] ∧ D.nx ((σ.set i (some v)).set j (some w)) H1
theorem ps_par {i j : Nat} {x y : Str} {a b : Expr} {ta : TA} {px py pt : Pos} {kt k2 pt2} (hc : X.calm = true) (hN : X.N.Nodup) (hi : X.N[i]? = some x) (hj : X.N[j]? = some y) (hij : i ≠ j)
    (hx : X.env.scope.names.lookup x = some .local) (hy : X.env.scope.names.lookup y = some .local) (ha : PA X [a, b] ta)
    (hw : swappedStores [.Tuple [.Name x px, .Name y py] kt pt] (.Tuple [a, b] k2 pt2) X.env = pure (some [x, y]))
    (hs : swapsWithSole [.Tuple [.Name x px, .Name y py] kt pt] (.Tuple [a, b] k2 pt2) pos.line X.env = pure false := by rfl) :
    PS X (.Assign [.Tuple [.Name x px, .Name y py] kt pt] (.Tuple [a, b] k2 pt2) pos) (tPar i j ta) := by
  intro pins s σ H D I h
  rw [exec_Assign_arm]
  refine wpAny_bind (wpAny_standAt ?_)
  rw [hs]
  refine wpAny_bind (wpAny_pure ?_)
  rw [if_neg (by decide)]
  refine wpAny_bind (Tuple_ (thn (ha _ pins s σ H _ I h) fun us s1 ⟨vs, H1, I1, r1, q1⟩ => ?_))
  obtain ⟨v, w, e1, q1⟩ := q1
  subst e1
  obtain ⟨u1, u2, rfl, rv, rw'⟩ : ∃ u1 u2, us = [u1, u2] ∧ RelV v u1 ∧ RelV w u2 := by
    cases r1 with
    | cons p q =>
      cases q with
      | cons p' q' =>
        cases q'
        exact ⟨_, _, rfl, p, p'⟩
  refine wpAny_newObj_type ?_ (by show 2 ≤ sizeLine; decide)
  have I2 : Inv X pins σ H1 { s1 with heap := s1.heap.push { cls := .type "tuple", data := .seq [u1, u2].toArray } } := I1.kept (t' := s1.toks) fun b o e => Heap.get?_push_of_some _ e
  rw [hw]
  refine wpAny_bind (wpAny_pure ?_)
  show wpAny (model X.prog X.w) X.A (do rule "assign.swapped-stores"; let items ← unpackItems (.ref s1.heap.objs.size) 2 none; assignInOrder [fun v => bindName X.env y v, fun v => bindName X.env x v] items.reverse; pure Flow.next) _ _ _
  refine wpAny_bind (wpAny_rule (wpAny_bind (unpackItems_tuple (items := #[u1, u2]) (I.ok.hd hc) (IsTup.new s1.heap _) fun h' hx' => ?_)))
  have I3 := I2.kept (h' := h') (t' := s1.toks) fun b o e => hx' b o (Nat.ne_of_lt (Heap.lt_size e)) e
  show wpAny _ _ (assignInOrder [fun v => bindName X.env y v, fun v => bindName X.env x v] [u2, u1] >>= fun _ => pure Flow.next) _ _ _
  refine wpAny_bind (assignInOrder_cons (wpAny_bindName (store_ok I3 hN hj (.inl hy) rw' (fun s2 I4 => ?_) (.inr hy))))
  refine assignInOrder_cons (wpAny_bindName (store_ok I4 hN hi (.inl hx) rv (fun s3 I5 => assignInOrder_nil (wpAny_pure ?_)) (.inr hx)))
  rw [List.set_comm _ _ (Ne.symm hij)] at I5
  exact ⟨_, H1, I5, q1⟩
/-- name op= e -/
def tAug (i : Nat) (te : TE) (ti : TIp) : TS := fun D σ H => ∃ x, σ[i]? = some (some x) ∧ te σ H fun y H1 => ti x y H1 fun z H2 => D.nx (σ.set i (some z)) H2
theorem ps_aug {i : Nat} {x : Str} {e : Expr} {te : TE} {op : Operator} {ti : TIp} {pos' : Pos} (hN : X.N.Nodup) (hi : X.N[i]? = some x) (hx : Loc X.env.scope x) (he : PE X e te) (ho : PIp X op ti) (hf : X.fn x = true ∨ X.env.scope.names.lookup x = some .local := by first | exact .inl rfl | exact .inr rfl | assumption) :
    PS X (.AugAssign (.Name x pos') op e pos) (tAug i te ti) := by
  intro pins s σ H D I h
  obtain ⟨v, e1, h⟩ := h
  obtain ⟨m, hn, hl⟩ := I.loc
  have vis : Vis X.env.scope x := by rcases hx with k | k; exact .inl k; exact .inr (.inl k)
  obtain ⟨u, r, l⟩ := hl i x v hi e1 vis
  refine wpAny_AugAssign_Name ?_
  have go : wpAny (model X.prog X.w) X.A (eval e X.env) (fun w s₂ => wpAny (model X.prog X.w) X.A (inplaceOp op u w) (fun r s₃ => wpAny (model X.prog X.w) X.A (storeName X.env x r) (fun _ => SP X pins D .next) X.xe s₃) X.xe s₂) X.xe s := by
    refine thn (he pins s σ H _ I h) fun w s1 ⟨y, H1, I1, r1, q1⟩ => ?_
    refine thn (ho pins s1 σ H1 v y u w _ I1 r r1 q1) fun z s2 ⟨zv, H2, I2, r2, q2⟩ => ?_
    exact store_ok I2 hN hi hx r2 (fun s3 I3 => ⟨_, H2, I3, q2⟩) hf
  rcases l with ⟨hk, hm⟩ | ⟨hk, c, hc, hcell⟩
  · exact wpAny_loadName_local I.ok.kind hk hn hm go
  · rcases hk with hk | hk
    · exact wpAny_loadName_cell I.ok.kind hk hc hcell go
    · rcases hx with k | k
      · have : X.env.scope.names.lookup x = some .free := hk
        rw [k] at this; cases this
      · have : X.env.scope.names.lookup x = some .free := hk
        rw [k] at this; cases this
/-- o[i] op= e -/
def tAugS (to ti te : TE) (tget : V → V → Hp → VK → Prop) (tip : TIp) (tset : TSet) : TS := fun D σ H => to σ H fun o H1 => ti σ H1 fun i H2 => tget o i H2 fun x H3 => te σ H3 fun y H4 => tip x y H4 fun z H5 => tset o i z H5 fun H6 => D.nx σ H6
/-- o[i], by values -/
def PGet (X : Cx) (t : V → V → Hp → VK → Prop) : Prop :=
  ∀ (pins : List (Addr × Obj)) (s : Shared) (σ : St) (H : Hp) (o i : V) (ov iv : Value) (Q : VK), Inv X pins σ H s → RelV o ov → RelV i iv → t o i H Q →
    wpAny (model X.prog X.w) X.A (getItem ov iv) (EP X pins σ Q) X.xe s
theorem ps_augS {o i e : Expr} {to ti te : TE} {tget : V → V → Hp → VK → Prop} {tip : TIp} {tset : TSet} {op : Operator} {tpos : Pos} (ho : PE X o to) (hi : PE X i ti) (hg : PGet X tget) (he : PE X e te) (hp : PIp X op tip) (hs : PSet X tset)
    (ha : ∀ ov iv new, augStore i ov iv new = (do holding [new, ov, iv] (setItem ov iv new); release [new, ov, iv] []; pure .next) := by intros; rfl) : PS X (.AugAssign (.Subscript o i tpos) op e pos) (tAugS to ti te tget tip tset) := by
  intro pins s σ H D I h
  refine wpAny_AugAssign_SubscriptAny (thn (ho pins s σ H _ I h) fun ov s1 ⟨x1, H1, I1, r1, q1⟩ => ?_) ha
  refine thn (hi pins s1 σ H1 _ I1 q1) fun iv s2 ⟨x2, H2, I2, r2, q2⟩ => ?_
  refine thn (hg pins s2 σ H2 x1 x2 ov iv _ I2 r1 r2 q2) fun old s3 ⟨x3, H3, I3, r3, q3⟩ => ?_
  refine thn (he pins s3 σ H3 _ I3 q3) fun v s4 ⟨x4, H4, I4, r4, q4⟩ => ?_
  refine thn (hp pins s4 σ H4 x3 x4 old v _ I4 r3 r4 q4) fun new s5 ⟨x5, H5, I5, r5, q5⟩ => ?_
  exact thn (hs pins s5 σ H5 x1 x2 x5 ov iv new _ I5 r1 r2 r5 q5) fun _ s6 ⟨H6, I6, q6⟩ => ⟨σ, H6, I6, q6⟩
/-- ints -/
def ipI (f : Int → Int → Int) : TIp := fun x y H Q => ∃ i j, x = .int i ∧ y = .int j ∧ Q (.int (f i j)) H
theorem ip_add : PIp X .Add (ipI fun i j => i + j) := by
  intro pins s σ H x y v u Q I r1 r2 h
  obtain ⟨i, j, e1, e2, q⟩ := h
  subst e1; subst e2
  obtain ⟨t, rfl⟩ := r1
  obtain ⟨t', rfl⟩ := r2
  exact iadd_int ⟨.int _, H, I.tok _, ⟨_, rfl⟩, q⟩
theorem ip_sub : PIp X .Sub (ipI fun i j => i - j) := by
  intro pins s σ H x y v u Q I r1 r2 h
  obtain ⟨i, j, e1, e2, q⟩ := h
  subst e1; subst e2
  obtain ⟨t, rfl⟩ := r1
  obtain ⟨t', rfl⟩ := r2
  exact isub_int ⟨.int _, H, I.tok _, ⟨_, rfl⟩, q⟩
end

/-! ### while -/
section
variable {X : Cx} {pos : Pos}
/-- the invariant W with its measure -/
def tWhile (c : TT) (tb : TS) : TS := fun D σ H => ∃ W : Nat → St → Hp → Prop, (∃ m, W m σ H) ∧ ∀ m σ H, W m σ H →
  c σ H fun b H1 => if b = true then ∃ N : St → Hp → Prop, (∀ σ' H', N σ' H' → ∃ m', m' < m ∧ W m' σ' H') ∧ tb { D with nx := N, ct := N, bk := D.nx } σ H1 else D.nx σ H1
theorem ps_while {c : Expr} {body : List Stmt} {tc : TT} {tb : TS} (hp : PassesOwn (model X.prog X.w) X.A X.env X.xe) (hc : PT X c tc) (hb : PSs X body tb) : PS X (.While c body [] pos) (tWhile tc tb) := by
  intro pins s σ H D I h
  obtain ⟨W, ⟨m0, w0⟩, turn⟩ := h
  refine wpAny_While (codeAny_whileLoop (fun n s' => ∃ σ' H', Inv X pins σ' H' s' ∧ W n σ' H') ?_ m0 ⟨σ, H, I, w0⟩)
  rintro n s1 ⟨σ1, H1, I1, w1⟩
  refine wpAny_passesOwn hp (thn (hc pins s1 σ1 H1 _ I1 (turn n σ1 H1 w1)) fun b s2 ⟨H2, I2, q2⟩ => ?_)
  cases b with
  | true =>
    obtain ⟨N, hN, q2⟩ := q2
    rw [if_pos rfl]
    refine wpAny_passesOwn hp (thn (hb pins s2 σ1 H2 _ I2 q2) fun f s3 q3 => ?_)
    cases f with
    | next =>
      obtain ⟨σ3, H3, I3, n3⟩ := q3
      obtain ⟨m', hm, w3⟩ := hN σ3 H3 n3
      exact ⟨m', hm, σ3, H3, I3, w3⟩
    | cont =>
      obtain ⟨σ3, H3, I3, n3⟩ := q3
      obtain ⟨m', hm, w3⟩ := hN σ3 H3 n3
      exact ⟨m', hm, σ3, H3, I3, w3⟩
    | brk => exact q3
    | ret v => exact q3
  | false =>
    rw [if_neg Bool.false_ne_true]
    exact wpAny_execs_nil ⟨σ1, H2, I2, q2⟩
end

/-! ### what a loop or a comprehension walks -/
/-- at turn i: it yields x (the heap may grow), or it stops -/
structure It where
  go : Nat → Hp → Prop
  yld : Nat → Hp → V → Hp → Prop
  stop : Nat → Hp → Prop
/-- the iterator's own objects may turn: they are not the frame's, not pinned, younger than the entry (or a comprehension's own) -/
def FpOk (X : Cx) (pins : List (Addr × Obj)) (H : Hp) (b : Addr) : Prop :=
  H b = none ∧ b ≠ X.env.locals ∧ b ∉ X.fs ∧ (b ∈ X.ex ∨ X.s₀.heap.objs.size ≤ b) ∧ (∀ x c, X.env.cells.lookup x = some c → c ≠ b) ∧ ∀ p ∈ X.pn ++ pins, p.1 ≠ b
theorem Inv.fpOk {X : Cx} {pins : List (Addr × Obj)} {σ : St} {H H' : Hp} {s : Shared} {b : Addr} (I : Inv X pins σ H s) (hb : s.heap.objs.size ≤ b) (hn : H' b = none) : FpOk X pins H' b := by
  refine ⟨hn, Nat.ne_of_gt (Nat.lt_of_lt_of_le I.lt hb), I.nofs hb, .inr (Nat.le_trans I.sz hb), fun x c e z => ?_, fun p hp z => ?_⟩
  · obtain ⟨v, q⟩ := I.cell x c e
    exact absurd (Nat.lt_of_lt_of_le q.lt (by rw [z]; exact hb)) (Nat.lt_irrefl _)
  · exact absurd (Nat.lt_of_lt_of_le (Heap.lt_size (I.pin p hp).1) (by rw [z]; exact hb)) (Nat.lt_irrefl _)
structure Turn (P : Program) (w : World) (K : PySem.W.Frag) (tg : Expr) (J : It) (fp : List Addr) (it : Addr) (tn : Nat → Heap → Prop) : Prop where
  mem : it ∈ fp
  obj : ∀ i h, tn i h → ∀ b ∈ fp, ∃ o, h.get? b = some o ∧ ∀ v, o.data ≠ .cell v
  keep : ∀ i h h', tn i h → (∀ b ∈ fp, ∀ o, h.get? b = some o → h'.get? b = some o) → tn i h'
  item : ∀ (X : Cx), X.prog = P → X.w = w → X.K = K → X.calm = true → ∀ (i : Nat) (pins : List (Addr × Obj)) (s : Shared) (σ : St) (H : Hp) (E : Value → Shared → Prop), Inv X pins σ H s → (∀ b ∈ fp, FpOk X pins H b) → tn i s.heap → J.go i H →
    wpAny (model P w) X.A (pyNext (.ref it)) (fun r s1 => ∃ u, r = some u ∧
      wpAny (model P w) X.A (letOwnedTupleGo tg (.ref it) u) (fun _ s2 => ∃ x H', Inv X pins σ H' s2 ∧ RelV x u ∧ J.yld i H x H' ∧ tn (i + 1) s2.heap ∧ ∀ b ∈ fp, H' b = none) E s1) E s
  done : ∀ (X : Cx), X.prog = P → X.w = w → X.K = K → X.calm = true → ∀ (i : Nat) (pins : List (Addr × Obj)) (s : Shared) (σ : St) (H : Hp) (E : Value → Shared → Prop), Inv X pins σ H s → (∀ b ∈ fp, FpOk X pins H b) → tn i s.heap → J.stop i H →
    wpAny (model P w) X.A (pyNext (.ref it)) (fun r s1 => r = none ∧ Inv X pins σ H s1) E s
  self : ∀ (A : Around) (i : Nat) (s : Shared) (Q : Value → Shared → Prop) (E : Value → Shared → Prop), tn i s.heap → Q (.ref it) s → wpAny (model P w) A (pyIter (.ref it)) Q E s
abbrev TI := St → Hp → (It → Hp → Prop) → Prop
/-- an iterator has come -/
def PIE (X : Cx) (pins : List (Addr × Obj)) (σ : St) (tg : Expr) (R : It → Hp → Prop) (itv : Value) (s2 : Shared) : Prop :=
  ∃ (it : Addr) (fp : List Addr) (tn : Nat → Heap → Prop) (J : It) (H' : Hp), itv = .ref it ∧ Inv X pins σ H' s2 ∧ Turn X.prog X.w X.K tg J fp it tn ∧ tn 0 s2.heap ∧ (∀ b ∈ fp, FpOk X pins H' b) ∧ R J H'
def PI (X : Cx) (tg iter : Expr) (wi : TI) : Prop :=
  ∀ (pins : List (Addr × Obj)) (s : Shared) (σ : St) (H : Hp) (R : It → Hp → Prop), Inv X pins σ H s → wi σ H R →
    wpAny (model X.prog X.w) X.A (eval iter X.env) (fun v s1 => wpAny (model X.prog X.w) X.A (pyIter v) (PIE X pins σ tg R) X.xe s1) X.xe s

/-- the step ahead of the store is nothing for an iterator that keeps no tuple -/
theorem go_of {M : Model} {A : Around} {E : Value → Shared → Prop} {s : Shared} {tg : Expr} {it : Addr} {u : Value} {o : Obj} {n : String} {vs : Array Value} {Q : Unit → Shared → Prop} (ho : s.heap.get? it = some o) (hc : o.cls = .type n) (hd : o.data = .fields vs)
    (hn : ["enumerate", "zip", "dict_itemiterator", "dict_reverseitemiterator", "odict_iterator", "itertools.zip_longest", "itertools.pairwise"].contains n = false) (hQ : Q () s) : wpAny M A (letOwnedTupleGo tg (.ref it) u) Q E s := by
  unfold letOwnedTupleGo
  cases tg <;> first
    | exact wpAny_pure hQ
    | (cases u <;> first
        | exact wpAny_pure hQ
        | (refine wpAny_bind (wpAny_load ho ?_)
           rw [hc, hd]
           show wpAny M A (if (["enumerate", "zip", "dict_itemiterator", "dict_reverseitemiterator", "odict_iterator", "itertools.zip_longest", "itertools.pairwise"].contains n && vs[0]? == some (rawInt _)) = true then _ else _) Q E s
           rw [if_neg (by intro h; rw [hn, Bool.false_and] at h; cases h)]
           exact wpAny_pure hQ))

/-- the list at a, as it stands at each turn (a loop may append to it) -/
def Itl (K : PySem.W.Frag) (a : Addr) : It :=
  ⟨fun i H => ∃ xs x, SqL K H a xs ∧ xs[i]? = some x, fun i H x H' => H' = H ∧ ∀ xs, SqL K H a xs → xs[i]? = some x, fun i H => ∃ xs, SqL K H a xs ∧ xs.length ≤ i⟩
def Itt (K : PySem.W.Frag) (a : Addr) : It :=
  ⟨fun i H => ∃ xs x, SqT K H a xs ∧ xs[i]? = some x, fun i H x H' => H' = H ∧ ∀ xs, SqT K H a xs → xs[i]? = some x, fun i H => ∃ xs, SqT K H a xs ∧ xs.length ≤ i⟩
/-- lo, lo + 1, .. (n of them) -/
def Itr (lo : Int) (n : Nat) : It := ⟨fun i _ => i < n, fun i H x H' => H' = H ∧ x = .int (lo + i), fun i _ => n ≤ i⟩
theorem turn_list {P : Program} {w : World} {K : PySem.W.Frag} {tg : Expr} (a it : Addr) : Turn P w K tg (Itl K a) [it] it (fun i h => h.IsListIter it a i) where
  mem := by simp
  obj := fun i h st b hb => by
    have e : b = it := by simpa using hb
    subst e
    obtain ⟨o, e, c, d⟩ := st
    exact ⟨o, e, fun v z => by rw [d] at z; cases z⟩
  keep := fun i h h' st k => st.at fun o e => k it (by simp) o e
  item := by
    intro X hP hw hK hc i pins s σ H E I hf st hg
    subst hP hw hK
    obtain ⟨xs, x, hq, hx⟩ := hg
    obtain ⟨its, rv, p, hz⟩ := I.list hq
    obtain ⟨u, hu, ru⟩ := rv.get hx
    obtain ⟨f0, f1, f2, f3, f4, f5⟩ := hf it (by simp)
    refine wpAny_pyNext_list_item st p.isList (x := u) (by simpa using hu) fun h' st' sb => ?_
    have I1 : Inv X pins σ H { s with heap := h' } := I.turned (t' := s.toks) (fun b o hb e => (sb.2 b hb).trans e) f0 f1 f3 f4 f5
    obtain ⟨o, e, c, d⟩ := id st'
    exact ⟨u, rfl, go_of (s := { s with heap := h' }) e c d (by decide) ⟨x, H, I1, ru, ⟨rfl, fun ys hy => by rw [I.list_inj hy hq]; exact hx⟩, st', fun b hb => (hf b hb).1⟩⟩
  done := by
    intro X hP hw hK hc i pins s σ H E I hf st hg
    subst hP hw hK
    obtain ⟨xs, hq, hx⟩ := hg
    obtain ⟨its, rv, p, hz⟩ := I.list hq
    obtain ⟨f0, f1, f2, f3, f4, f5⟩ := hf it (by simp)
    have hl := rv.length
    exact wpAny_pyNext_list_end (I.ok.hd hc) st p.isList (by simp; omega) fun h' eb => ⟨rfl, I.turned (t' := s.toks) (fun b o hb e => eb b o hb e) f0 f1 f3 f4 f5⟩
  self := fun _ _ _ _ _ st h => wpAny_pyIter_listiter st h
theorem turn_tuple {P : Program} {w : World} {K : PySem.W.Frag} {tg : Expr} (a it : Addr) : Turn P w K tg (Itt K a) [it] it (fun i h => h.IsTupleIter it a i) where
  mem := by simp
  obj := fun i h st b hb => by
    have e : b = it := by simpa using hb
    subst e
    obtain ⟨o, e, c, d⟩ := st
    exact ⟨o, e, fun v z => by rw [d] at z; cases z⟩
  keep := fun i h h' st k => st.at fun o e => k it (by simp) o e
  item := by
    intro X hP hw hK hc i pins s σ H E I hf st hg
    subst hP hw hK
    obtain ⟨xs, x, hq, hx⟩ := hg
    obtain ⟨its, rv, p, hz⟩ := I.tuple hq
    obtain ⟨u, hu, ru⟩ := rv.get hx
    obtain ⟨f0, f1, f2, f3, f4, f5⟩ := hf it (by simp)
    refine wpAny_pyNext_tuple_item st (show s.heap.IsTuple a its.toArray from p) (x := u) (by simpa using hu) fun h' st' sb => ?_
    have I1 : Inv X pins σ H { s with heap := h' } := I.turned (t' := s.toks) (fun b o hb e => (sb.2 b hb).trans e) f0 f1 f3 f4 f5
    obtain ⟨o, e, c, d⟩ := id st'
    exact ⟨u, rfl, go_of (s := { s with heap := h' }) e c d (by decide) ⟨x, H, I1, ru, ⟨rfl, fun ys hy => by rw [I.tuple_inj hy hq]; exact hx⟩, st', fun b hb => (hf b hb).1⟩⟩
  done := by
    intro X hP hw hK hc i pins s σ H E I hf st hg
    subst hP hw hK
    obtain ⟨xs, hq, hx⟩ := hg
    obtain ⟨its, rv, p, hz⟩ := I.tuple hq
    obtain ⟨f0, f1, f2, f3, f4, f5⟩ := hf it (by simp)
    have hl := rv.length
    exact wpAny_pyNext_tuple_end (I.ok.hd hc) st (show s.heap.IsTuple a its.toArray from p) (by simp; omega) fun h' eb => ⟨rfl, I.turned (t' := s.toks) (fun b o hb e => eb b o hb e) f0 f1 f3 f4 f5⟩
  self := fun _ _ _ _ _ st h => wpAny_pyIter_tupleiter st h
theorem turn_range {P : Program} {w : World} {K : PySem.W.Frag} {tg : Expr} (it : Addr) (lo : Int) (n : Nat) : Turn P w K tg (Itr lo n) [it] it (fun i h => IsRangeIter h it (lo + (i : Nat) * 1) ((n : Int) - (i : Nat)) 1) where
  mem := by simp
  obj := fun i h st b hb => by
    have e : b = it := by simpa using hb
    subst e
    exact ⟨_, st, fun v z => by
      have z' : Data.fields _ = Data.cell v := z
      cases z'⟩
  keep := fun i h h' st k => k it (by simp) _ st
  item := by
    intro X hP hw hK hc i pins s σ H E I hf st hg
    subst hP hw hK
    obtain ⟨f0, f1, f2, f3, f4, f5⟩ := hf it (by simp)
    have W := Walks.range (prog := X.prog) (w := X.w) (I.ok.hd hc) it lo 1 n
    refine W.item i s _ _ hg st fun v h' tk hv st' kk => ?_
    obtain ⟨t, rfl⟩ := hv
    have I1 : Inv X pins σ H { s with heap := h', toks := tk } := I.turned (fun b o hb e => kk b o (by simpa using hb) e) f0 f1 f3 f4 f5
    refine ⟨_, rfl, go_of (s := { s with heap := h', toks := tk }) (n := "range_iterator") st' rfl rfl (by decide) ⟨.int (lo + i), H, I1, ⟨t, ?_⟩, ⟨rfl, rfl⟩, st', fun b hb => (hf b hb).1⟩⟩
    rw [Int.mul_one]
  done := by
    intro X hP hw hK hc i pins s σ H E I hf st hg
    subst hP hw hK
    obtain ⟨f0, f1, f2, f3, f4, f5⟩ := hf it (by simp)
    exact wpAny_pyNext_range_end (I.ok.hd hc) st (by have : n ≤ i := hg; omega) fun h' eb => ⟨rfl, I.turned (t' := s.toks) (fun b o hb e => eb b o hb e) f0 f1 f3 f4 f5⟩
  self := fun _ _ _ _ _ st h => wpAny_pyIter_rangeiter st h
end L2

namespace L2
open PySem PySem.Spec PyProof.Rows
section
variable {X : Cx} {tg : Expr}
def iList (K : PySem.W.Frag) (tl : TE) : TI := fun σ H R => tl σ H fun x H1 => ∃ a, x = .ref a ∧ (∃ xs, SqL K H1 a xs) ∧ R (Itl K a) H1
def iTup (K : PySem.W.Frag) (tl : TE) : TI := fun σ H R => tl σ H fun x H1 => ∃ a, x = .ref a ∧ (∃ xs, SqT K H1 a xs) ∧ R (Itt K a) H1
theorem pi_list {l : Expr} {tl : TE} (hl : PE X l tl) : PI X tg l (iList X.K tl) := by
  intro pins s σ H R I h
  refine thn (hl pins s σ H _ I h) fun v s1 ⟨x, H1, I1, r1, q1⟩ => ?_
  obtain ⟨a, e, ⟨xs, hq⟩, q⟩ := q1
  subst e
  cases r1
  obtain ⟨its, rv, p, hz⟩ := I1.list hq
  refine wpAny_pyIter_list p.isList ?_
  refine ⟨s1.heap.objs.size, [s1.heap.objs.size], _, _, H1, rfl, I1.kept (t' := s1.toks) fun b o e => Heap.get?_push_of_some _ e, turn_list a _, ⟨_, Heap.get?_push_size _ rfl, rfl, rfl⟩, fun b hb => ?_, q⟩
  have e : b = s1.heap.objs.size := by simpa using hb
  subst e
  exact I1.fpOk (Nat.le_refl _) (I1.hok.fresh (Nat.le_refl _))
theorem pi_tup {l : Expr} {tl : TE} (hl : PE X l tl) : PI X tg l (iTup X.K tl) := by
  intro pins s σ H R I h
  refine thn (hl pins s σ H _ I h) fun v s1 ⟨x, H1, I1, r1, q1⟩ => ?_
  obtain ⟨a, e, ⟨xs, hq⟩, q⟩ := q1
  subst e
  cases r1
  obtain ⟨its, rv, p, hz⟩ := I1.tuple hq
  refine wpAny_pyIter_tuple (show s1.heap.IsTuple a its.toArray from p) ?_
  refine ⟨s1.heap.objs.size, [s1.heap.objs.size], _, _, H1, rfl, I1.kept (t' := s1.toks) fun b o e => Heap.get?_push_of_some _ e, turn_tuple a _, ⟨_, Heap.get?_push_size _ rfl, rfl, rfl⟩, fun b hb => ?_, q⟩
  have e : b = s1.heap.objs.size := by simpa using hb
  subst e
  exact I1.fpOk (Nat.le_refl _) (I1.hok.fresh (Nat.le_refl _))
/-- a range object just made, walked -/
theorem range_it {pins : List (Addr × Obj)} {σ : St} {H : Hp} {s : Shared} {R : It → Hp → Prop} {E : Value → Shared → Prop} {lo hi : Int} {t u v : Tok} {tk : Nat} (I : Inv X pins σ H s) (h1 : -(2 ^ 62) ≤ lo) (h2 : lo < 2 ^ 62) (h3 : -(2 ^ 62) ≤ hi) (h4 : hi < 2 ^ 62)
    (q : R (Itr lo (hi - lo).toNat) H) : wpAny (model X.prog X.w) X.A (pyIter (.ref s.heap.objs.size)) (PIE X pins σ tg R) E { s with heap := s.heap.push { cls := .type "range", data := .fields #[.int lo t, .int hi u, .int 1 v] }, toks := tk } := by
  refine wpAny_pyIter_range (IsRange.new ..) (small_one h1 h2 h3 h4) ?_
  have I1 : Inv X pins σ H { s with heap := s.heap.push { cls := .type "range", data := .fields #[.int lo t, .int hi u, .int 1 v] }, toks := tk } := I.kept fun b o e => Heap.get?_push_of_some _ e
  refine ⟨(s.heap.push { cls := .type "range", data := .fields #[.int lo t, .int hi u, .int 1 v] }).objs.size, [(s.heap.push { cls := .type "range", data := .fields #[.int lo t, .int hi u, .int 1 v] }).objs.size], _, _, H, rfl,
    I1.kept (t' := tk) fun b o e => Heap.get?_push_of_some _ e, turn_range _ lo (hi - lo).toNat, ?_, fun b hb => ?_, q⟩
  · have e1 : lo + ((0 : Nat) : Int) * 1 = lo := by simp
    have e2 : (((hi - lo).toNat : Nat) : Int) - ((0 : Nat) : Int) = Builtin.Range.rangeSize lo hi 1 := by rw [rangeSize_one]; split <;> omega
    show IsRangeIter _ _ (lo + ((0 : Nat) : Int) * 1) ((((hi - lo).toNat : Nat) : Int) - ((0 : Nat) : Int)) 1
    rw [e1, e2]
    exact Heap.get?_push_size _ rfl
  · have e : b = (s.heap.push { cls := .type "range", data := .fields #[.int lo t, .int hi u, .int 1 v] }).objs.size := by simpa using hb
    subst e
    exact I1.fpOk (Nat.le_refl _) (I1.hok.fresh (Nat.le_refl _))
def iRng1 (ta : TA) : TI := fun σ H R => ta σ H fun vs H1 => ∃ j : Int, vs = [.int j] ∧ -(2 ^ 62) ≤ j ∧ j < 2 ^ 62 ∧ R (Itr 0 j.toNat) H1
def iRng2 (ta : TA) : TI := fun σ H R => ta σ H fun vs H1 => ∃ i j : Int, vs = [.int i, .int j] ∧ (-(2 ^ 62) ≤ i ∧ i < 2 ^ 62 ∧ -(2 ^ 62) ≤ j ∧ j < 2 ^ 62) ∧ R (Itr i (j - i).toNat) H1
theorem pi_range1 {a : Expr} {ta : TA} {p pos : Pos} (hg : Gl X "range") (hm : X.mg "range" = none) (ha : PA X [a] ta) (hs : starEach [a] X.env = [(false, eval a X.env)] := by rfl) : PI X tg (.Call (.Name "range" p) [a] [] pos) (iRng1 ta) := by
  intro pins s σ H R I h
  refine Call_ (ld_blt I hg hm boot_range (PyProof.Rows.callWith_type1 (thn (ha pos pins s σ H _ I h) fun us s1 ⟨vs, H1, I1, r1, q1⟩ => ?_) hs rfl))
  obtain ⟨j, e, q1, q2, q⟩ := q1
  subst e
  cases r1 with
  | cons r rr =>
    cases rr
    obtain ⟨t, rfl⟩ := r
    exact call_range_1 (range_it I1 (by omega) (by omega) q1 q2 (by simpa using q))
theorem pi_range2 {a b : Expr} {ta : TA} {p pos : Pos} (hg : Gl X "range") (hm : X.mg "range" = none) (ha : PA X [a, b] ta) (hs : starEach [a, b] X.env = [(false, eval a X.env), (false, eval b X.env)] := by rfl) (hs2 : starEach [b] X.env = [(false, eval b X.env)] := by rfl) :
    PI X tg (.Call (.Name "range" p) [a, b] [] pos) (iRng2 ta) := by
  intro pins s σ H R I h
  refine Call_ (ld_blt I hg hm boot_range (PyProof.Rows.callWith_type1 (thn (ha pos pins s σ H _ I h) fun us s1 ⟨vs, H1, I1, r1, q1⟩ => ?_) (by rw [hs, hs2]) (by rw [hs2]; rfl)))
  obtain ⟨i, j, e, ⟨q1, q2, q3, q4⟩, q⟩ := q1
  subst e
  cases r1 with
  | cons r rr =>
    cases rr with
    | cons r' rr =>
      cases rr
      obtain ⟨t, rfl⟩ := r
      obtain ⟨t', rfl⟩ := r'
      exact call_range_2 (range_it I1 q1 q2 q3 q4 q)

/-! ### for -/
/-- W: the invariant by the turn and a measure; N: what the body is to reach -/
def tFor (wi : TI) (g : TG) (tb : TS) : TS := fun D σ H => wi σ H fun J H1 => ∃ W : Nat → Nat → St → Hp → Prop, (∃ m, W 0 m σ H1) ∧ ∀ i m σ H, W i m σ H →
  (J.stop i H ∧ D.nx σ H) ∨ (J.go i H ∧ ∃ N : St → Hp → Prop, (∀ σ' H', N σ' H' → ∃ m', m' < m ∧ W (i + 1) m' σ' H') ∧ ∀ x H', J.yld i H x H' → g x σ H' fun σ2 H2 => tb { D with nx := N, ct := N, bk := D.nx } σ2 H2)
/-- the records at fp as they stand -/
def pinsAt (fp : List Addr) (h : Heap) : List (Addr × Obj) := fp.filterMap fun b => (h.get? b).map fun o => (b, o)
theorem mem_pinsAt {fp : List Addr} {h : Heap} {b : Addr} {o : Obj} (hb : b ∈ fp) (e : h.get? b = some o) : (b, o) ∈ pinsAt fp h := List.mem_filterMap.mpr ⟨b, hb, by rw [e]; rfl⟩
theorem of_pinsAt {fp : List Addr} {h : Heap} {p : Addr × Obj} (hp : p ∈ pinsAt fp h) : p.1 ∈ fp ∧ h.get? p.1 = some p.2 := by
  obtain ⟨b, hb, e⟩ := List.mem_filterMap.mp hp
  cases q : h.get? b with
  | none => rw [q] at e; cases e
  | some o =>
    rw [q] at e
    have e' : (b, o) = p := Option.some.inj e
    subst e'
    exact ⟨hb, q⟩
theorem Inv.pinned {pins : List (Addr × Obj)} {σ : St} {H : Hp} {s : Shared} {fp : List Addr} (I : Inv X pins σ H s) (hf : ∀ b ∈ fp, FpOk X pins H b) (ho : ∀ b ∈ fp, ∃ o, s.heap.get? b = some o ∧ ∀ v, o.data ≠ .cell v) : Inv X (pins ++ pinsAt fp s.heap) σ H s :=
  I.pins_of fun p hp => (List.mem_append.mp hp).elim (fun z => I.pin p (List.mem_append_right _ z)) fun z => by
    obtain ⟨hb, e⟩ := of_pinsAt z
    obtain ⟨f0, f1, f2, _⟩ := hf p.1 hb
    obtain ⟨o, e', d⟩ := ho p.1 hb
    rw [e] at e'; cases e'
    exact ⟨e, f0, f1, f2, d⟩
theorem Inv.unpinned {pins pl : List (Addr × Obj)} {σ : St} {H : Hp} {s : Shared} (I : Inv X (pins ++ pl) σ H s) : Inv X pins σ H s := I.pins_of fun p hp => I.pin p (List.mem_append_right _ (List.mem_append_left _ hp))
theorem ps_for {iter : Expr} {body : List Stmt} {wi : TI} {g : TG} {tb : TS} {pos : Pos} (hp : PassesOwn (model X.prog X.w) X.A X.env X.xe) (hc : X.calm = true) (hi : PI X tg iter wi) (hg : PG X tg g) (hb : PSs X body tb)
    (hs : ∀ x, foldedSetIterable iter X.env x = pure x := by intro _; rfl) : PS X (.For tg iter body [] pos) (tFor wi g tb) := by
  intro pins s σ H D I h
  refine wpAny_For (thn (hi pins s σ H _ I h) fun v s1 h1 => thn h1 fun itv s2 h2 => ?_) hs
  obtain ⟨it, fp, tn, J, H2, e, I2, T, st2, f2, W, ⟨m0, w0⟩, turn⟩ := h2
  subst e
  -- what stays true of the iterator's objects through the loop
  have stat : ∀ {H' : Hp}, (∀ b ∈ fp, H' b = none) → ∀ b ∈ fp, FpOk X pins H' b := fun hn b hb => ⟨hn b hb, (f2 b hb).2⟩
  refine codeAny_forLoop_any (fun n s' => ∃ i σ' H', Inv X pins σ' H' s' ∧ tn i s'.heap ∧ (∀ b ∈ fp, H' b = none) ∧ W i n σ' H') ?_ m0 ⟨0, σ, H2, I2, st2, fun b hb => (f2 b hb).1, w0⟩
  rintro n s3 ⟨i, σ3, H3, I3, st3, fr3, w3⟩
  rcases turn i n σ3 H3 w3 with ⟨stop, qn⟩ | ⟨go, N, hN, step⟩
  · refine wpAny_passesOwn hp (thn (T.done X rfl rfl rfl hc i pins s3 σ3 H3 X.xe I3 (stat fr3) st3 stop) fun r s4 ⟨hr, I4⟩ => ?_)
    subst hr
    exact wpAny_execs_nil ⟨σ3, H3, I4, qn⟩
  · refine wpAny_passesOwn hp (thn (T.item X rfl rfl rfl hc i pins s3 σ3 H3 X.xe I3 (stat fr3) st3 go) fun r s4 ⟨u, hr, h4⟩ => ?_)
    subst hr
    refine wpAny_passesOwn hp (thn h4 fun _ s5 ⟨x, H5, I5, r5, y5, st5, fr5⟩ => ?_)
    have I5' := I5.pinned (stat fr5) (T.obj _ _ st5)
    refine wpAny_passesOwn hp (thn (hg _ s5 σ3 H5 x u _ I5' r5 (step x H5 y5)) fun _ s6 ⟨σ6, H6, I6, q6⟩ => ?_)
    refine wpAny_passesOwn hp (thn (hb _ s6 σ6 H6 _ I6 q6) fun f s7 q7 => ?_)
    have again : ∀ {σ7 : St} {H7 : Hp}, Inv X (pins ++ pinsAt fp s5.heap) σ7 H7 s7 → N σ7 H7 → ∃ m, m < n ∧ ∃ i σ' H', Inv X pins σ' H' s7 ∧ tn i s7.heap ∧ (∀ b ∈ fp, H' b = none) ∧ W i m σ' H' := fun {σ7 H7} I7 n7 => by
      obtain ⟨m', hm, w7⟩ := hN σ7 H7 n7
      refine ⟨m', hm, i + 1, σ7, H7, I7.unpinned, T.keep _ _ _ st5 fun b hb o e => (I7.pin (b, o) (List.mem_append_right _ (List.mem_append_right _ (mem_pinsAt hb e)))).1, fun b hb => ?_, w7⟩
      obtain ⟨o, e, d⟩ := T.obj _ _ st5 b hb
      exact (I7.pin (b, o) (List.mem_append_right _ (List.mem_append_right _ (mem_pinsAt hb e)))).2.1
    cases f with
    | next => obtain ⟨σ7, H7, I7, n7⟩ := q7; exact again I7 n7
    | cont => obtain ⟨σ7, H7, I7, n7⟩ := q7; exact again I7 n7
    | brk => obtain ⟨σ7, H7, I7, q7⟩ := q7; exact ⟨σ7, H7, I7.unpinned, q7⟩
    | ret v => obtain ⟨x7, σ7, H7, I7, r7, q7⟩ := q7; exact ⟨x7, σ7, H7, I7.unpinned, r7, q7⟩
end

/-! ### the forms one uses -/
/-- over a list that the body leaves as it is -/
theorem for_list {K : PySem.W.Frag} {a : Addr} {xs : List V} {g : TG} {tb : TS} {D : Ends} {σ : St} {H : Hp} (Pv : Nat → St → Hp → Prop) (h0 : Pv 0 σ H) (hl : ∀ i σ H, i ≤ xs.length → Pv i σ H → SqL K H a xs)
    (hs : ∀ i x σ H, xs[i]? = some x → Pv i σ H → g x σ H fun σ2 H2 => tb { D with nx := Pv (i + 1), ct := Pv (i + 1), bk := D.nx } σ2 H2) (hd : ∀ σ H, Pv xs.length σ H → D.nx σ H) :
    ∃ W : Nat → Nat → St → Hp → Prop, (∃ m, W 0 m σ H) ∧ ∀ i m σ H, W i m σ H →
      ((Itl K a).stop i H ∧ D.nx σ H) ∨ ((Itl K a).go i H ∧ ∃ N : St → Hp → Prop, (∀ σ' H', N σ' H' → ∃ m', m' < m ∧ W (i + 1) m' σ' H') ∧ ∀ x H', (Itl K a).yld i H x H' → g x σ H' fun σ2 H2 => tb { D with nx := N, ct := N, bk := D.nx } σ2 H2) := by
  refine ⟨fun i m σ H => m = xs.length - i ∧ i ≤ xs.length ∧ Pv i σ H, ⟨xs.length, by simp, Nat.zero_le _, h0⟩, ?_⟩
  rintro i m σ H ⟨rfl, hi, p⟩
  have q := hl i σ H hi p
  by_cases hlt : i < xs.length
  · refine .inr ⟨⟨xs, xs[i], q, by simp [hlt]⟩, Pv (i + 1), fun σ' H' p' => ⟨xs.length - (i + 1), by omega, rfl, hlt, p'⟩, fun x H' y => ?_⟩
    obtain ⟨e, y⟩ := y
    subst e
    exact hs i x σ _ (y xs q) p
  · have e : i = xs.length := by omega
    subst e
    exact .inl ⟨⟨xs, q, Nat.le_refl _⟩, hd σ H p⟩
theorem for_tup {K : PySem.W.Frag} {a : Addr} {xs : List V} {g : TG} {tb : TS} {D : Ends} {σ : St} {H : Hp} (Pv : Nat → St → Hp → Prop) (h0 : Pv 0 σ H) (hl : ∀ i σ H, i ≤ xs.length → Pv i σ H → SqT K H a xs)
    (hs : ∀ i x σ H, xs[i]? = some x → Pv i σ H → g x σ H fun σ2 H2 => tb { D with nx := Pv (i + 1), ct := Pv (i + 1), bk := D.nx } σ2 H2) (hd : ∀ σ H, Pv xs.length σ H → D.nx σ H) :
    ∃ W : Nat → Nat → St → Hp → Prop, (∃ m, W 0 m σ H) ∧ ∀ i m σ H, W i m σ H →
      ((Itt K a).stop i H ∧ D.nx σ H) ∨ ((Itt K a).go i H ∧ ∃ N : St → Hp → Prop, (∀ σ' H', N σ' H' → ∃ m', m' < m ∧ W (i + 1) m' σ' H') ∧ ∀ x H', (Itt K a).yld i H x H' → g x σ H' fun σ2 H2 => tb { D with nx := N, ct := N, bk := D.nx } σ2 H2) := by
  refine ⟨fun i m σ H => m = xs.length - i ∧ i ≤ xs.length ∧ Pv i σ H, ⟨xs.length, by simp, Nat.zero_le _, h0⟩, ?_⟩
  rintro i m σ H ⟨rfl, hi, p⟩
  have q := hl i σ H hi p
  by_cases hlt : i < xs.length
  · refine .inr ⟨⟨xs, xs[i], q, by simp [hlt]⟩, Pv (i + 1), fun σ' H' p' => ⟨xs.length - (i + 1), by omega, rfl, hlt, p'⟩, fun x H' y => ?_⟩
    obtain ⟨e, y⟩ := y
    subst e
    exact hs i x σ _ (y xs q) p
  · have e : i = xs.length := by omega
    subst e
    exact .inl ⟨⟨xs, q, Nat.le_refl _⟩, hd σ H p⟩
theorem for_range {lo : Int} {n : Nat} {g : TG} {tb : TS} {D : Ends} {σ : St} {H : Hp} (Pv : Nat → St → Hp → Prop) (h0 : Pv 0 σ H)
    (hs : ∀ i σ H, i < n → Pv i σ H → g (.int (lo + i)) σ H fun σ2 H2 => tb { D with nx := Pv (i + 1), ct := Pv (i + 1), bk := D.nx } σ2 H2) (hd : ∀ σ H, Pv n σ H → D.nx σ H) :
    ∃ W : Nat → Nat → St → Hp → Prop, (∃ m, W 0 m σ H) ∧ ∀ i m σ H, W i m σ H →
      ((Itr lo n).stop i H ∧ D.nx σ H) ∨ ((Itr lo n).go i H ∧ ∃ N : St → Hp → Prop, (∀ σ' H', N σ' H' → ∃ m', m' < m ∧ W (i + 1) m' σ' H') ∧ ∀ x H', (Itr lo n).yld i H x H' → g x σ H' fun σ2 H2 => tb { D with nx := N, ct := N, bk := D.nx } σ2 H2) := by
  refine ⟨fun i m σ H => m = n - i ∧ i ≤ n ∧ Pv i σ H, ⟨n, by simp, Nat.zero_le _, h0⟩, ?_⟩
  rintro i m σ H ⟨rfl, hi, p⟩
  by_cases hlt : i < n
  · refine .inr ⟨hlt, Pv (i + 1), fun σ' H' p' => ⟨n - (i + 1), by omega, rfl, hlt, p'⟩, fun x H' y => ?_⟩
    obtain ⟨e, y⟩ := y
    subst e y
    exact hs i σ _ hlt p
  · have e : i = n := by omega
    subst e
    exact .inl ⟨Nat.le_refl _, hd σ H p⟩
/-- while, by a word and a measure of the state -/
theorem while_by {c : TT} {tb : TS} {D : Ends} {σ : St} {H : Hp} (Pv : St → Hp → Prop) (μ : St → Hp → Nat) (h0 : Pv σ H)
    (hs : ∀ σ H, Pv σ H → c σ H fun b H1 => if b = true then tb { D with nx := fun σ' H' => Pv σ' H' ∧ μ σ' H' < μ σ H, ct := fun σ' H' => Pv σ' H' ∧ μ σ' H' < μ σ H, bk := D.nx } σ H1 else D.nx σ H1)
    (mono : ∀ σ H Q Q', (∀ b H1, Q b H1 → Q' b H1) → c σ H Q → c σ H Q') : tWhile c tb D σ H := by
  refine ⟨fun m σ H => m = μ σ H ∧ Pv σ H, ⟨_, rfl, h0⟩, ?_⟩
  rintro m σ H ⟨rfl, p⟩
  refine mono σ H _ _ (fun b H1 q => ?_) (hs σ H p)
  cases b with
  | true => exact ⟨_, fun σ' H' ⟨p', l⟩ => ⟨_, l, rfl, p'⟩, q⟩
  | false => exact q
end L2

namespace L2
open PySem PySem.Spec PyProof.Rows

abbrev R2 := V → V → Hp → VK → Prop
/-- a two-place operation on values: f is binaryOp op, inplaceOp op or compareOp op -/
def OpR (X : Cx) (f : Value → Value → Sem Value) (r : R2) : Prop :=
  ∀ (pins : List (Addr × Obj)) (s : Shared) (σ : St) (H : Hp) (x y : V) (v u : Value) (Q : VK), Inv X pins σ H s → RelV x v → RelV y u → r x y H Q →
    wpAny (model X.prog X.w) X.A (f v u) (EP X pins σ Q) X.xe s
/-- a one-place operation -/
def UnR (X : Cx) (f : Value → Sem Value) (r : V → Hp → VK → Prop) : Prop :=
  ∀ (pins : List (Addr × Obj)) (s : Shared) (σ : St) (H : Hp) (x : V) (v : Value) (Q : VK), Inv X pins σ H s → RelV x v → r x H Q →
    wpAny (model X.prog X.w) X.A (f v) (EP X pins σ Q) X.xe s
/-- a call of a value that is known (a builtin, a type) with values -/
def CallR (X : Cx) (f : Value) (r : List V → Hp → VK → Prop) : Prop :=
  ∀ (pins : List (Addr × Obj)) (s : Shared) (σ : St) (H : Hp) (xs : List V) (us : List Value) (Q : VK), Inv X pins σ H s → Vals xs us → r xs H Q →
    wpAny (model X.prog X.w) X.A (call f us) (EP X pins σ Q) X.xe s
/-- a value's truth -/
def TruR (X : Cx) (r : V → Hp → (Bool → Hp → Prop) → Prop) : Prop :=
  ∀ (pins : List (Addr × Obj)) (s : Shared) (σ : St) (H : Hp) (x : V) (v : Value) (Q : Bool → Hp → Prop), Inv X pins σ H s → RelV x v → r x H Q →
    wpAny (model X.prog X.w) X.A (truthy v) (TP X pins σ Q) X.xe s

def tOp (r : R2) (ta tb : TE) : TE := fun σ H Q => ta σ H fun x H1 => tb σ H1 fun y H2 => r x y H2 Q
def tUn (r : V → Hp → VK → Prop) (ta : TE) : TE := fun σ H Q => ta σ H fun x H1 => r x H1 Q
/-- ints in, under C, and a value out -/
def rI (C : Int → Int → Prop) (g : Int → Int → V) : R2 := fun x y H Q => ∃ i j, x = .int i ∧ y = .int j ∧ C i j ∧ Q (g i j) H
def rI0 (g : Int → Int → V) : R2 := fun x y H Q => ∃ i j, x = .int i ∧ y = .int j ∧ Q (g i j) H
def rU (g : Int → V) : V → Hp → VK → Prop := fun x H Q => ∃ i, x = .int i ∧ Q (g i) H

section
variable {X : Cx} {a b c : Expr} {ta tb tc : TE} {pos : Pos}

theorem binT (ha : PE X a ta) (hb : PE X b tb) {pins : List (Addr × Obj)} {s : Shared} {σ : St} {H : Hp} {R : V → V → Hp → Prop} (I : Inv X pins σ H s)
    (h : ta σ H fun x H1 => tb σ H1 fun y H2 => R x y H2) {Q : Value → Shared → Prop} {f : Value → Value → Sem Value}
    (hf : ∀ v u s2 x y H2, Inv X pins σ H2 s2 → RelV x v → RelV y u → R x y H2 → wpAny (model X.prog X.w) X.A (f v u) Q X.xe s2) :
    wpAny (model X.prog X.w) X.A (eval a X.env) (fun v s₁ => wpAny (model X.prog X.w) X.A (eval b X.env) (fun u s₂ => wpAny (model X.prog X.w) X.A (f v u) Q X.xe s₂) X.xe s₁) X.xe s := by
  refine thn (ha pins s σ H _ I h) fun v s1 ⟨x, H1, I1, r1, q1⟩ => ?_
  refine thn (hb pins s1 σ H1 _ I1 q1) fun u s2 ⟨y, H2, I2, r2, q2⟩ => ?_
  exact hf v u s2 x y H2 I2 r1 r2 q2

theorem pe_op {op : Operator} {r : R2} (ho : OpR X (binaryOp op) r) (ha : PE X a ta) (hb : PE X b tb) : PE X (.BinOp a op b pos) (tOp r ta tb) := by
  intro pins s σ H Q I h
  exact wpAny_BinOp (binT ha hb I h fun v u s2 x y H2 I2 rx ry q => ho pins s2 σ H2 x y v u Q I2 rx ry q)
theorem pe_un {op : UnaryOp} {r : V → Hp → VK → Prop} (ho : UnR X (unaryOp op) r) (ha : PE X a ta) : PE X (.UnaryOp op a pos) (tUn r ta) := by
  intro pins s σ H Q I h
  exact UnaryOp_ (thn (ha pins s σ H _ I h) fun v s1 ⟨x, H1, I1, r1, q1⟩ => ho pins s1 σ H1 x v Q I1 r1 q1)
/-- a op= e at a name: the name's slot i -/
theorem augR {op : Operator} {r : R2} (ho : OpR X (inplaceOp op) r) {pins : List (Addr × Obj)} {s : Shared} {σ : St} {H : Hp} {x y : V} {v u : Value} {Q : VK} (I : Inv X pins σ H s)
    (rx : RelV x v) (ry : RelV y u) (q : r x y H Q) : wpAny (model X.prog X.w) X.A (inplaceOp op v u) (EP X pins σ Q) X.xe s := ho pins s σ H x y v u Q I rx ry q

/-! ### ints -/
theorem opI {f : Value → Value → Sem Value} {C : Int → Int → Prop} {g : Int → Int → Int}
    (rule : ∀ (i j : Int) (t u : Tok) (s : Shared) (Q : Value → Shared → Prop) (E : Value → Shared → Prop), C i j → Q (.int (g i j) s.toks) { s with toks := s.toks + 1 } → wpAny (model X.prog X.w) X.A (f (.int i t) (.int j u)) Q E s) :
    OpR X f (rI C fun i j => .int (g i j)) := by
  intro pins s σ H x y v u Q I rx ry h
  obtain ⟨i, j, rfl, rfl, hc, q⟩ := h
  obtain ⟨t, rfl⟩ := rx
  obtain ⟨t', rfl⟩ := ry
  exact rule i j t t' s _ _ hc ⟨.int (g i j), H, I.tok _, ⟨_, rfl⟩, q⟩
theorem opI0 {f : Value → Value → Sem Value} {g : Int → Int → Int}
    (rule : ∀ (i j : Int) (t u : Tok) (s : Shared) (Q : Value → Shared → Prop) (E : Value → Shared → Prop), Q (.int (g i j) s.toks) { s with toks := s.toks + 1 } → wpAny (model X.prog X.w) X.A (f (.int i t) (.int j u)) Q E s) :
    OpR X f (rI0 fun i j => .int (g i j)) := by
  intro pins s σ H x y v u Q I rx ry h
  obtain ⟨i, j, rfl, rfl, q⟩ := h
  obtain ⟨t, rfl⟩ := rx
  obtain ⟨t', rfl⟩ := ry
  exact rule i j t t' s _ _ ⟨.int (g i j), H, I.tok _, ⟨_, rfl⟩, q⟩
theorem opB0 {f : Value → Value → Sem Value} {g : Int → Int → Bool}
    (rule : ∀ (i j : Int) (t u : Tok) (s : Shared) (Q : Value → Shared → Prop) (E : Value → Shared → Prop), Q (.bool (g i j)) s → wpAny (model X.prog X.w) X.A (f (.int i t) (.int j u)) Q E s) :
    OpR X f (rI0 fun i j => .bl (g i j)) := by
  intro pins s σ H x y v u Q I rx ry h
  obtain ⟨i, j, rfl, rfl, q⟩ := h
  obtain ⟨t, rfl⟩ := rx
  obtain ⟨t', rfl⟩ := ry
  exact rule i j t t' s _ _ ⟨.bl (g i j), H, I, rfl, q⟩

def CDiv (i j : Int) : Prop := 0 < j ∧ j < 1073741824
def CDivN (i j : Int) : Prop := j ≠ 0 ∧ j.natAbs < 1073741824
def CPow (i j : Int) : Prop := 0 ≤ j ∧ j ≤ 1000000 ∧ i.natAbs < 2 ^ 64
def CMul (i j : Int) : Prop := (-(2 ^ 64) < i ∧ i < 2 ^ 64) ∨ (-(2 ^ 64) < j ∧ j < 2 ^ 64)
theorem CMul.ok {i j : Int} (h : CMul i j) : IntMulOk i j := by
  rcases h with ⟨h1, h2⟩ | ⟨h1, h2⟩
  · exact .of_left (intBits_le_64 h1 h2)
  · exact .of_right (intBits_le_64 h1 h2)
theorem two_pow_nn (k : Nat) : (0 : Int) ≤ 2 ^ k := by
  rw [two_pow_cast]
  exact Int.natCast_nonneg _

theorem op_add : OpR X (binaryOp .Add) (rI0 fun i j => .int (i + j)) := opI0 fun _ _ _ _ _ _ _ q => add_int q
theorem op_sub : OpR X (binaryOp .Sub) (rI0 fun i j => .int (i - j)) := opI0 fun _ _ _ _ _ _ _ q => sub_int q
theorem op_mul : OpR X (binaryOp .Mult) (rI CMul fun i j => .int (i * j)) := opI fun _ _ _ _ _ _ _ hc q => mul_int q hc.ok
/-- // by a positive divisor -/
theorem op_fdiv : OpR X (binaryOp .FloorDiv) (rI CDiv fun i j => .int (i / j)) := opI fun i j _ _ _ _ _ hc q => by
  have h1 : (0 : Int) < j := hc.1
  have h2 : j < 1073741824 := hc.2
  exact floordiv_int (by omega) (by rw [Int.fdiv_eq_ediv_of_nonneg i (by omega)]; exact q) (.inl (PyProof.noPylong_small (by omega)))
theorem op_fdivN : OpR X (binaryOp .FloorDiv) (rI CDivN fun i j => .int (i.fdiv j)) := opI fun _ _ _ _ _ _ _ hc q => floordiv_int hc.1 q (.inl (PyProof.noPylong_small hc.2))
/-- % by a positive divisor of any size -/
theorem op_mod : OpR X (binaryOp .Mod) (rI (fun _ j => 0 < j) fun i j => .int (i % j)) := opI fun i j _ _ _ _ _ hc q => by
  have h1 : (0 : Int) < j := hc
  exact mod_int' (by omega) (by rw [Int.fmod_eq_emod_of_nonneg i (by omega)]; exact q)
theorem op_modN : OpR X (binaryOp .Mod) (rI (fun _ j => j ≠ 0) fun i j => .int (i.fmod j)) := opI fun _ _ _ _ _ _ _ hc q => mod_int' hc q
theorem op_pow : OpR X (binaryOp .Pow) (rI CPow fun i j => .int (i ^ j.toNat)) := opI fun _ _ _ _ _ _ _ hc q => pow_int_small hc.1 hc.2.1 hc.2.2 q
theorem op_shl : OpR X (binaryOp .LShift) (rI CPow fun i j => .int (i * 2 ^ j.toNat)) := opI fun _ _ _ _ _ _ _ hc q => lshift_int_small hc.1 hc.2.1 hc.2.2 q
theorem op_shr : OpR X (binaryOp .RShift) (rI (fun _ j => 0 ≤ j) fun i j => .int (i / 2 ^ j.toNat)) := opI fun i j _ _ _ _ _ hc q =>
  rshift_int hc (by rw [Int.fdiv_eq_ediv_of_nonneg i (two_pow_nn _)]; exact q)
theorem op_and : OpR X (binaryOp .BitAnd) (rI0 fun i j => .int (Builtin.bitAnd i j)) := opI0 fun _ _ _ _ _ _ _ q => and_int q
theorem op_or : OpR X (binaryOp .BitOr) (rI0 fun i j => .int (Builtin.bitOr i j)) := opI0 fun _ _ _ _ _ _ _ q => or_int q
theorem op_xor : OpR X (binaryOp .BitXor) (rI0 fun i j => .int (Builtin.bitXor i j)) := opI0 fun _ _ _ _ _ _ _ q => xor_int q

theorem iop_add : OpR X (inplaceOp .Add) (rI0 fun i j => .int (i + j)) := opI0 fun _ _ _ _ _ _ _ q => iadd_int q
theorem iop_sub : OpR X (inplaceOp .Sub) (rI0 fun i j => .int (i - j)) := opI0 fun _ _ _ _ _ _ _ q => isub_int q
theorem iop_mul : OpR X (inplaceOp .Mult) (rI CMul fun i j => .int (i * j)) := opI fun _ _ _ _ _ _ _ hc q => imul_int q hc.ok
theorem iop_fdiv : OpR X (inplaceOp .FloorDiv) (rI CDiv fun i j => .int (i / j)) := opI fun i j _ _ _ _ _ hc q => by
  have h1 : (0 : Int) < j := hc.1
  have h2 : j < 1073741824 := hc.2
  exact ifloordiv_int (by omega) (by rw [Int.fdiv_eq_ediv_of_nonneg i (by omega)]; exact q) (.inl (PyProof.noPylong_small (by omega)))
theorem iop_mod : OpR X (inplaceOp .Mod) (rI (fun _ j => 0 < j) fun i j => .int (i % j)) := opI fun i j _ _ _ _ _ hc q => by
  have h1 : (0 : Int) < j := hc
  exact imod_int (by omega) (by rw [Int.fmod_eq_emod_of_nonneg i (by omega)]; exact q)
theorem iop_shl : OpR X (inplaceOp .LShift) (rI CPow fun i j => .int (i * 2 ^ j.toNat)) := opI fun _ _ _ _ _ _ _ hc q => ilshift_int_small hc.1 hc.2.1 hc.2.2 q
theorem iop_shr : OpR X (inplaceOp .RShift) (rI (fun _ j => 0 ≤ j) fun i j => .int (i / 2 ^ j.toNat)) := opI fun i j _ _ _ _ _ hc q =>
  irshift_int hc (by rw [Int.fdiv_eq_ediv_of_nonneg i (two_pow_nn _)]; exact q)
theorem iop_and : OpR X (inplaceOp .BitAnd) (rI0 fun i j => .int (Builtin.bitAnd i j)) := opI0 fun _ _ _ _ _ _ _ q => iand_int q
theorem iop_or : OpR X (inplaceOp .BitOr) (rI0 fun i j => .int (Builtin.bitOr i j)) := opI0 fun _ _ _ _ _ _ _ q => ior_int q
theorem iop_xor : OpR X (inplaceOp .BitXor) (rI0 fun i j => .int (Builtin.bitXor i j)) := opI0 fun _ _ _ _ _ _ _ q => ixor_int q

theorem unI {f : Value → Sem Value} {g : Int → Int}
    (rule : ∀ (i : Int) (t : Tok) (s : Shared) (Q : Value → Shared → Prop) (E : Value → Shared → Prop), Q (.int (g i) s.toks) { s with toks := s.toks + 1 } → wpAny (model X.prog X.w) X.A (f (.int i t)) Q E s) :
    UnR X f (rU fun i => .int (g i)) := by
  intro pins s σ H x v Q I rx h
  obtain ⟨i, rfl, q⟩ := h
  obtain ⟨t, rfl⟩ := rx
  exact rule i t s _ _ ⟨.int (g i), H, I.tok _, ⟨_, rfl⟩, q⟩
theorem un_neg : UnR X (unaryOp .USub) (rU fun i => .int (-i)) := unI fun _ _ _ _ _ q => neg_int q
theorem un_inv : UnR X (unaryOp .Invert) (rU fun i => .int (Builtin.bitNot i)) := unI fun _ _ _ _ _ q => invert_int q

/-! ### bools among ints: n += (a < b) -/
theorem op_add_ib : OpR X (binaryOp .Add) (fun x y H Q => ∃ i k, x = .int i ∧ y = .bl k ∧ Q (.int (i + b2i k)) H) := by
  intro pins s σ H x y v u Q I rx ry h
  obtain ⟨i, k, rfl, rfl, q⟩ := h
  obtain ⟨t, rfl⟩ := rx
  cases ry
  exact add_int_bool ⟨.int (i + b2i k), H, I.tok _, ⟨_, rfl⟩, q⟩
end

/-! ### comparisons -/
/-- the scalars that == tells apart as data does -/
def scal : V → V → Bool
  | .non, .non => true | .non, .int _ => true | .int _, .non => true | .non, .bl _ => true | .bl _, .non => true | .non, .str _ => true | .str _, .non => true
  | .int _, .int _ => true | .bl _, .bl _ => true | .str _, .str _ => true | .byt _, .byt _ => true
  | .int _, .str _ => true | .str _, .int _ => true | .bl _, .str _ => true | .str _, .bl _ => true
  | _, _ => false
def rEq : R2 := fun x y H Q => scal x y = true ∧ Q (.bl (decide (x = y))) H
def rNe : R2 := fun x y H Q => scal x y = true ∧ Q (.bl (!decide (x = y))) H

theorem dec_int {i j : Int} : decide (V.int i = V.int j) = (i == j) := by
  rw [Bool.eq_iff_iff]
  simp
theorem dec_bl {i j : Bool} : decide (V.bl i = V.bl j) = (i == j) := by
  rw [Bool.eq_iff_iff]
  simp
theorem dec_str {i j : Str} : decide (V.str i = V.str j) = (i == j) := by
  rw [Bool.eq_iff_iff]
  simp
theorem dec_byt {i j : Array UInt8} : decide (V.byt i = V.byt j) = (i.toList == j.toList) := by
  rw [Bool.eq_iff_iff]
  cases i
  cases j
  simp

section
variable {X : Cx} {a b c : Expr} {ta tb tc : TE} {pos : Pos}
theorem fin_bl {pins : List (Addr × Obj)} {σ : St} {H : Hp} {s : Shared} {Q : VK} {k k' : Bool} (I : Inv X pins σ H s) (q : Q (.bl k) H) (e : k = k') : EP X pins σ Q (.bool k') s := by
  subst e
  exact ⟨.bl k, H, I, rfl, q⟩
theorem op_eq : OpR X (compareOp .Eq) rEq := by
  intro pins s σ H x y v u Q I rx ry h
  obtain ⟨hs, q⟩ := h
  cases x with
  | non =>
    cases rx
    cases y with
    | non => cases ry; exact PySem.EqNone.eq_none_none (fin_bl I q (by simp))
    | bl j => cases ry; exact PySem.EqNone.eq_none_bool (fin_bl I q (by simp))
    | int j => obtain ⟨t', rfl⟩ := ry; exact PySem.EqNone.eq_none_int (fin_bl I q (by simp))
    | str j => obtain ⟨t', rfl⟩ := ry; exact PySem.EqNone.eq_none_str (fin_bl I q (by simp))
    | _ => exact absurd (show false = true from hs) Bool.false_ne_true
  | bl i =>
    cases rx
    cases y with
    | non => cases ry; exact PySem.EqNone.eq_bool_none (fin_bl I q (by simp))
    | bl j => cases ry; exact eq_bool (fin_bl I q dec_bl)
    | str j => obtain ⟨t', rfl⟩ := ry; exact PySem.EqMixed.eq_bool_str (fin_bl I q (by simp))
    | _ => exact absurd (show false = true from hs) Bool.false_ne_true
  | int i =>
    obtain ⟨t, rfl⟩ := rx
    cases y with
    | non => cases ry; exact PySem.EqNone.eq_int_none (fin_bl I q (by simp))
    | int j => obtain ⟨t', rfl⟩ := ry; exact eq_int (fin_bl I q dec_int)
    | str j => obtain ⟨t', rfl⟩ := ry; exact PySem.EqMixed.eq_int_str (fin_bl I q (by simp))
    | _ => exact absurd (show false = true from hs) Bool.false_ne_true
  | str i =>
    obtain ⟨t, rfl⟩ := rx
    cases y with
    | non => cases ry; exact PySem.EqNone.eq_str_none (fin_bl I q (by simp))
    | bl j => cases ry; exact PySem.EqMixed.eq_str_bool (fin_bl I q (by simp))
    | int j => obtain ⟨t', rfl⟩ := ry; exact PySem.EqMixed.eq_str_int (fin_bl I q (by simp))
    | str j => obtain ⟨t', rfl⟩ := ry; exact eq_str (fin_bl I q dec_str)
    | _ => exact absurd (show false = true from hs) Bool.false_ne_true
  | byt i =>
    obtain ⟨t, rfl⟩ := rx
    cases y with
    | byt j => obtain ⟨t', rfl⟩ := ry; exact PySem.W.eq_bytes (fin_bl I q dec_byt)
    | _ => exact absurd (show false = true from hs) Bool.false_ne_true
  | _ => cases y <;> exact absurd (show false = true from hs) Bool.false_ne_true
theorem op_ne : OpR X (compareOp .NotEq) rNe := by
  intro pins s σ H x y v u Q I rx ry h
  obtain ⟨hs, q⟩ := h
  cases x with
  | non =>
    cases rx
    cases y with
    | non => cases ry; exact PySem.EqNone.ne_none_none (fin_bl I q (by simp))
    | bl j => cases ry; exact PySem.EqNone.ne_none_bool (fin_bl I q (by simp))
    | int j => obtain ⟨t', rfl⟩ := ry; exact PySem.EqNone.ne_none_int (fin_bl I q (by simp))
    | str j => obtain ⟨t', rfl⟩ := ry; exact PySem.EqNone.ne_none_str (fin_bl I q (by simp))
    | _ => exact absurd (show false = true from hs) Bool.false_ne_true
  | bl i =>
    cases rx
    cases y with
    | non => cases ry; exact PySem.EqNone.ne_bool_none (fin_bl I q (by simp))
    | bl j => cases ry; exact ne_bool (fin_bl I q (congrArg not dec_bl))
    | str j => obtain ⟨t', rfl⟩ := ry; exact PySem.EqMixed.ne_bool_str (fin_bl I q (by simp))
    | _ => exact absurd (show false = true from hs) Bool.false_ne_true
  | int i =>
    obtain ⟨t, rfl⟩ := rx
    cases y with
    | non => cases ry; exact PySem.EqNone.ne_int_none (fin_bl I q (by simp))
    | int j => obtain ⟨t', rfl⟩ := ry; exact ne_int (fin_bl I q (congrArg not dec_int))
    | str j => obtain ⟨t', rfl⟩ := ry; exact PySem.EqMixed.ne_int_str (fin_bl I q (by simp))
    | _ => exact absurd (show false = true from hs) Bool.false_ne_true
  | str i =>
    obtain ⟨t, rfl⟩ := rx
    cases y with
    | non => cases ry; exact PySem.EqNone.ne_str_none (fin_bl I q (by simp))
    | bl j => cases ry; exact PySem.EqMixed.ne_str_bool (fin_bl I q (by simp))
    | int j => obtain ⟨t', rfl⟩ := ry; exact PySem.EqMixed.ne_str_int (fin_bl I q (by simp))
    | str j => obtain ⟨t', rfl⟩ := ry; exact ne_str (fin_bl I q (congrArg not dec_str))
    | _ => exact absurd (show false = true from hs) Bool.false_ne_true
  | byt i =>
    obtain ⟨t, rfl⟩ := rx
    cases y with
    | byt j => obtain ⟨t', rfl⟩ := ry; exact PySem.W.ne_bytes (fin_bl I q (congrArg not dec_byt))
    | _ => exact absurd (show false = true from hs) Bool.false_ne_true
  | _ => cases y <;> exact absurd (show false = true from hs) Bool.false_ne_true

theorem op_lt : OpR X (compareOp .Lt) (rI0 fun i j => .bl (decide (i < j))) := opB0 fun _ _ _ _ _ _ _ q => lt_int q
theorem op_le : OpR X (compareOp .LtE) (rI0 fun i j => .bl (decide (i ≤ j))) := opB0 fun _ _ _ _ _ _ _ q => le_int q
theorem op_gt : OpR X (compareOp .Gt) (rI0 fun i j => .bl (decide (j < i))) := opB0 fun _ _ _ _ _ _ _ q => gt_int q
theorem op_ge : OpR X (compareOp .GtE) (rI0 fun i j => .bl (decide (j ≤ i))) := opB0 fun _ _ _ _ _ _ _ q => ge_int q
theorem op_lt_str : OpR X (compareOp .Lt) (fun x y H Q => ∃ i j, x = .str i ∧ y = .str j ∧ Q (.bl (decide (i.cps.toList < j.cps.toList))) H) := by
  intro pins s σ H x y v u Q I rx ry h
  obtain ⟨i, j, rfl, rfl, q⟩ := h
  obtain ⟨t, rfl⟩ := rx
  obtain ⟨t', rfl⟩ := ry
  exact lt_str (fin_bl I q rfl)
/-- the one string within the other -/
theorem op_in_str : OpR X (compareOp .In) (fun x y H Q => ∃ i j, x = .str i ∧ y = .str j ∧ Q (.bl (!(Builtin.Str.occurrences j i 0 j.length 1).isEmpty)) H) := by
  intro pins s σ H x y v u Q I rx ry h
  obtain ⟨i, j, rfl, rfl, q⟩ := h
  obtain ⟨t, rfl⟩ := rx
  obtain ⟨t', rfl⟩ := ry
  exact in_str (fin_bl I q rfl)

/-- is None, is not None: the right side a value none -/
theorem op_isN : OpR X (compareOp .Is) (fun x y H Q => y = .non ∧ Q (.bl (decide (x = .non))) H) := by
  intro pins s σ H x y v u Q I rx ry h
  obtain ⟨rfl, q⟩ := h
  cases ry
  refine is_none_gen (fin_bl I q ?_)
  cases x <;> first
    | (cases rx; rfl)
    | (obtain ⟨t, rfl⟩ := rx; rfl)
theorem op_notN : OpR X (compareOp .IsNot) (fun x y H Q => y = .non ∧ Q (.bl (!decide (x = .non))) H) := by
  intro pins s σ H x y v u Q I rx ry h
  obtain ⟨rfl, q⟩ := h
  cases ry
  refine isnot_none_gen (fin_bl I q ?_)
  cases x <;> first
    | (cases rx; rfl)
    | (obtain ⟨t, rfl⟩ := rx; rfl)

theorem op_notin_str : OpR X (compareOp .NotIn) (fun x y H Q => ∃ i j, x = .str i ∧ y = .str j ∧ Q (.bl (!(!(Builtin.Str.occurrences j i 0 j.length 1).isEmpty))) H) := by
  intro pins s σ H x y v u Q I rx ry h
  obtain ⟨i, j, rfl, rfl, q⟩ := h
  obtain ⟨t, rfl⟩ := rx
  obtain ⟨t', rfl⟩ := ry
  exact notIn_str (fin_bl I q rfl)
/-- is, is not of two objects that are tracked lists or instances -/
def isObj : HO → Bool
  | .lst _ => true
  | .ins _ _ _ => true
  | _ => false
theorem obj_there {pins : List (Addr × Obj)} {s : Shared} {σ : St} {H : Hp} {a : Addr} {o : HO} (I : Inv X pins σ H s) (h : H a = some o) (p : isObj o = true) : ∃ ob, s.heap.get? a = some ob ∧ ob.cls ≠ .type "tuple" := by
  cases o with
  | lst xs =>
    obtain ⟨_, its, n, _, e⟩ : xs.length ≤ sizeLine ∧ ∃ (its : List Value) (n : Nat), Vals xs its ∧ s.heap.get? a = some { cls := .type "list", data := .seq its.toArray n } := I.hok a _ h
    exact ⟨_, e, (by show Value.type "list" ≠ .type "tuple"; decide +kernel)⟩
  | ins C dx fs =>
    have x := I.hok a _ h
    obtain ⟨_, _, _, e, _⟩ := x
    exact ⟨_, e, (by show Value.ref C ≠ .type "tuple"; exact fun z => by cases z)⟩
  | _ => exact absurd (show false = true from p) Bool.false_ne_true
theorem op_is_ref : OpR X (compareOp .Is) (fun x y H Q => ∃ a b oa ob, x = .ref a ∧ y = .ref b ∧ H a = some oa ∧ isObj oa = true ∧ H b = some ob ∧ isObj ob = true ∧ Q (.bl (decide (a = b))) H) := by
  intro pins s σ H x y v u Q I rx ry h
  obtain ⟨a, b, oa, ob, rfl, rfl, ha, pa, hb, pb, q⟩ := h
  cases rx
  cases ry
  obtain ⟨o1, e1, n1⟩ := obj_there I ha pa
  obtain ⟨o2, e2, _⟩ := obj_there I hb pb
  by_cases z : a = b
  · subst z
    exact wpAny_is_ref_self (fin_bl I q (by simp))
  · exact wpAny_is_ref_other z e1 e2 n1 (fin_bl I q (by simp [z]))
theorem op_isnot_ref : OpR X (compareOp .IsNot) (fun x y H Q => ∃ a b oa ob, x = .ref a ∧ y = .ref b ∧ H a = some oa ∧ isObj oa = true ∧ H b = some ob ∧ isObj ob = true ∧ Q (.bl (!decide (a = b))) H) := by
  intro pins s σ H x y v u Q I rx ry h
  obtain ⟨a, b, oa, ob, rfl, rfl, ha, pa, hb, pb, q⟩ := h
  cases rx
  cases ry
  obtain ⟨o1, e1, n1⟩ := obj_there I ha pa
  obtain ⟨o2, e2, _⟩ := obj_there I hb pb
  by_cases z : a = b
  · subst z
    exact wpAny_isNot_ref_self (fin_bl I q (by simp))
  · exact wpAny_isNot_ref_other z e1 e2 n1 (fin_bl I q (by simp [z]))

/-- two rules for one operation: by cases -/
theorem OpR.or {f : Value → Value → Sem Value} {r r' : R2} (h : OpR X f r) (h' : OpR X f r') : OpR X f (fun x y H Q => r x y H Q ∨ r' x y H Q) := by
  intro pins s σ H x y v u Q I rx ry q
  rcases q with q | q
  · exact h pins s σ H x y v u Q I rx ry q
  · exact h' pins s σ H x y v u Q I rx ry q

theorem nomark (b : Expr) {op : CmpOp} (h : op ≠ .In := by decide) (h2 : op ≠ .NotIn := by decide) : behindInMarks op b = false := by
  have e1 : (op == CmpOp.In) = false := by cases op <;> first | rfl | exact absurd rfl h
  have e2 : (op == CmpOp.NotIn) = false := by cases op <;> first | rfl | exact absurd rfl h2
  cases b <;> simp [behindInMarks, e1, e2]
/-- a comparison as a value; hm: nomark b, or (for in, not in) by with_unfolding_all rfl -/
theorem pe_cmpR {op : CmpOp} {r : R2} (ho : OpR X (compareOp op) r) (ha : PE X a ta) (hb : PE X b tb) (hm : behindInMarks op b = false) : PE X (.Compare a [op] [b] pos) (tOp r ta tb) := by
  intro pins s σ H Q I h
  exact wpAny_Compare1 (binT ha hb I h fun v u s2 x y H2 I2 rx ry q => ho pins s2 σ H2 x y v u Q I2 rx ry q) hm
/-- a reading of a value as a test -/
def tTest (t : TE) : TT := fun σ H Q => t σ H fun x H' => ∃ k, x = .bl k ∧ Q k H'
theorem pt_cmpR {op : CmpOp} {r : R2} (ho : OpR X (compareOp op) r) (ha : PE X a ta) (hb : PE X b tb) (hm : behindInMarks op b = false) : PT X (.Compare a [op] [b] pos) (tTest (tOp r ta tb)) := by
  intro pins s σ H Q I h
  refine wpAny_isTrue_Compare1 (thn (ha pins s σ H _ I h) fun v s1 ⟨x, H1, I1, r1, q1⟩ => thn (hb pins s1 σ H1 _ I1 q1) fun u s2 ⟨y, H2, I2, r2, q2⟩ =>
    thn (ho pins s2 σ H2 x y v u _ I2 r1 r2 q2) fun c s3 ⟨z, H3, I3, r3, k, e, q3⟩ => ?_) hm
  subst e
  cases r3
  exact wpAny_truthy_bool ⟨H3, I3, q3⟩
/-- a op1 b op2 c -/
def tChain (r r' : R2) (ta tb tc : TE) : TE := fun σ H Q => ta σ H fun x H1 => tb σ H1 fun y H2 => r x y H2 fun z H3 => ∃ k, z = .bl k ∧
  (if k = true then tc σ H3 fun w' H4 => r' y w' H4 Q else Q (.bl false) H3)
theorem pe_chain {op op' : CmpOp} {r r' : R2} (ho : OpR X (compareOp op) r) (ho' : OpR X (compareOp op') r') (ha : PE X a ta) (hb : PE X b tb) (hc : PE X c tc)
    (hm : lastMarks [op, op'] [b, c] = false := by with_unfolding_all rfl) : PE X (.Compare a [op, op'] [b, c] pos) (tChain r r' ta tb tc) := by
  intro pins s σ H Q I h
  refine Compare_chain (thn (ha pins s σ H _ I h) fun v s1 ⟨x, H1, I1, r1, q1⟩ => chain_link (thn (hb pins s1 σ H1 _ I1 q1) fun u s2 ⟨y, H2, I2, r2, q2⟩ =>
    thn (ho pins s2 σ H2 x y v u _ I2 r1 r2 q2) fun d s3 ⟨z, H3, I3, r3, k, e, q3⟩ => ?_)) hm
  subst e
  cases r3
  refine wpAny_truthy_bool ?_
  cases k with
  | false => exact ite_ff ⟨.bl false, H3, I3, rfl, q3⟩
  | true => exact ite_tt (chain_last (thn (hc pins s3 σ H3 _ I3 q3) fun w' s4 ⟨z', H4, I4, r4, q4⟩ => ho' pins s4 σ H4 y z' u w' Q I4 r2 r4 q4))
theorem pt_chain {op op' : CmpOp} {r r' : R2} (ho : OpR X (compareOp op) r) (ho' : OpR X (compareOp op') r') (ha : PE X a ta) (hb : PE X b tb) (hc : PE X c tc)
    (hm : lastMarks [op, op'] [b, c] = false := by with_unfolding_all rfl) : PT X (.Compare a [op, op'] [b, c] pos) (tTest (tChain r r' ta tb tc)) := by
  intro pins s σ H Q I h
  refine isTrue_chain (thn (ha pins s σ H _ I h) fun v s1 ⟨x, H1, I1, r1, q1⟩ => test_link (thn (hb pins s1 σ H1 _ I1 q1) fun u s2 ⟨y, H2, I2, r2, q2⟩ =>
    thn (ho pins s2 σ H2 x y v u _ I2 r1 r2 q2) fun d s3 ⟨z, H3, I3, r3, k, e, q3⟩ => ?_)) hm
  subst e
  cases r3
  refine wpAny_truthy_bool ?_
  cases k with
  | false =>
    obtain ⟨k', e', q'⟩ := q3
    cases e'
    exact ite_ff ⟨H3, I3, q'⟩
  | true =>
    refine ite_tt (test_last (thn (hc pins s3 σ H3 _ I3 q3) fun w' s4 ⟨z', H4, I4, r4, q4⟩ => thn (ho' pins s4 σ H4 y z' u w' _ I4 r2 r4 q4) fun d' s5 ⟨z2, H5, I5, r5, k2, e2, q5⟩ => ?_))
    subst e2
    cases r5
    exact wpAny_truthy_bool ⟨H5, I5, q5⟩

/-! ### truth -/
/-- a value's truth by the abstract heap -/
def TruV (K : PySem.W.Frag) (x : V) (H : Hp) (k : Bool) : Prop :=
  match x with
  | .non => k = false
  | .bl b => k = b
  | .int i => k = (i != 0)
  | .str y => y.length ≤ sizeLine ∧ k = ((y.length : Int) != 0)
  | .byt y => y.size ≤ sizeLine ∧ k = ((y.size : Int) != 0)
  | .ref p => (∃ xs, SqL K H p xs ∧ k = !xs.isEmpty) ∨ (∃ xs, SqT K H p xs ∧ k = !xs.isEmpty) ∨ ∃ kvs, H p = some (.dK kvs) ∧ k = !kvs.isEmpty
  | _ => False
theorem isEmpty_kv {κ : Type} {kvs : List (κ × V)} {vs : List (κ × Value)} (r : KV kvs vs) : (!vs.isEmpty) = !kvs.isEmpty := by
  cases r <;> rfl
theorem isEmpty_of {xs : List V} {its : List Value} (r : Vals xs its) : (!its.toArray.isEmpty) = !xs.isEmpty := by
  cases r <;> simp
theorem line63 : (sizeLine : Nat) < 2 ^ 63 := by rw [sizeLine_eq]; decide
theorem tru_ok : TruR X (fun x H Q => ∃ k, TruV X.K x H k ∧ Q k H) := by
  intro pins s σ H x v Q I rx h
  obtain ⟨k, e, q⟩ := h
  have hl := line63
  have hs : sizeLine = 16777216 := sizeLine_eq
  cases x with
  | non =>
    cases rx
    have e' : k = false := e
    subst e'
    exact truthy_none ⟨H, I, q⟩
  | bl b =>
    cases rx
    have e' : k = b := e
    subst e'
    exact wpAny_truthy_bool ⟨H, I, q⟩
  | int i =>
    obtain ⟨t, rfl⟩ := rx
    have e' : k = (i != 0) := e
    subst e'
    exact PySem.P.truthy_int ⟨H, I, q⟩
  | str y =>
    obtain ⟨t, rfl⟩ := rx
    obtain ⟨hy, e'⟩ : y.length ≤ sizeLine ∧ k = ((y.length : Int) != 0) := e
    subst e'
    exact PySem.P.truthy_str (by omega) ⟨H, I.tok _, q⟩
  | byt y =>
    obtain ⟨t, rfl⟩ := rx
    obtain ⟨hy, e'⟩ : y.size ≤ sizeLine ∧ k = ((y.size : Int) != 0) := e
    subst e'
    exact PySem.W.truthy_bytes (by omega) ⟨H, I.tok _, q⟩
  | ref p =>
    cases rx
    have e' : (∃ xs, SqL X.K H p xs ∧ k = !xs.isEmpty) ∨ (∃ xs, SqT X.K H p xs ∧ k = !xs.isEmpty) ∨ ∃ kvs, H p = some (.dK kvs) ∧ k = !kvs.isEmpty := e
    rcases e' with ⟨xs, hx, e'⟩ | ⟨xs, hx, e'⟩ | ⟨kvs, hx, e'⟩
    · subst e'
      obtain ⟨its, r, pl, hz⟩ := I.list hx
      have hlen := r.length
      exact wpAny_truthy_list pl.isList (by simp only [List.size_toArray]; omega) ⟨H, I.tok _, by rw [isEmpty_of r]; exact q⟩
    · subst e'
      obtain ⟨its, r, pl, hz⟩ := I.tuple hx
      have hlen := r.length
      exact truthy_tuple pl (by simp only [List.size_toArray]; omega) ⟨H, I.tok _, by rw [isEmpty_of r]; exact q⟩
    · subst e'
      obtain ⟨hz, hS, vs, r, m⟩ : kvs.length ≤ sizeLine ∧ (p == sysModules) = false ∧ ∃ vs, KV kvs vs ∧ s.heap.DictOf (mixKind X.prog X.w) p vs := I.hok p _ hx
      have hlen : kvs.length = vs.length := Paired.length r
      exact wpAny_truthy_dict hS m (by omega) ⟨H, I.tok _, by rw [isEmpty_kv r]; exact q⟩
  | _ => exact (show False from e).elim
/-- any expression whose test is its value's truth (a name, a call, a subscript, a field ..: he by fun _ => rfl) -/
theorem pt_truth (ha : PE X a ta) (he : ∀ whole, isTrue a X.env whole = (do let v ← whole; standAt a.pos; holding [v] (truthy v))) :
    PT X a (fun σ H Q => ta σ H fun x H' => ∃ k, TruV X.K x H' k ∧ Q k H') := by
  intro pins s σ H Q I h
  exact isTrue_plain (thn (ha pins s σ H _ I h) fun v s1 ⟨x, H1, I1, r1, q1⟩ => tru_ok pins s1 σ H1 x v Q I1 r1 q1) (he _)

/-! ### strs and bytes -/
theorem pe_byt {x : List UInt8} {k : Nat} : PE X (.Constant (.bytes x) k pos) (fun _ H Q => Q (.byt x.toArray) H) := fun _ _ _ H _ I h => PySem.W.Constant_bytes ⟨.byt x.toArray, H, I.tok _, ⟨_, rfl⟩, h⟩
theorem op_add_str : OpR X (binaryOp .Add) (fun x y H Q => ∃ i j, x = .str i ∧ y = .str j ∧ i.length + j.length ≤ sizeLine ∧ Q (.str (i ++ j)) H) := by
  intro pins s σ H x y v u Q I rx ry h
  obtain ⟨i, j, rfl, rfl, hz, q⟩ := h
  obtain ⟨t, rfl⟩ := rx
  obtain ⟨t', rfl⟩ := ry
  exact add_str (fun t' tk => ⟨.str (i ++ j), H, I.tok _, ⟨_, rfl⟩, q⟩) hz
theorem iop_add_str : OpR X (inplaceOp .Add) (fun x y H Q => ∃ i j, x = .str i ∧ y = .str j ∧ i.length + j.length ≤ sizeLine ∧ Q (.str (i ++ j)) H) := by
  intro pins s σ H x y v u Q I rx ry h
  obtain ⟨i, j, rfl, rfl, hz, q⟩ := h
  obtain ⟨t, rfl⟩ := rx
  obtain ⟨t', rfl⟩ := ry
  exact iadd_str (fun t' tk => ⟨.str (i ++ j), H, I.tok _, ⟨_, rfl⟩, q⟩) hz
theorem op_add_byt : OpR X (binaryOp .Add) (fun x y H Q => ∃ i j, x = .byt i ∧ y = .byt j ∧ i.size + j.size ≤ 16777216 ∧ Q (.byt (i ++ j)) H) := by
  intro pins s σ H x y v u Q I rx ry h
  obtain ⟨i, j, rfl, rfl, hz, q⟩ := h
  obtain ⟨t, rfl⟩ := rx
  obtain ⟨t', rfl⟩ := ry
  exact PySem.W.KBy.add_bytes hz (fun t' tk => ⟨.byt (i ++ j), H, I.tok _, ⟨_, rfl⟩, q⟩)

def PlainIxT (b : Expr) : Prop := ∀ o i, subscripted b false o i = operate [o, i] (getItem o i)
/-- s[i], 0 ≤ i < len -/
theorem pe_item_str (ha : PE X a ta) (hb : PE X b tb) (hs : PlainIxT b) :
    PE X (.Subscript a b pos) (tOp (fun x y H Q => ∃ z i c, x = .str z ∧ y = .int i ∧ 0 ≤ i ∧ i < 2 ^ 63 ∧ i < z.length ∧ z.cps[i.toNat]? = some c ∧ Q (.str ⟨#[c]⟩) H) ta tb) := by
  intro pins s σ H Q I h
  refine Subscript_ (binT ha hb I h fun v u s2 x y H2 I2 rx ry q => ?_)
  obtain ⟨z, i, c, rfl, rfl, h0, h63, h1, hc, q⟩ := q
  obtain ⟨t, rfl⟩ := rx
  obtain ⟨t', rfl⟩ := ry
  have e : seqIndex? i z.length = some i.toNat := PySem.StrLaws.seqIndex_nonneg h0 h1
  exact tail_any (typeIs_str s2 z t) slot_str_getitem.lookup (getItem_str (c := c) (by
    have e1 : decide (i < -(2 ^ 63 : Int)) = false := decide_eq_false (by omega)
    have e2 : decide (i ≥ 2 ^ 63) = false := decide_eq_false (by omega)
    rw [e1, e2] <;> rfl) (by rw [e]; exact hc) ⟨.str ⟨#[c]⟩, H2, I2.tok _, ⟨_, rfl⟩, q⟩) (hs _ _)
/-- b[i], 0 ≤ i < len -/
theorem pe_item_byt (ha : PE X a ta) (hb : PE X b tb) (hs : PlainIxT b) :
    PE X (.Subscript a b pos) (tOp (fun x y H Q => ∃ (z : List UInt8) (i : Int), x = .byt z.toArray ∧ y = .int i ∧ z.length ≤ sizeLine ∧ 0 ≤ i ∧ i < z.length ∧ Q (.int ((z.getD i.toNat 0).toNat : Nat)) H) ta tb) := by
  intro pins s σ H Q I h
  refine Subscript_ (binT ha hb I h fun v u s2 x y H2 I2 rx ry q => ?_)
  obtain ⟨z, i, rfl, rfl, hz, h0, h1, q⟩ := q
  obtain ⟨t, rfl⟩ := rx
  obtain ⟨t', rfl⟩ := ry
  have hl : sizeLine = 16777216 := sizeLine_eq
  exact tail_any (PySem.W.typeIs_bytes s2 z.toArray t) PySem.W.FB.slot_bytes_getitem.lookup (PySem.W.getItem_bytes (by omega) h0 h1 ⟨.int ((z.getD i.toNat 0).toNat : Nat), H2, I2.tok _, ⟨_, rfl⟩, q⟩) (hs _ _)

/-! ### scalar builtins, by CallR -/
theorem vals1 {x : V} {us : List Value} (r : Vals [x] us) : ∃ u, us = [u] ∧ RelV x u := by
  cases r with
  | cons r1 r2 => cases r2; exact ⟨_, rfl, r1⟩
theorem vals2 {x y : V} {us : List Value} (r : Vals [x, y] us) : ∃ u w', us = [u, w'] ∧ RelV x u ∧ RelV y w' := by
  cases r with
  | cons r1 r2 =>
    cases r2 with
    | cons r3 r4 => cases r4; exact ⟨_, _, rfl, r1, r3⟩
theorem call_abs : CallR X (.builtin "abs") (fun xs H Q => ∃ i, xs = [.int i] ∧ Q (.int (if i < 0 then -i else i)) H) := by
  intro pins s σ H xs us Q I r h
  obtain ⟨i, rfl, q⟩ := h
  obtain ⟨u, rfl, t, rfl⟩ := vals1 r
  exact call_abs_int fun u tk => ⟨.int (if i < 0 then -i else i), H, I.tok _, ⟨_, rfl⟩, q⟩
theorem call_max2 (hc : X.calm = true) : CallR X (.builtin "max") (fun xs H Q => ∃ i j, xs = [.int i, .int j] ∧ Q (.int (if j > i then j else i)) H) := by
  intro pins s σ H xs us Q I r h
  obtain ⟨i, j, rfl, q⟩ := h
  obtain ⟨u, w', rfl, ⟨t, rfl⟩, ⟨t', rfl⟩⟩ := vals2 r
  refine max_two_ints (I.ok.hd hc) fun h' tk k => ⟨_, H, I.kept k, ?_, q⟩
  by_cases hj : j > i
  · rw [if_pos hj, if_pos hj]; exact ⟨_, rfl⟩
  · rw [if_neg hj, if_neg hj]; exact ⟨_, rfl⟩
theorem call_min2 (hc : X.calm = true) : CallR X (.builtin "min") (fun xs H Q => ∃ i j, xs = [.int i, .int j] ∧ Q (.int (if j < i then j else i)) H) := by
  intro pins s σ H xs us Q I r h
  obtain ⟨i, j, rfl, q⟩ := h
  obtain ⟨u, w', rfl, ⟨t, rfl⟩, ⟨t', rfl⟩⟩ := vals2 r
  refine min_two_ints (I.ok.hd hc) fun h' tk k => ⟨_, H, I.kept k, ?_, q⟩
  by_cases hj : j < i
  · rw [if_pos hj, if_pos hj]; exact ⟨_, rfl⟩
  · rw [if_neg hj, if_neg hj]; exact ⟨_, rfl⟩
theorem call_int1 : CallR X (.type "int") (fun xs H Q => (∃ i, xs = [.int i] ∧ Q (.int i) H) ∨ ∃ k, xs = [.bl k] ∧ Q (.int (if k then 1 else 0)) H) := by
  intro pins s σ H xs us Q I r h
  rcases h with ⟨i, rfl, q⟩ | ⟨k, rfl, q⟩
  · obtain ⟨u, rfl, t, rfl⟩ := vals1 r
    exact call_int_int ⟨.int i, H, I, ⟨_, rfl⟩, q⟩
  · obtain ⟨u, rfl, r1⟩ := vals1 r
    cases r1
    exact call_int_bool ⟨.int (if k then 1 else 0), H, I.tok _, ⟨_, rfl⟩, q⟩
theorem call_bool1 : CallR X (.type "bool") (fun xs H Q => (∃ i, xs = [.int i] ∧ Q (.bl (i != 0)) H) ∨ ∃ k, xs = [.bl k] ∧ Q (.bl k) H) := by
  intro pins s σ H xs us Q I r h
  rcases h with ⟨i, rfl, q⟩ | ⟨k, rfl, q⟩
  · obtain ⟨u, rfl, t, rfl⟩ := vals1 r
    exact call_bool_int ⟨.bl (i != 0), H, I, rfl, q⟩
  · obtain ⟨u, rfl, r1⟩ := vals1 r
    cases r1
    exact call_bool_bool ⟨.bl k, H, I, rfl, q⟩
theorem call_str_int : CallR X (.type "str") (fun xs H Q => ∃ i, xs = [.int i] ∧ i.natAbs.log2 < 1920 ∧ Q (.str (toString i)) H) := by
  intro pins s σ H xs us Q I r h
  obtain ⟨i, rfl, hz, q⟩ := h
  obtain ⟨u, rfl, t, rfl⟩ := vals1 r
  exact PySem.P.str_of_int hz ⟨.str _, H, I.tok _, ⟨_, rfl⟩, q⟩
theorem call_ord : CallR X (.builtin "ord") (fun xs H Q => ∃ x, xs = [.str x] ∧ x.length = 1 ∧ Q (.int (x.cps.getD 0 0 : Nat)) H) := by
  intro pins s σ H xs us Q I r h
  obtain ⟨x, rfl, hz, q⟩ := h
  obtain ⟨u, rfl, t, rfl⟩ := vals1 r
  exact ord_of_one hz ⟨.int _, H, I.tok _, ⟨_, rfl⟩, q⟩
theorem call_chr : CallR X (.builtin "chr") (fun xs H Q => ∃ i, xs = [.int i] ∧ 0 ≤ i ∧ i ≤ 1114111 ∧ Q (.str ⟨#[i.toNat]⟩) H) := by
  intro pins s σ H xs us Q I r h
  obtain ⟨i, rfl, h0, h1, q⟩ := h
  obtain ⟨u, rfl, t, rfl⟩ := vals1 r
  exact chr_of_range h0 h1 ⟨.str _, H, I.tok _, ⟨_, rfl⟩, q⟩
/-- len of a str, a bytes, a list, a tuple -/
def LenV (K : PySem.W.Frag) (x : V) (H : Hp) (n : Nat) : Prop :=
  match x with
  | .str y => y.length ≤ sizeLine ∧ n = y.length
  | .byt y => y.size ≤ sizeLine ∧ n = y.size
  | .ref p => (∃ xs, SqL K H p xs ∧ n = xs.length) ∨ ∃ xs, SqT K H p xs ∧ n = xs.length
  | _ => False
theorem call_len : CallR X (.builtin "len") (fun xs H Q => ∃ x n, xs = [x] ∧ LenV X.K x H n ∧ Q (.int n) H) := by
  intro pins s σ H xs us Q I r h
  obtain ⟨x, n, rfl, e, q⟩ := h
  obtain ⟨u, rfl, rx⟩ := vals1 r
  have hl := line63
  have hs : sizeLine = 16777216 := sizeLine_eq
  cases x with
  | str y =>
    obtain ⟨t, rfl⟩ := rx
    obtain ⟨hy, e'⟩ : y.length ≤ sizeLine ∧ n = y.length := e
    subst e'
    exact len_str (by omega) ⟨.int _, H, I.tok _, ⟨_, rfl⟩, q⟩
  | byt y =>
    obtain ⟨t, rfl⟩ := rx
    obtain ⟨hy, e'⟩ : y.size ≤ sizeLine ∧ n = y.size := e
    subst e'
    exact PySem.W.len_bytes (by omega) ⟨.int _, H, I.tok _, ⟨_, rfl⟩, q⟩
  | ref p =>
    cases rx
    have e' : (∃ xs, SqL X.K H p xs ∧ n = xs.length) ∨ ∃ xs, SqT X.K H p xs ∧ n = xs.length := e
    rcases e' with ⟨xs, hx, e'⟩ | ⟨xs, hx, e'⟩
    · subst e'
      obtain ⟨its, r', pl, hz⟩ := I.list hx
      have hlen := r'.length
      exact Calls.call_len_list pl.isList (by simp only [List.size_toArray]; omega) ⟨.int xs.length, H, I.tok _, ⟨_, by simp only [List.size_toArray]; rw [hlen]⟩, q⟩
    · subst e'
      obtain ⟨its, r', pl, hz⟩ := I.tuple hx
      have hlen := r'.length
      exact len_tuple pl (by simp only [List.size_toArray]; omega) ⟨.int xs.length, H, I.tok _, ⟨_, by simp only [List.size_toArray]; rw [hlen]⟩, q⟩
  | _ => exact (show False from e).elim
/-- divmod: a new tuple -/
theorem call_divmod : CallR X (.builtin "divmod") (fun xs H Q => ∃ i j, xs = [.int i, .int j] ∧ CDiv i j ∧ ∀ p, H p = none → Q (.ref p) (upd H p (.tup [.int (i / j), .int (i % j)]))) := by
  intro pins s σ H xs us Q I r h
  obtain ⟨i, j, rfl, ⟨h1, h2⟩, q⟩ := h
  obtain ⟨u, w', rfl, ⟨t, rfl⟩, ⟨t', rfl⟩⟩ := vals2 r
  refine divmod_int (by omega) ?_ (.inl (PyProof.noPylong_small (by omega)))
  rw [Int.fdiv_eq_ediv_of_nonneg i (by omega), Int.fmod_eq_emod_of_nonneg i (by omega)]
  have hn : H s.heap.objs.size = none := I.hok.fresh (Nat.le_refl _)
  refine ⟨.ref s.heap.objs.size, _, ?_, rfl, q _ hn⟩
  refine I.laid (fun b o e => Heap.get?_push_of_some _ e) (Nat.le_refl _) ⟨by simp only [List.length_cons, List.length_nil]; rw [sizeLine_eq]; decide, [.int (i / j) s.toks, .int (i % j) (s.toks + 1)], .cons ⟨_, rfl⟩ (.cons ⟨_, rfl⟩ .nil), ?_⟩
  exact ⟨_, Heap.get?_push_size s.heap rfl, rfl, 0, rfl⟩
end
end L2

namespace L2
open PySem PySem.Spec PyProof.Rows

/-! ### an instance, its attributes a map -/
structure ObjM (h : Heap) (x dx C : Addr) (mA : Str → Option Value) : Prop where
  obj : h.get? x = some (PySem.W.instObj C dx)
  ns : h.Ns1 dx mA
  ne : dx ≠ x

theorem lookIn_ns {h : Heap} {dx : Addr} {mA : Str → Option Value} (n : h.Ns1 dx mA) : ∃ od, h.get? dx = some od ∧ ∀ name, PySem.W.lookIn name od = some (mA name) := by
  obtain ⟨o, es, ep, ho, hd, hk, _, hm⟩ := n
  refine ⟨o, ho, fun name => ?_⟩
  have e := hm name
  unfold nsFind findBy at e
  rw [← Array.find?_toList] at e
  unfold PySem.W.lookIn
  rw [hd]
  dsimp only
  split
  · rename_i y q
    rw [q] at e
    exact congrArg some e
  · rename_i q
    rw [q] at e
    have a : es.toList.any (·.refKey) = false := by
      rw [List.any_eq_false]
      intro y hy
      obtain ⟨z, t, hkey⟩ := hk y (Array.mem_toList_iff.mp hy)
      simp [DictEntry.refKey, hkey]
    have a' : ¬ es.toList.any (·.refKey) = true := by rw [a]; exact Bool.false_ne_true
    rw [if_neg a']
    exact congrArg some e

theorem ObjM.look {h : Heap} {x dx C : Addr} {mA : Str → Option Value} (I : ObjM h x dx C mA) : ∃ od, PySem.W.InstAt h x (PySem.W.instObj C dx) C (some od) ∧ ∀ name, PySem.W.lookIn name od = some (mA name) :=
  let ⟨od, ho, hl⟩ := lookIn_ns I.ns
  ⟨od, ⟨I.obj, rfl, rfl, ho⟩, hl⟩

section
variable {prog : Program} {w : World} {A : Around} {E : Value → Shared → Prop} {s : Shared} {K : PySem.W.Frag} {x dx C f : Addr} {mA : Str → Option Value} {name : Str} {v : Value}

theorem get_map {expr : Bool} {Q : Value → Shared → Prop} (X : K.In s.heap) (I : ObjM s.heap x dx C mA) (hg : PySem.W.plainGet K C name = true) (hh : PySem.W.hasDictIn K C = true)
    (ha : PySem.W.findIn K (.ref C) name = some none) (hv : mA name = some v) (hv' : PySem.W.handedIn v = true) (h : Q v { s with toks := s.toks + 1 }) :
    wpAny (model prog w) A (getAttr (.ref x) name expr) Q E s := by
  obtain ⟨od, J, hl⟩ := I.look
  exact PySem.W.get_value X J (PySem.W.plainGet_of hg).1 (PySem.W.findObj_own hh ha rfl (by rw [hl, hv])) hv' h

theorem get_const {expr : Bool} {a : Value} {Q : Value → Shared → Prop} (X : K.In s.heap) (I : ObjM s.heap x dx C mA) (hg : PySem.W.plainGet K C name = true) (hh : PySem.W.hasDictIn K C = true)
    (ha : PySem.W.findIn K (.ref C) name = some (some a)) (hn : PySem.W.specialIn K a "__get__" = some none) (hc : PySem.W.copiedNames.contains name = false) (hv : mA name = none) (hv' : PySem.W.handedIn a = true)
    (h : Q a { s with toks := s.toks + 1 }) : wpAny (model prog w) A (getAttr (.ref x) name expr) Q E s := by
  obtain ⟨od, J, hl⟩ := I.look
  exact PySem.W.get_value X J (PySem.W.plainGet_of hg).1 (PySem.W.findObj_cls hh ha hn hv' hc (by rw [hl, hv])) hv' h

theorem get_meth {pl : Sem Bool} {Q : Value × List Value → Shared → Prop} (X : K.In s.heap) (I : ObjM s.heap x dx C mA) (hg : PySem.W.plainGet K C name = true)
    (hf : PySem.W.findIn K (.ref C) name = some (some (.ref f))) (ht : PySem.W.isFn K (.ref f) = true) (hv : mA name = none) (h : Q (.ref f, [.ref x]) s) :
    wpAny (model prog w) A (getMethod (.ref x) name pl) Q E s := by
  obtain ⟨od, J, hl⟩ := I.look
  exact PySem.W.method_fn X J (PySem.W.plainGet_of hg).1 (PySem.W.plainGet_of hg).2 hf (beq_iff_eq.mp ht) (by show (PySem.W.lookIn name od).map (·.isSome) = some false; rw [hl, hv]; rfl) h

theorem set_map {ns : List Str} {Q : Unit → Shared → Prop} (X : K.In s.heap) (I : ObjM s.heap x dx C mA)
    (hs : PySem.W.findIn K (.ref C) "__setattr__" = some (some (.builtin "object.__setattr__"))) (hp : PySem.W.plainOver K C = true) (ht : PySem.W.takerIn K C name = some none) (hh : PySem.W.hasDictIn K C = true)
    (hw : PySem.Within mA ns) (hsz : ns.length ≤ sizeLine)
    (h : ∀ h', ObjM h' x dx C (fun y => if y = name then some v else mA y) → Heap.SameBut dx s.heap h' → Q () { s with heap := h', toks := s.toks + 2 }) :
    wpAny (model prog w) A (setAttr (.ref x) name v) Q E s := by
  obtain ⟨od, J, hl⟩ := I.look
  refine PySem.W.set_plain X J hs (PySem.W.osa_open (s := { s with toks := s.toks + 1 }) (r := none) X J hp ht fun b => ?_)
  obtain ⟨cd, hc, hd'⟩ := PySem.W.any_some hh
  have hx : s.heap.get? x = some ⟨.ref C, some dx, .plain, #[]⟩ := I.obj
  refine wpAny_bind (wpAny_pure (wpAny_bind (wpAny_bind (wpAny_loadPart hx (wpAny_bind (PySem.W.Looks.here (s := { s with toks := s.toks + 1 }) (PySem.W.looks_clsIn X hc) ?_))))))
  rw [hd']
  refine wpAny_pure (a := some dx) (wpAny_bind (wpAny_pure (wpAny_bind ?_)))
  refine wpAny_nsSet1 (s := { s with toks := s.toks + 1 }) I.ns fun h' hn2 hs2 => ?_
  obtain ⟨oD, esD, epD, hoD, hdD, hcD⟩ := hn2.count (PySem.Within.cons name v hw)
  refine wpAny_bind (wpAny_lookBehind hoD (by rw [hdD]; exact pastItsLine_dict (Nat.le_trans hcD (by rw [List.length_cons]; omega))) ?_)
  exact wpAny_pure (h _ ⟨(hs2.2 _ (Ne.symm I.ne)).trans I.obj, hn2, I.ne⟩ hs2)

/-- C(..): the dict at the heap's end, the instance behind it; then its __init__ -/
theorem make_map {R : Result → Shared → Prop} {vs : List Value} {kw : List (Str × Value)} (X : K.In s.heap) (hm : PySem.W.makesIn K C = true)
    (hi : PySem.W.findIn K (.ref C) "__init__" = some (some (.ref f))) (hf : PySem.W.typeIn K (.ref f) = some (.type "function"))
    (h : codeAny (model prog w) (A.under (.builtin "type.__call__" ⟨.ref C :: vs, kw⟩)) (.call (.ref f) ⟨.ref (s.heap.objs.size + 1) :: vs, kw⟩) (PySem.W.InitBack (s.heap.objs.size + 1) R)
      { s with heap := (s.heap.push PySem.W.emptyDict).push (PySem.W.instObj C s.heap.objs.size) }) :
    codeAny (model prog w) A (.call (.ref C) ⟨vs, kw⟩) R s := by
  obtain ⟨hh, g, d, t, os⟩ := s
  exact PySem.W.make_core (PySem.W.makes_of X hm) (PySem.W.looks_findIn X hi) (fun self => PySem.W.bind_fn X self hf) (.inl rfl) h
/-- C() where there is no __init__ but object's -/
theorem make_map0 {R : Result → Shared → Prop} (X : K.In s.heap) (hm : PySem.W.makesIn K C = true)
    (hi : PySem.W.findIn K (.ref C) "__init__" = some (some (.builtin "object.__init__")))
    (hb : ∀ self, PySem.W.Looks (model prog w) s.heap (bindSpecial (.builtin "object.__init__") self) (.builtin "object.__init__", [self]))
    (h : codeAny (model prog w) (A.under (.builtin "type.__call__" ⟨[.ref C], []⟩)) (.call (.builtin "object.__init__") ⟨[.ref (s.heap.objs.size + 1)], []⟩) (PySem.W.InitBack (s.heap.objs.size + 1) R)
      { s with heap := (s.heap.push PySem.W.emptyDict).push (PySem.W.instObj C s.heap.objs.size) }) :
    codeAny (model prog w) A (.call (.ref C) ⟨[], []⟩) R s := by
  obtain ⟨hh, g, d, t, os⟩ := s
  exact PySem.W.make_core (PySem.W.makes_of X hm) (PySem.W.looks_findIn X hi) hb (.inr ⟨rfl, rfl⟩) h
end

/-! ### the attributes as a list of pairs -/
def putF (f : Str) (v : V) : List (Str × V) → List (Str × V)
  | [] => [(f, v)]
  | (g, x) :: r => if g = f then (g, v) :: r else (g, x) :: putF f v r
theorem lookup_putF (f g : Str) (v : V) : ∀ fs : List (Str × V), (putF f v fs).lookup g = if g = f then some v else fs.lookup g
  | [] => by
    show List.lookup g [(f, v)] = _
    by_cases h : g = f
    · have hb : (g == f) = true := beq_iff_eq.mpr h
      simp only [List.lookup, hb, if_pos h]
    · have hb : (g == f) = false := beq_eq_false_iff_ne.mpr h
      simp only [List.lookup, hb, if_neg h]
  | (k, x) :: r => by
    have ih := lookup_putF f g v r
    rw [show putF f v ((k, x) :: r) = (if k = f then (k, v) :: r else (k, x) :: putF f v r) from rfl]
    by_cases hk : k = f
    · rw [if_pos hk]
      by_cases h : g = k
      · have hb : (g == k) = true := beq_iff_eq.mpr h
        simp only [List.lookup, hb, if_pos (h.trans hk)]
      · have hb : (g == k) = false := beq_eq_false_iff_ne.mpr h
        simp only [List.lookup, hb, if_neg (fun e : g = f => h (e.trans hk.symm))]
    · rw [if_neg hk]
      by_cases h : g = k
      · have hb : (g == k) = true := beq_iff_eq.mpr h
        simp only [List.lookup, hb, if_neg (fun e : g = f => hk (h.symm.trans e))]
      · have hb : (g == k) = false := beq_eq_false_iff_ne.mpr h
        simp only [List.lookup, hb]
        exact ih
theorem keys_putF (f : Str) (v : V) : ∀ fs : List (Str × V), f ∈ (putF f v fs).map (·.1) ∧ ∀ g, g ∈ fs.map (·.1) → g ∈ (putF f v fs).map (·.1)
  | [] => ⟨by simp [putF], fun g h => by simp at h⟩
  | (k, x) :: r => by
    obtain ⟨i1, i2⟩ := keys_putF f v r
    rw [show putF f v ((k, x) :: r) = (if k = f then (k, v) :: r else (k, x) :: putF f v r) from rfl]
    by_cases hk : k = f
    · rw [if_pos hk]
      subst hk
      exact ⟨by simp, fun g h => by simpa using h⟩
    · rw [if_neg hk]
      refine ⟨?_, fun g h => ?_⟩
      · rw [List.map_cons]
        exact List.mem_cons_of_mem _ i1
      · rw [List.map_cons] at h ⊢
        rcases List.mem_cons.mp h with e | e
        · exact List.mem_cons.mpr (.inl e)
        · exact List.mem_cons_of_mem _ (i2 g e)
theorem length_putF (f : Str) (v : V) : ∀ fs : List (Str × V), (putF f v fs).length ≤ fs.length + 1
  | [] => by simp [putF]
  | (k, x) :: r => by
    have ih := length_putF f v r
    rw [show putF f v ((k, x) :: r) = (if k = f then (k, v) :: r else (k, x) :: putF f v r) from rfl]
    by_cases hk : k = f
    · rw [if_pos hk, List.length_cons, List.length_cons]; omega
    · rw [if_neg hk, List.length_cons, List.length_cons]; omega

theorem RelO.some_of {v : V} {o : Option Value} (r : RelO (some v) o) : ∃ u, o = some u ∧ RelV v u := by
  cases o with
  | none => exact (show False from r).elim
  | some u => exact ⟨u, rfl, r⟩
theorem RelO.none_of {o : Option Value} (r : RelO none o) : o = none := by
  cases o with
  | none => rfl
  | some u => exact (show False from r).elim
theorem handed_of {v : V} {u : Value} (r : RelV v u) : PySem.W.handedIn u = true := by
  cases v with
  | non => cases (show u = Value.none from r); rfl
  | bl b => cases (show u = Value.bool b from r); rfl
  | int i => obtain ⟨t, e⟩ := (show ∃ t, u = Value.int i t from r); cases e; rfl
  | str x => obtain ⟨t, e⟩ := (show ∃ t, u = Value.str x t from r); cases e; rfl
  | byt b => obtain ⟨t, e⟩ := (show ∃ t, u = Value.bytes b t from r); cases e; rfl
  | flt b => obtain ⟨t, e⟩ := (show ∃ t, u = Value.float b t from r); cases e; rfl
  | ref a => cases (show u = Value.ref a from r); rfl
  | ty n => cases (show u = Value.type n from r); rfl

section
variable {P : Program} {w : World} {H H' : Hp} {h h' : Heap} {a C dx : Addr} {fs fs' : List (Str × V)}
theorem ins_get (hok : HOk P w H h) (e : H a = some (.ins C dx fs)) : ∃ mA, ObjM h a dx C mA ∧ (∀ f, RelO (fs.lookup f) (mA f)) ∧ PySem.Within mA (fs.map (·.1)) ∧ fs.length ≤ 1000 ∧ H dx = some (.own a) := by
  obtain ⟨d, z, ne, ob, mA, n, r, q⟩ := (show ObjOk P w H h a (.ins C dx fs) from hok a _ e)
  exact ⟨mA, ⟨ob, n, ne⟩, r, q, z, d⟩
end

/-! ### what of the text a class must have -/
structure Cls (K : PySem.W.Frag) (C : Addr) : Prop where
  pg : PySem.W.plainGet K C Str.empty = true
  hd : PySem.W.hasDictIn K C = true
  po : PySem.W.plainOver K C = true
  sa : PySem.W.findIn K (.ref C) "__setattr__" = some (some (.builtin "object.__setattr__"))
theorem Cls.get {K : PySem.W.Frag} {C : Addr} (c : Cls K C) (f : Str) : PySem.W.plainGet K C f = true := c.pg
/-- no class of it has the name -/
def NoAttr (K : PySem.W.Frag) (C : Addr) (f : Str) : Prop := PySem.W.findIn K (.ref C) f = some none
theorem NoAttr.taker {K : PySem.W.Frag} {C : Addr} {f : Str} (n : NoAttr K C f) : PySem.W.takerIn K C f = some none := by
  unfold PySem.W.takerIn
  rw [show PySem.W.findIn K (.ref C) f = some none from n]
  rfl
/-- a constant of the class -/
structure Con (K : PySem.W.Frag) (C : Addr) (f : Str) (v : V) (u : Value) : Prop where
  at_ : PySem.W.findIn K (.ref C) f = some (some u)
  rel : RelV v u
  get : PySem.W.specialIn K u "__get__" = some none
  cp : PySem.W.copiedNames.contains f = false
/-- a method: a plain def of the class or of one above it -/
structure Meth (K : PySem.W.Frag) (C : Addr) (m : Str) (f : Addr) : Prop where
  at_ : PySem.W.findIn K (.ref C) m = some (some (.ref f))
  fn : PySem.W.isFn K (.ref f) = true
  kp : PySem.W.keepIn K (.ref f) = true

section
variable {X : Cx} {pins : List (Addr × Obj)} {σ : St} {H : Hp} {s : Shared} {a C dx : Addr} {fs : List (Str × V)} {f : Str} {v : V} {A : Around} {E : Value → Shared → Prop}

theorem getattr_ok {b : Bool} {Q : Value → Shared → Prop} (I : Inv X pins σ H s) (e : H a = some (.ins C dx fs)) (c : Cls X.K C) (n : NoAttr X.K C f) (l : fs.lookup f = some v)
    (h : ∀ u s', Inv X pins σ H s' → RelV v u → Q u s') : wpAny (model X.prog X.w) A (getAttr (.ref a) f b) Q E s := by
  obtain ⟨mA, O, r, _, _, _⟩ := ins_get I.hok e
  obtain ⟨u, hu, ru⟩ := RelO.some_of (v := v) (o := mA f) (by rw [← l]; exact r f)
  exact get_map I.kIn O (c.get f) c.hd n hu (handed_of ru) (h u _ (I.tok _) ru)

theorem getcon_ok {b : Bool} {u : Value} {Q : Value → Shared → Prop} (I : Inv X pins σ H s) (e : H a = some (.ins C dx fs)) (c : Cls X.K C) (k : Con X.K C f v u) (l : fs.lookup f = none)
    (h : ∀ s', Inv X pins σ H s' → Q u s') : wpAny (model X.prog X.w) A (getAttr (.ref a) f b) Q E s := by
  obtain ⟨mA, O, r, _, _, _⟩ := ins_get I.hok e
  have hn : mA f = none := RelO.none_of (by rw [← l]; exact r f)
  exact get_const I.kIn O (c.get f) c.hd k.at_ k.get k.cp hn (handed_of k.rel) (h _ (I.tok _))

theorem getmeth_ok {m : Str} {g : Addr} {pl : Sem Bool} {Q : Value × List Value → Shared → Prop} (I : Inv X pins σ H s) (e : H a = some (.ins C dx fs)) (c : Cls X.K C) (k : Meth X.K C m g) (l : fs.lookup m = none)
    (h : Q (.ref g, [.ref a]) s) : wpAny (model X.prog X.w) A (getMethod (.ref a) m pl) Q E s := by
  obtain ⟨mA, O, r, _, _, _⟩ := ins_get I.hok e
  have hn : mA m = none := RelO.none_of (by rw [← l]; exact r m)
  exact get_meth I.kIn O (c.get m) k.at_ k.fn hn h

theorem setattr_ok {y : V} {u : Value} {Q : Unit → Shared → Prop} (I : Inv X pins σ H s) (e : H a = some (.ins C dx fs)) (c : Cls X.K C) (n : NoAttr X.K C f) (hl : fs.length < 1000) (ry : RelV y u)
    (h : ∀ s', Inv X pins σ (upd H a (.ins C dx (putF f y fs))) s' → Q () s') : wpAny (model X.prog X.w) A (setAttr (.ref a) f u) Q E s := by
  obtain ⟨mA, O, r, wi, _, ho⟩ := ins_get I.hok e
  have hz : (fs.map (·.1)).length ≤ sizeLine := by rw [List.length_map, sizeLine_eq]; omega
  refine set_map I.kIn O c.sa c.po n.taker c.hd wi hz fun h' O' sb => h _ ?_
  have hd : ∃ o, h'.get? dx = some o := let ⟨o, _, _, e', _⟩ := O'.ns; ⟨o, e'⟩
  refine I.write (x := a) (e := dx) (by rw [e]; exact True.intro) (.inr ho) (fun b q hb z => (sb.2 b hb).trans z) hd ?_
  refine ⟨by rw [upd_ne O.ne]; exact ho, ?_, O.ne, O'.obj, _, O'.ns, fun g => ?_, fun g hg => ?_⟩
  · have := length_putF f y fs; omega
  · show RelO ((putF f y fs).lookup g) (if g = f then some u else mA g)
    rw [lookup_putF]
    by_cases q : g = f
    · rw [if_pos q, if_pos q]; exact ry
    · rw [if_neg q, if_neg q]; exact r g
  · by_cases q : g = f
    · rw [q]; exact (keys_putF f y fs).1
    · refine (keys_putF f y fs).2 g (wi g fun z => hg ?_)
      show (if g = f then some u else mA g) = none
      rw [if_neg q]; exact z

/-- a new instance, tracked, without attributes -/
theorem Inv.made (I : Inv X pins σ H s) : Inv X pins σ (upd (upd H s.heap.objs.size (.own (s.heap.objs.size + 1))) (s.heap.objs.size + 1) (.ins C s.heap.objs.size []))
    { s with heap := (s.heap.push PySem.W.emptyDict).push (PySem.W.instObj C s.heap.objs.size) } := by
  have e1 : (s.heap.push PySem.W.emptyDict).get? s.heap.objs.size = some PySem.W.emptyDict := Heap.get?_push_size s.heap rfl
  have e2 : ((s.heap.push PySem.W.emptyDict).push (PySem.W.instObj C s.heap.objs.size)).get? (s.heap.objs.size + 1) = some (PySem.W.instObj C s.heap.objs.size) := by
    have := Heap.get?_push_size (s.heap.push PySem.W.emptyDict) (o := PySem.W.instObj C s.heap.objs.size) rfl
    rwa [Heap.size_push] at this
  have e3 : (s.heap.push PySem.W.emptyDict).Ns s.heap.objs.size (fun _ => none) := ⟨PySem.W.emptyDict, #[], _, e1, rfl, (fun e he => absurd he (by simp)), fun _ => rfl⟩
  have I1 := I.laid (a := s.heap.objs.size) (o := .own (s.heap.objs.size + 1)) (h' := s.heap.push PySem.W.emptyDict) (t' := s.toks) (fun b u q => Heap.get?_push_of_some _ q) (Nat.le_refl _) ⟨_, e1⟩
  refine I1.laid (a := s.heap.objs.size + 1) (o := .ins C s.heap.objs.size []) (t' := s.toks) (fun b u q => Heap.get?_push_of_some _ q) (Nat.le_of_eq (Heap.size_push _ _)) ?_
  have ne : s.heap.objs.size ≠ s.heap.objs.size + 1 := Nat.ne_of_lt (Nat.lt_succ_self _)
  refine ⟨by rw [upd_ne ne, upd_same], Nat.zero_le _, ne, e2, fun _ => none, (Heap.Ns1.of_empty e3).at fun o q => Heap.get?_push_of_some _ q, fun _ => True.intro, fun y hy => absurd rfl hy⟩

/-- e.f where nothing but the object is asked: through attributeBase (super) and the last hold -/
theorem attr_of {prog : Program} {w : World} {env : Env} {e : Expr} {f : Str} {pos : Pos} {s : Shared} {Q : Value → Shared → Prop} (hb : attributeBase e f env (eval e env) = eval e env)
    (h : wpAny (model prog w) A (eval e env) (fun o s₁ => wpAny (model prog w) A (getAttr o f true) Q E s₁) E s) : wpAny (model prog w) A (eval (.Attribute e f pos) env) Q E s :=
  Attribute_any_ h (by rw [arm_eval_Attribute, hb])
end

/-! ### readings and rules -/
/-- e.f, an attribute of the instance -/
def tFld (K : PySem.W.Frag) (ta : TE) (f : Str) : TE := fun σ H Q => ta σ H fun x H1 => ∃ a C dx fs v, x = .ref a ∧ H1 a = some (.ins C dx fs) ∧ Cls K C ∧ NoAttr K C f ∧ fs.lookup f = some v ∧ Q v H1
/-- e.f, a constant of the class -/
def tCon (K : PySem.W.Frag) (ta : TE) (f : Str) : TE := fun σ H Q => ta σ H fun x H1 => ∃ a C dx fs v u, x = .ref a ∧ H1 a = some (.ins C dx fs) ∧ Cls K C ∧ Con K C f v u ∧ fs.lookup f = none ∧ Q v H1
/-- e.f = value -/
def sFld (K : PySem.W.Frag) (ta tv : TE) (f : Str) : TS := fun D σ H => tv σ H fun y H1 => ta σ H1 fun x H2 => ∃ a C dx fs, x = .ref a ∧ H2 a = some (.ins C dx fs) ∧ Cls K C ∧ NoAttr K C f ∧ fs.length < 1000 ∧
  D.nx σ (upd H2 a (.ins C dx (putF f y fs)))
/-- an augmented operator on two values -/
def InOp (X : Cx) (op : Operator) (rd : V → V → Hp → VK → Prop) : Prop :=
  ∀ (pins : List (Addr × Obj)) (s : Shared) (σ : St) (H : Hp) (x y : V) (u v : Value) (Q : VK), Inv X pins σ H s → RelV x u → RelV y v → rd x y H Q → wpAny (model X.prog X.w) X.A (inplaceOp op u v) (EP X pins σ Q) X.xe s
/-- e.f op= value -/
def sFldAug (K : PySem.W.Frag) (ta tv : TE) (rd : V → V → Hp → VK → Prop) (f : Str) : TS := fun D σ H => ta σ H fun x H1 => ∃ a C dx fs v, x = .ref a ∧ H1 a = some (.ins C dx fs) ∧ Cls K C ∧ NoAttr K C f ∧ fs.lookup f = some v ∧
  tv σ H1 fun y H2 => rd v y H2 fun z H3 => ∃ dx' fs', H3 a = some (.ins C dx' fs') ∧ fs'.length < 1000 ∧ D.nx σ (upd H3 a (.ins C dx' (putF f z fs')))

section
variable {X : Cx} {o e value : Expr} {f : Str} {pos pos' tpos : Pos} {ta tv : TE}
theorem pe_fld (he : PE X e ta) (hb : attributeBase e f X.env (eval e X.env) = eval e X.env) : PE X (.Attribute e f pos) (tFld X.K ta f) := by
  intro pins s σ H Q I h
  refine attr_of hb (thn (he pins s σ H _ I h) fun u s1 ⟨x, H1, I1, rx, a, C, dx, fs, v, ex, ea, c, n, l, q⟩ => ?_)
  subst ex
  obtain rfl : u = Value.ref a := rx
  exact getattr_ok I1 ea c n l fun u' s2 I2 ru => ⟨v, H1, I2, ru, q⟩
theorem pe_con (he : PE X e ta) (hb : attributeBase e f X.env (eval e X.env) = eval e X.env) : PE X (.Attribute e f pos) (tCon X.K ta f) := by
  intro pins s σ H Q I h
  refine attr_of hb (thn (he pins s σ H _ I h) fun u s1 ⟨x, H1, I1, rx, a, C, dx, fs, v, u0, ex, ea, c, k, l, q⟩ => ?_)
  subst ex
  obtain rfl : u = Value.ref a := rx
  exact getcon_ok I1 ea c k l fun s2 I2 => ⟨v, H1, I2, k.rel, q⟩
theorem ps_fld (ha : PE X o ta) (hv : PE X value tv) (hs : swapsWith value (some (.Attribute o f pos')) pos.line X.env = pure false) : PS X (.Assign [.Attribute o f pos'] value pos) (sFld X.K ta tv f) := by
  intro pins s σ H D I h
  refine plainObj_wpAny_Assign_Attribute (thn (hv pins s σ H _ I h) fun u s1 ⟨y, H1, I1, ry, q⟩ => thn (ha pins s1 σ H1 _ I1 q) fun ov s2 ⟨x, H2, I2, rx, a, C, dx, fs, ex, ea, c, n, l, q2⟩ => ?_) hs
  subst ex
  obtain rfl : ov = Value.ref a := rx
  exact setattr_ok I2 ea c n l ry fun s3 I3 => ⟨σ, _, I3, q2⟩
theorem ps_fldaug {op : Operator} {rd : V → V → Hp → VK → Prop} (ha : PE X o ta) (hv : PE X value tv) (hop : InOp X op rd) : PS X (.AugAssign (.Attribute o f tpos) op value pos) (sFldAug X.K ta tv rd f) := by
  intro pins s σ H D I h
  refine wpAny_AugAssign_AttributeAny (thn (ha pins s σ H _ I h) fun ov s1 ⟨x, H1, I1, rx, a, C, dx, fs, v, ex, ea, c, n, l, q⟩ => ?_)
  subst ex
  obtain rfl : ov = Value.ref a := rx
  refine getattr_ok I1 ea c n l fun u s2 I2 ru => thn (hv pins s2 σ H1 _ I2 q) fun w3 s3 ⟨y, H2, I3, ry, q3⟩ => thn (hop pins s3 σ H2 v y u w3 _ I3 ru ry q3) fun w4 s4 ⟨z, H3, I4, rz, dx', fs', ea', l', q4⟩ => ?_
  exact setattr_ok I4 ea' c n l' rz fun s5 I5 => ⟨σ, _, I5, q4⟩
def rAdd : V → V → Hp → VK → Prop := fun x y H Q => ∃ i j, x = .int i ∧ y = .int j ∧ Q (.int (i + j)) H
def rSub : V → V → Hp → VK → Prop := fun x y H Q => ∃ i j, x = .int i ∧ y = .int j ∧ Q (.int (i - j)) H
theorem in_add : InOp X .Add rAdd := by
  rintro pins s σ H x y u v Q I rx ry ⟨i, j, rfl, rfl, q⟩
  obtain ⟨t, rfl⟩ := (show ∃ t, u = Value.int i t from rx)
  obtain ⟨t', rfl⟩ := (show ∃ t', v = Value.int j t' from ry)
  exact PyProof.Rows.iadd_int ⟨.int (i + j), H, I.tok _, ⟨_, rfl⟩, q⟩
theorem in_sub : InOp X .Sub rSub := by
  rintro pins s σ H x y u v Q I rx ry ⟨i, j, rfl, rfl, q⟩
  obtain ⟨t, rfl⟩ := (show ∃ t, u = Value.int i t from rx)
  obtain ⟨t', rfl⟩ := (show ∃ t', v = Value.int j t' from ry)
  exact PyProof.Rows.isub_int ⟨.int (i - j), H, I.tok _, ⟨_, rfl⟩, q⟩

/-- what is between an instance and its method: the tree of a method call -/
theorem methcall_of {pl : Sem Bool} {m : Str} {apos : Pos} {args : List Expr} {pins : List (Addr × Obj)} {s : Shared} {σ : St} {H : Hp} {Q : Value → Shared → Prop} {te : TE} (he : PE X e te) (I : Inv X pins σ H s)
    (h : te σ H fun x H1 => ∃ a C dx fs g, x = .ref a ∧ H1 a = some (.ins C dx fs) ∧ Cls X.K C ∧ Meth X.K C m g ∧ fs.lookup m = none ∧
      ∀ s1, Inv X pins σ H1 s1 → wpAny (model X.prog X.w) X.A (callWith pos (.ref g) [.ref a] (backTo pos (starEach args X.env)) (backToKw pos (keywordEach [] X.env))) Q X.xe s1)
    (ht : eval (.Call (.Attribute e m apos) args [] pos) X.env = (do
      let ov ← eval e X.env
      standAt apos.atName
      let (f, first) ← holding [ov] (getMethod ov m pl)
      callWith pos f first (backTo pos (starEach args X.env)) (backToKw pos (keywordEach [] X.env)))) :
    wpAny (model X.prog X.w) X.A (eval (.Call (.Attribute e m apos) args [] pos) X.env) Q X.xe s := by
  refine PySem.W.methodCall_KW (pl := pl) (thn (he pins s σ H _ I h) fun u s1 ⟨x, H1, I1, rx, a, C, dx, fs, g, ex, ea, c, k, l, q⟩ => ?_) ht
  subst ex
  obtain rfl : u = Value.ref a := rx
  exact getmeth_ok I1 ea c k l (q s1 I1)
end

/-! ### isinstance -/
section
variable {X : Cx} {pins : List (Addr × Obj)} {σ : St} {H : Hp} {s : Shared} {A : Around} {E : Value → Shared → Prop} {Q : Value → Shared → Prop} {c : Value} {b : Bool}
/-- the type of a value, as the fragment's deciders take it; for an instance its class -/
inductive TyOf (K : PySem.W.Frag) (H : Hp) : V → Value → Prop where
  | non : TyOf K H .non (.type "NoneType")
  | bl (x : Bool) : TyOf K H (.bl x) (.type "bool")
  | int (i : Int) : TyOf K H (.int i) (.type "int")
  | str (x : Str) : TyOf K H (.str x) (.type "str")
  | flt (x : UInt64) : TyOf K H (.flt x) (.type "float")
  | lst {a : Addr} {xs : List V} (e : H a = some (.lst xs)) : TyOf K H (.ref a) (.type "list")
  | frz {a : Addr} {o : Obj} {xs : List V} (e : H a = some (.frz o (.lst xs))) : TyOf K H (.ref a) (.type "list")
  | tup {a : Addr} {xs : List V} (e : H a = some (.tup xs)) : TyOf K H (.ref a) (.type "tuple")
  | dK {a : Addr} {kvs : List (Key × V)} (e : H a = some (.dK kvs)) : TyOf K H (.ref a) (.type "dict")
  | dT {a : Addr} {kvs : List (List Key × V)} (e : H a = some (.dT kvs)) : TyOf K H (.ref a) (.type "dict")
  | ins {a C dx : Addr} {fs : List (Str × V)} (e : H a = some (.ins C dx fs)) (cl : Cls K C) (ha : PySem.W.findIn K (.ref C) "__class__" = some (some (.builtin "object.__class__")))
      (hn : PySem.W.specialIn K (.builtin "object.__class__") "__get__" = some (some (.builtin "getset_descriptor.__get__"))) (htk : PySem.W.takesIn K (.builtin "object.__class__") = some true)
      (hm : PySem.W.mroIn K C (.type "object") = some true) : TyOf K H (.ref a) (.ref C)
/-- isinstance(x, c) for one class c, a built-in or an own one: kitOne's answer -/
theorem isinst_ok {x : V} {u t : Value} (I : Inv X pins σ H s) (rx : RelV x u) (ty : TyOf X.K H x t) (e : PySem.W.kitOne X.K t c = some b) (h : ∀ tk, Q (.bool b) { s with toks := tk }) :
    wpAny (model X.prog X.w) A (call (.builtin "isinstance") [u, c]) Q E s := by
  cases ty with
  | non => cases (show u = Value.none from rx); exact PySem.W.kia_one PySem.W.kitx_none I.kIn True.intro e (fun z => nomatch z) h
  | bl y => cases (show u = Value.bool y from rx); exact PySem.W.kia_one PySem.W.kitx_bool I.kIn True.intro e (fun z => nomatch z) h
  | int i => obtain ⟨t, q⟩ := (show ∃ t, u = Value.int i t from rx); cases q; exact PySem.W.kia_one PySem.W.kitx_int I.kIn True.intro e (fun z => nomatch z) h
  | str y => obtain ⟨t, q⟩ := (show ∃ t, u = Value.str y t from rx); cases q; exact PySem.W.kia_one PySem.W.kitx_str I.kIn True.intro e (fun z => nomatch z) h
  | flt y => obtain ⟨t, q⟩ := (show ∃ t, u = Value.float y t from rx); cases q; exact PySem.W.kia_one PySem.W.kitx_float I.kIn True.intro e (fun z => nomatch z) h
  | @lst a xs ea =>
    cases (show u = Value.ref a from rx)
    obtain ⟨_, _, n, _, h1⟩ := (show ObjOk X.prog X.w H s.heap a (.lst xs) from I.hok a _ ea)
    exact PySem.W.kia_one PySem.W.kitx_list I.kIn ⟨_, h1, rfl⟩ e (fun z => nomatch z) h
  | @frz a ob xs ea =>
    cases (show u = Value.ref a from rx)
    obtain ⟨_, _, _, n, _, h1⟩ := (show ObjOk X.prog X.w H s.heap a (.frz ob (.lst xs)) from I.hok a _ ea)
    exact PySem.W.kia_one PySem.W.kitx_list I.kIn ⟨_, h1, rfl⟩ e (fun z => nomatch z) h
  | @tup a xs ea =>
    cases (show u = Value.ref a from rx)
    obtain ⟨_, _, _, p⟩ := (show ObjOk X.prog X.w H s.heap a (.tup xs) from I.hok a _ ea)
    obtain ⟨o, h1, h2, _⟩ := p
    exact PySem.W.kia_one PySem.W.kitx_tuple I.kIn ⟨o, h1, h2⟩ e (fun z => nomatch z) h
  | @dK a kvs ea =>
    cases (show u = Value.ref a from rx)
    obtain ⟨_, _, vs, _, p⟩ := (show ObjOk X.prog X.w H s.heap a (.dK kvs) from I.hok a _ ea)
    obtain ⟨o, es, ep, h1, h2, _⟩ := p
    exact PySem.W.kia_one PySem.W.kitx_dict I.kIn ⟨o, h1, h2.1⟩ e (fun z => nomatch z) h
  | @dT a kvs ea =>
    cases (show u = Value.ref a from rx)
    obtain ⟨_, _, xs, _, o, es, ep, h1, h2, _⟩ := (show ObjOk X.prog X.w H s.heap a (.dT kvs) from I.hok a _ ea)
    exact PySem.W.kia_one PySem.W.kitx_dict I.kIn ⟨o, h1, h2.1⟩ e (fun z => nomatch z) h
  | @ins a C dx fs ea cl ha hn htk hm =>
    cases (show u = Value.ref a from rx)
    obtain ⟨mA, O, _⟩ := ins_get I.hok ea
    obtain ⟨od, J, _⟩ := O.look
    exact PySem.W.kia_one (PySem.W.kitx_own (cl.get _) cl.hd ha hn htk hm) I.kIn J e (fun z => nomatch z) h
end
end L2

namespace L2
open PySem PySem.Spec PyProof.Rows

/-! ### room -/
structure Room (k : Nat) (A : Around) : Prop where
  hd : A.handled = none
  dp : A.depth + 3 * k + 5 < recursionLimit
  un : A.units + 16 * k + 200 < cLine
theorem Room.mono {j k : Nat} {A : Around} (r : Room k A) (h : j ≤ k) : Room j A := ⟨r.hd, by have := r.dp; omega, by have := r.un; omega⟩
theorem Room.deeper {k : Nat} {A : Around} (r : Room (k + 1) A) (env : Env) : Room k (A.deeper env) :=
  ⟨r.hd, by have := r.dp; show A.depth + 1 + 3 * k + 5 < _; omega, by have := r.un; show A.units + 3 + 16 * k + 200 < _; omega⟩
theorem Room.in1 {k : Nat} {A : Around} (r : Room (k + 1) A) : Room k A.in1 :=
  ⟨r.hd, by have := r.dp; show A.depth + 3 * k + 5 < _; omega, by have := r.un; show A.units + 1 + 16 * k + 200 < _; omega⟩
theorem make_depth {A : Around} {C : Addr} {us : List Value} {kw : List (Str × Value)} : (A.under (.builtin "type.__call__" ⟨.ref C :: us, kw⟩)).depth = A.depth + 1 := by
  first | rfl | simp [Around.under, Code.weight, Code.isCreation, Code.isGuard, Code.isCaller, Code.frames, Code.isFrame, guardIds]
theorem make_units {A : Around} {C : Addr} {us : List Value} {kw : List (Str × Value)} : (A.under (.builtin "type.__call__" ⟨.ref C :: us, kw⟩)).units = A.units + 1 := by
  first | rfl | simp [Around.under, Code.cUnits, Code.frames, Code.isFrame]
theorem Room.make {k : Nat} {A : Around} (r : Room (k + 1) A) (C : Addr) (us : List Value) (kw : List (Str × Value)) : Room k (A.under (.builtin "type.__call__" ⟨.ref C :: us, kw⟩)) :=
  ⟨r.hd, by have := r.dp; rw [make_depth]; omega, by have := r.un; rw [make_units]; omega⟩
theorem Room.depth {k : Nat} {A : Around} (r : Room k A) : A.depth < recursionLimit := by have := r.dp; omega
theorem Room.units {k : Nat} {A : Around} (r : Room k A) : A.units + 64 < cLine := by have := r.un; omega
theorem Room.units0 {k : Nat} {A : Around} (r : Room k A) : A.units < cLine := by have := r.un; omega

/-! ### argument lists and displays -/
def tNil : TA := fun _ H Q => Q [] H
def tCons (ta : TE) (tr : TA) : TA := fun σ H Q => ta σ H fun x H1 => tr σ H1 fun xs H2 => Q (x :: xs) H2
section
variable {X : Cx} {e : Expr} {es : List Expr} {te : TE} {t : TA} {pos : Pos}
theorem pa_nil : PA X [] tNil := fun _ _ _ _ H Q I h => Calls.spliced_nil ⟨[], H, I, .nil, h⟩
theorem pa_cons (ha : PE X e te) (hr : PA X es t) (hs : starEach (e :: es) X.env = (false, eval e X.env) :: starEach es X.env := by rfl) : PA X (e :: es) (tCons te t) := by
  intro pos pins s σ H Q I h
  rw [hs]
  show wpAny _ _ (spliced ((false, eval e X.env) :: backTo pos (starEach es X.env))) _ _ s
  refine Calls.spliced_cons (thn (ha pins s σ H _ I h) fun u s1 ⟨x, H1, I1, r1, q1⟩ => ?_)
  exact thn (hr pos pins s1 σ H1 _ I1 q1) fun us s2 ⟨xs, H2, I2, r2, q2⟩ => ⟨x :: xs, H2, I2, .cons r1 r2, q2⟩

/-- a tuple, a list of written items -/
def tTup (t : TA) : TE := fun σ H Q => t σ H fun xs H1 => xs.length ≤ sizeLine ∧ ∀ p, H1 p = none → Q (.ref p) (upd H1 p (.tup xs))
def tLst (t : TA) : TE := fun σ H Q => t σ H fun xs H1 => xs.length ≤ sizeLine ∧ ∀ p, H1 p = none → Q (.ref p) (upd H1 p (.lst xs))
theorem pe_tup {x1} (h : PA X es t) : PE X (.Tuple es x1 pos) (tTup t) := by
  intro pins s σ H Q I hq
  refine wpAny_Tuple_spliced (thn (h pos pins s σ H _ I hq) fun us s1 ⟨xs, H1, I1, r, z, q⟩ => ⟨by rw [← r.length]; exact z, ?_⟩)
  have hf : H1 s1.heap.objs.size = none := I1.hok.fresh (Nat.le_refl _)
  refine ⟨.ref s1.heap.objs.size, upd H1 s1.heap.objs.size (.tup xs), I1.laid (t' := s1.toks) (fun b u e => Heap.get?_push_of_some _ e) (Nat.le_refl _) ?_, rfl, q _ hf⟩
  exact ⟨z, us, r, ⟨_, Heap.get?_push_size _ rfl, rfl, _, rfl⟩⟩
theorem pe_lst (h : PA X es t) : PE X (.List es pos) (tLst t) := by
  intro pins s σ H Q I hq
  refine wpAny_List_spliced (thn (h pos pins s σ H _ I hq) fun us s1 ⟨xs, H1, I1, r, z, q⟩ => ⟨by rw [← r.length]; exact z, ?_⟩)
  have hf : H1 s1.heap.objs.size = none := I1.hok.fresh (Nat.le_refl _)
  refine ⟨.ref s1.heap.objs.size, upd H1 s1.heap.objs.size (.lst xs), I1.laid (t' := s1.toks) (fun b u e => Heap.get?_push_of_some _ e) (Nat.le_refl _) ?_, rfl, q _ hf⟩
  exact ⟨z, us, 0, r, Heap.get?_push_size _ rfl⟩
end

/-! ### what a def promises -/
/-- a def's promise: the bound arguments in the parameters' order, the heap, the wanted end, the wanted exception -/
abbrev Sp := List V → Hp → VK → XK → Prop
/-- how an exception lies behind a call (file 08 gives it): the callers' frames, abstract heap and state ahead of the call, the wish, the exception, the state -/
abbrev CXT := List Env → Hp → Shared → XK → Value → Shared → Prop

/-- the state at a call -/
structure Env0 (P : Program) (w : World) (K : PySem.W.Frag) (mg : Str → Option Value) (base : Heap) (A : Around) (outer : List Env) (s : Shared) (H : Hp) : Prop where
  frames : A.frames = some outer
  mod : Mod K mg base
  bs : ∀ b o, base.get? b = some o → s.heap.get? b = some o ∧ H b = none
  bsz : base.objs.size ≤ s.heap.objs.size
  funs : s.heap.FunFrames base outer
  frf : ∀ b ∈ frs outer, H b = none
  hok : HOk P w H s.heap
  bare : AllBare s.gens
/-- a call's end -/
def CE (outer : List Env) (P : Program) (w : World) (H : Hp) (s : Shared) (Q : VK) (u : Value) (s' : Shared) : Prop :=
  ∃ v H', s'.os = s.os ∧ AllBare s'.gens ∧ Un (frs outer) [] H H' s.heap s'.heap ∧ HOk P w H' s'.heap ∧ RelV v u ∧ Q v H'
def CR (CX : CXT) (outer : List Env) (P : Program) (w : World) (H : Hp) (s : Shared) (Q : VK) (E : XK) (r : Result) (s' : Shared) : Prop :=
  match r with
  | .ok (.ret u) => CE outer P w H s Q u s'
  | .ok _ => False
  | .error e => CX outer H s E e s'
structure FnOk (P : Program) (w : World) (K : PySem.W.Frag) (mg : Str → Option Value) (base : Heap) (CX : CXT) (k : Nat) (f : Addr) (fd : FuncData) (ps : List Str) (sp : Sp) : Prop where
  len : ∀ vs H Q E, sp vs H Q E → vs.length = ps.length
  run : ∀ (A : Around) (outer : List Env) (s : Shared) (H : Hp) (args : Args) (us : List Value) (vs : List V) (Q : VK) (E : XK), Room k A → Env0 P w K mg base A outer s H → BindsTo s fd args (ps.zip us) → Vals vs us → sp vs H Q E →
    codeAny (model P w) A (.call (.ref f) args) (CR CX outer P w H s Q E) s
theorem FnOk.mono {P : Program} {w : World} {K : PySem.W.Frag} {mg : Str → Option Value} {base : Heap} {CX : CXT} {j k : Nat} {f : Addr} {fd : FuncData} {ps : List Str} {sp : Sp} (F : FnOk P w K mg base CX j f fd ps sp) (h : j ≤ k) :
    FnOk P w K mg base CX k f fd ps sp := ⟨F.len, fun A outer s H args us vs Q E hr => F.run A outer s H args us vs Q E (hr.mono h)⟩
/-- a weaker promise -/
theorem FnOk.imp {P : Program} {w : World} {K : PySem.W.Frag} {mg : Str → Option Value} {base : Heap} {CX : CXT} {k : Nat} {f : Addr} {fd : FuncData} {ps : List Str} {sp sp' : Sp} (F : FnOk P w K mg base CX k f fd ps sp)
    (h : ∀ vs H Q E, sp' vs H Q E → sp vs H Q E) : FnOk P w K mg base CX k f fd ps sp' :=
  ⟨fun vs H Q E q => F.len vs H Q E (h _ _ _ _ q), fun A outer s H args us vs Q E hr he hb hv hs => F.run A outer s H args us vs Q E hr he hb hv (h _ _ _ _ hs)⟩

theorem Env0.make {P : Program} {w : World} {K : PySem.W.Frag} {mg : Str → Option Value} {base : Heap} {A : Around} {outer : List Env} {s : Shared} {H : Hp} (e : Env0 P w K mg base A outer s H) (C : Addr) (us : List Value) (kw : List (Str × Value)) :
    Env0 P w K mg base (A.under (.builtin "type.__call__" ⟨.ref C :: us, kw⟩)) outer s H := ⟨by first | exact e.frames | (simpa [Around.under, Code.envs, Code.isFrame, pushEnvs] using e.frames), e.mod, e.bs, e.bsz, e.funs, e.frf, e.hok, e.bare⟩
theorem Env0.in1 {P : Program} {w : World} {K : PySem.W.Frag} {mg : Str → Option Value} {base : Heap} {A : Around} {outer : List Env} {s : Shared} {H : Hp} (e : Env0 P w K mg base A outer s H) :
    Env0 P w K mg base A.in1 outer s H := ⟨e.frames, e.mod, e.bs, e.bsz, e.funs, e.frf, e.hok, e.bare⟩

section
variable {X : Cx} {pins : List (Addr × Obj)} {σ : St} {H : Hp} {s s' : Shared}
/-- from a body: what a callee wants -/
theorem Inv.env0 (I : Inv X pins σ H s) : Env0 X.prog X.w X.K X.mg X.base X.A X.stack s H :=
  ⟨I.ok.frames, I.ok.mod, I.bs, Nat.le_trans I.ok.bsz I.sz, I.stack, I.stkFree, I.hok, I.bare⟩
/-- behind a call -/
theorem Inv.after {Q : VK} {u : Value} (I : Inv X pins σ H s) (h : CE X.stack X.prog X.w H s Q u s') : EP X pins σ Q u s' := by
  obtain ⟨v, H', os, bare, un, hok, r, q⟩ := h
  obtain ⟨hh, g, d, t, os'⟩ := s'
  obtain rfl : os' = s.os := os
  exact ⟨v, H', I.call (h' := hh) (g' := g) (d' := d) (t' := t) (ch := []) un hok bare (fun b z => absurd z (by simp)), r, q⟩
end

/-! ### calls -/
/-- f(..): the written arguments, then the defaults dvs; E: what is wanted of an exception -/
def tCall (sp : Sp) (dvs : List V) (E : XK) (t : TA) : TE := fun σ H Q => t σ H fun vs H1 => sp (vs ++ dvs) H1 Q E
/-- o.m(..) of an instance of the class at C -/
def tMeth (C : Addr) (m : Str) (sp : Sp) (dvs : List V) (E : XK) (ta : TE) (t : TA) : TE := fun σ H Q => ta σ H fun x H1 => ∃ a dx fs, x = .ref a ∧ H1 a = some (.ins C dx fs) ∧ fs.lookup m = none ∧
  t σ H1 fun vs H2 => sp (x :: (vs ++ dvs)) H2 Q E
/-- C(..): a new instance and its dict, then __init__ -/
def tMake (C : Addr) (sp : Sp) (dvs : List V) (E : XK) (t : TA) : TE := fun σ H Q => t σ H fun vs H1 => ∀ x dx, H1 x = none → H1 dx = none → dx ≠ x →
  sp (.ref x :: (vs ++ dvs)) (upd (upd H1 dx (.own x)) x (.ins C dx [])) (fun v H2 => v = .non ∧ Q (.ref x) H2) E

/-- how the parameters are bound: us the positional arguments, kw the keywords' values by name, ds the defaults that fill up -/
def Binds (K : PySem.W.Frag) (fd : FuncData) (ps : List Str) (ds : List Value) : Prop :=
  ∀ (s : Shared) (us : List Value), K.In s.heap → (us ++ ds).length = ps.length → BindsTo s fd ⟨us, []⟩ (ps.zip (us ++ ds))
/-- every parameter is given -/
theorem Binds.all {K : PySem.W.Frag} {fd : FuncData} {ps : List Str} (h : ∀ us : List Value, us.length = ps.length → bindArgs fd ⟨us, []⟩ = pure (ps.zip us)) : Binds K fd ps [] := fun s us _ hl => by
  rw [List.append_nil] at hl ⊢
  exact .of_eq (h us hl)

/-- an exception of a callee reaches what this body wants of exceptions -/
def Passes (CX : CXT) (X : Cx) (E : XK) : Prop := ∀ (pins : List (Addr × Obj)) (σ : St) (H : Hp) (s : Shared) (e : Value) (s' : Shared), Inv X pins σ H s → CX X.stack H s E e s' → X.xe e s'

section
variable {X : Cx} {CX : CXT} {k : Nat} {f C : Addr} {fd : FuncData} {ps : List Str} {sp : Sp} {dvs : List V} {ds : List Value} {E : XK} {x m : Str} {p pos apos : Pos} {e o : Expr} {es : List Expr} {ta : TE} {t : TA}

/-- the callee runs -/
theorem run_fn {pins : List (Addr × Obj)} {σ : St} {H : Hp} {s : Shared} {Q : VK} {us : List Value} {vs : List V} (F : FnOk X.prog X.w X.K X.mg X.base CX k f fd ps sp) (hr : Room k X.A) (hb : Binds X.K fd ps ds) (hd : Vals dvs ds) (hx : Passes CX X E)
    (I : Inv X pins σ H s) (r : Vals vs us) (h : sp (vs ++ dvs) H Q E) : wpAny (model X.prog X.w) X.A (call (.ref f) us) (EP X pins σ Q) X.xe s := by
  have r2 : Vals (vs ++ dvs) (us ++ ds) := r.append hd
  have hl : (us ++ ds).length = ps.length := by rw [← r2.length]; exact F.len _ _ _ _ h
  refine wpAny_call (codeAny_mono (F.run X.A X.stack s H ⟨us, []⟩ (us ++ ds) (vs ++ dvs) Q E hr I.env0 (hb s us I.kIn hl) r2 h) fun r s' hq => ?_)
  cases r with
  | error e => exact hx pins σ H s e s' I hq
  | ok fl =>
    cases fl with
    | ret u => exact I.after hq
    | next => exact False.elim hq
    | brk => exact False.elim hq
    | cont => exact False.elim hq

theorem pe_call (F : FnOk X.prog X.w X.K X.mg X.base CX k f fd ps sp) (hr : Room k X.A) (hg : Gl X x) (hm : X.mg x = some (.ref f)) (hk : PySem.W.keepIn X.K (.ref f) = true) (hb : Binds X.K fd ps ds) (hd : Vals dvs ds) (hx : Passes CX X E)
    (ha : PA X (e :: es) t) (hdb : (x == ("__debug__" : Str)) = false := by decide) (he : starEach (e :: es) X.env = (false, eval e X.env) :: starEach es X.env := by rfl) (hpl : (backTo pos (starEach es X.env)).any (·.1) = false := by rfl) :
    PE X (.Call (.Name x p) (e :: es) [] pos) (tCall sp dvs E t) := by
  intro pins s σ H Q I h
  refine wpAny_Call_Name_kw (ld_glob I hg hm ?_ hdb)
  refine PySem.W.callWith_K (h₀ := X.base) I.ok.mod.kin hk (thn (ha pos pins s σ H _ I h) fun us s1 ⟨vs, H1, I1, r, q⟩ => ⟨I1.kIn, ?_⟩) he hpl
  exact run_fn F hr hb hd hx I1 r q
theorem pe_call0 (F : FnOk X.prog X.w X.K X.mg X.base CX k f fd ps sp) (hr : Room k X.A) (hg : Gl X x) (hm : X.mg x = some (.ref f)) (hk : PySem.W.keepIn X.K (.ref f) = true) (hb : Binds X.K fd ps ds) (hd : Vals dvs ds) (hx : Passes CX X E)
    (hdb : (x == ("__debug__" : Str)) = false := by decide) : PE X (.Call (.Name x p) [] [] pos) (tCall sp dvs E tNil) := by
  intro pins s σ H Q I h
  refine wpAny_Call_Name_kw (ld_glob I hg hm ?_ hdb)
  exact PySem.W.callWith_K0 I.kIn hk (run_fn (us := []) F hr hb hd hx I .nil h)

/-- o.m(e, ..) -/
theorem pe_meth {pl : Sem Bool} (he : PE X o ta) (c : Cls X.K C) (hm : Meth X.K C m f) (F : FnOk X.prog X.w X.K X.mg X.base CX k f fd ps sp) (hr : Room k X.A) (hb : Binds X.K fd ps ds) (hd : Vals dvs ds) (hx : Passes CX X E) (ha : PA X (e :: es) t)
    (hst : starEach (e :: es) X.env = (false, eval e X.env) :: starEach es X.env := by rfl) (hpl : (backTo pos (starEach es X.env)).any (·.1) = false := by rfl)
    (ht : eval (.Call (.Attribute o m apos) (e :: es) [] pos) X.env = (do
      let ov ← eval o X.env
      standAt apos.atName
      let (f, first) ← holding [ov] (getMethod ov m pl)
      callWith pos f first (backTo pos (starEach (e :: es) X.env)) (backToKw pos (keywordEach [] X.env))) := by rfl) :
    PE X (.Call (.Attribute o m apos) (e :: es) [] pos) (tMeth C m sp dvs E ta t) := by
  intro pins s σ H Q I h
  refine PySem.W.methodCall_KW (pl := pl) (thn (he pins s σ H _ I h) fun u s1 ⟨x, H1, I1, rx, a, dx, fs, ex, ea, l, q⟩ => ?_) ht
  subst ex
  obtain rfl : u = Value.ref a := rx
  refine getmeth_ok I1 ea c hm l ?_
  refine PySem.W.callWith_K (first := [.ref a]) (h₀ := X.base) I.ok.mod.kin hm.kp (thn (ha pos pins s1 σ H1 _ I1 q) fun us s2 ⟨vs, H2, I2, r, q2⟩ => ⟨I2.kIn, ?_⟩) hst hpl
  exact run_fn (us := .ref a :: us) (vs := .ref a :: vs) F hr hb hd hx I2 (.cons rfl r) q2
/-- o.m() -/
theorem pe_meth0 {pl : Sem Bool} (he : PE X o ta) (c : Cls X.K C) (hm : Meth X.K C m f) (F : FnOk X.prog X.w X.K X.mg X.base CX k f fd ps sp) (hr : Room k X.A) (hb : Binds X.K fd ps ds) (hd : Vals dvs ds) (hx : Passes CX X E)
    (ht : eval (.Call (.Attribute o m apos) [] [] pos) X.env = (do
      let ov ← eval o X.env
      standAt apos.atName
      let (f, first) ← holding [ov] (getMethod ov m pl)
      callWith pos f first (backTo pos (starEach [] X.env)) (backToKw pos (keywordEach [] X.env))) := by rfl) :
    PE X (.Call (.Attribute o m apos) [] [] pos) (tMeth C m sp dvs E ta tNil) := by
  intro pins s σ H Q I h
  refine PySem.W.methodCall_KW (pl := pl) (thn (he pins s σ H _ I h) fun u s1 ⟨x, H1, I1, rx, a, dx, fs, ex, ea, l, q⟩ => ?_) ht
  subst ex
  obtain rfl : u = Value.ref a := rx
  refine getmeth_ok I1 ea c hm l ?_
  exact PySem.W.callWith_K0 (first := [.ref a]) I1.kIn hm.kp (run_fn (us := [.ref a]) (vs := [.ref a]) F hr hb hd hx I1 (.cons rfl .nil) q)

/-- what a class must have to be made -/
structure Mk (K : PySem.W.Frag) (C f : Addr) : Prop where
  makes : PySem.W.makesIn K C = true
  init : PySem.W.findIn K (.ref C) "__init__" = some (some (.ref f))
  fn : PySem.W.isFn K (.ref f) = true
  kp : PySem.W.keepIn K (.ref C) = true

theorem run_make {pins : List (Addr × Obj)} {σ : St} {H : Hp} {s : Shared} {Q : VK} {us : List Value} {vs : List V} (M : Mk X.K C f) (F : FnOk X.prog X.w X.K X.mg X.base CX k f fd ps sp) (hr : Room (k + 1) X.A) (hb : Binds X.K fd ps ds) (hd : Vals dvs ds)
    (hx : Passes CX X E) (I : Inv X pins σ H s) (r : Vals vs us)
    (h : ∀ x dx, H x = none → H dx = none → dx ≠ x → sp (.ref x :: (vs ++ dvs)) (upd (upd H dx (.own x)) x (.ins C dx [])) (fun v H2 => v = .non ∧ Q (.ref x) H2) E) :
    wpAny (model X.prog X.w) X.A (call (.ref C) us) (EP X pins σ Q) X.xe s := by
  have hq := h (s.heap.objs.size + 1) s.heap.objs.size (I.hok.fresh (Nat.le_succ _)) (I.hok.fresh (Nat.le_refl _)) (Nat.ne_of_lt (Nat.lt_succ_self _))
  have I2 := Inv.made (C := C) I
  have r2 : Vals (V.ref (s.heap.objs.size + 1) :: (vs ++ dvs)) (Value.ref (s.heap.objs.size + 1) :: (us ++ ds)) := .cons rfl (r.append hd)
  have hl : (Value.ref (s.heap.objs.size + 1) :: us ++ ds).length = ps.length := by
    have e := r2.length
    rw [F.len _ _ _ _ hq] at e
    exact e.symm
  refine wpAny_call (make_map (f := f) I.kIn M.makes M.init (beq_iff_eq.mp M.fn) (codeAny_mono (F.run _ X.stack _ _ ⟨Value.ref (s.heap.objs.size + 1) :: us, []⟩ (Value.ref (s.heap.objs.size + 1) :: (us ++ ds)) _ _ E (hr.make C us [])
    (I2.env0.make C us []) (hb _ (Value.ref (s.heap.objs.size + 1) :: us) I2.kIn hl) r2 hq) fun r s' hq' => ?_))
  cases r with
  | error e => exact hx pins σ _ _ e s' I2 hq'
  | ok fl =>
    cases fl with
    | ret u =>
      obtain ⟨v, H', I3, rv, ev, q3⟩ := I2.after hq'
      subst ev
      exact ⟨rv, ⟨V.ref (s.heap.objs.size + 1), H', I3, rfl, q3⟩⟩
    | next => exact False.elim hq'
    | brk => exact False.elim hq'
    | cont => exact False.elim hq'
theorem pe_make (M : Mk X.K C f) (F : FnOk X.prog X.w X.K X.mg X.base CX k f fd ps sp) (hr : Room (k + 1) X.A) (hg : Gl X x) (hm : X.mg x = some (.ref C)) (hb : Binds X.K fd ps ds) (hd : Vals dvs ds) (hx : Passes CX X E)
    (ha : PA X (e :: es) t) (hdb : (x == ("__debug__" : Str)) = false := by decide) (he : starEach (e :: es) X.env = (false, eval e X.env) :: starEach es X.env := by rfl) (hpl : (backTo pos (starEach es X.env)).any (·.1) = false := by rfl) :
    PE X (.Call (.Name x p) (e :: es) [] pos) (tMake C sp dvs E t) := by
  intro pins s σ H Q I h
  refine wpAny_Call_Name_kw (ld_glob I hg hm ?_ hdb)
  refine PySem.W.callWith_K (h₀ := X.base) I.ok.mod.kin M.kp (thn (ha pos pins s σ H _ I h) fun us s1 ⟨vs, H1, I1, r, q⟩ => ⟨I1.kIn, ?_⟩) he hpl
  exact run_make M F hr hb hd hx I1 r q
theorem pe_make0 (M : Mk X.K C f) (F : FnOk X.prog X.w X.K X.mg X.base CX k f fd ps sp) (hr : Room (k + 1) X.A) (hg : Gl X x) (hm : X.mg x = some (.ref C)) (hb : Binds X.K fd ps ds) (hd : Vals dvs ds) (hx : Passes CX X E)
    (hdb : (x == ("__debug__" : Str)) = false := by decide) : PE X (.Call (.Name x p) [] [] pos) (tMake C sp dvs E tNil) := by
  intro pins s σ H Q I h
  refine wpAny_Call_Name_kw (ld_glob I hg hm ?_ hdb)
  exact PySem.W.callWith_K0 I.kIn M.kp (run_make (us := []) M F hr hb hd hx I .nil h)
end

/-! ### keywords -/
/-- the values of the keywords, from the left -/
def PK (X : Cx) (kws : List Keyword) (t : TA) : Prop :=
  ∀ (pos : Pos) (pins : List (Addr × Obj)) (s : Shared) (σ : St) (H : Hp) (Q : List V → Hp → Prop), Inv X pins σ H s → t σ H Q → wpAny (model X.prog X.w) X.A (evalAll ((backToKw pos (keywordEach kws X.env)).map (·.2))) (AP X pins σ Q) X.xe s
section
variable {X : Cx} {CX : CXT} {k : Nat} {f C : Addr} {fd : FuncData} {ps ks : List Str} {sp : Sp} {E : XK} {x m : Str} {p pos apos kpos : Pos} {e o : Expr} {es : List Expr} {kws : List Keyword} {te ta : TE} {t tk : TA} {nm : Option Str}
theorem pk_nil : PK X [] tNil := fun _ _ _ _ H Q I h => wpAny_evalAll_nil ⟨[], H, I, .nil, h⟩
theorem pk_cons (ha : PE X e te) (hr : PK X kws t) : PK X (⟨nm, e, kpos⟩ :: kws) (tCons te t) := by
  intro pos pins s σ H Q I h
  show wpAny _ _ (evalAll ((do let v ← eval e X.env; standAt pos; pure v) :: (backToKw pos (keywordEach kws X.env)).map (·.2))) _ _ s
  refine wpAny_evalAll_cons (wpAny_bind (thn (ha pins s σ H _ I h) fun u s1 ⟨x, H1, I1, r1, q1⟩ => wpAny_bind (wpAny_standAt (wpAny_pure ?_))))
  exact thn (hr pos pins s1 σ H1 _ I1 q1) fun us s2 ⟨xs, H2, I2, r2, q2⟩ => ⟨x :: xs, H2, I2, .cons r1 r2, q2⟩

/-- how a call with keywords binds: g puts the positional values us and the keywords' values ws (names ks) in the parameters' order, defaults among them -/
structure KBinds (K : PySem.W.Frag) (fd : FuncData) (ps ks : List Str) (g : List Value → List Value → List Value) (gV : List V → List V → List V) : Prop where
  to : ∀ (s : Shared) (us ws : List Value), K.In s.heap → (g us ws).length = ps.length → BindsTo s fd ⟨us, ks.zip ws⟩ (ps.zip (g us ws))
  rel : ∀ {vs : List V} {us : List Value} {zs : List V} {ws : List Value}, Vals vs us → Vals zs ws → Vals (gV vs zs) (g us ws)
def tCallK (sp : Sp) (gV : List V → List V → List V) (E : XK) (t tk : TA) : TE := fun σ H Q => t σ H fun vs H1 => tk σ H1 fun zs H2 => sp (gV vs zs) H2 Q E
variable {g : List Value → List Value → List Value} {gV : List V → List V → List V}
theorem run_fnk {pins : List (Addr × Obj)} {σ : St} {H : Hp} {s : Shared} {Q : VK} {us ws : List Value} {vs zs : List V} (F : FnOk X.prog X.w X.K X.mg X.base CX k f fd ps sp) (hr : Room k X.A) (hb : KBinds X.K fd ps ks g gV) (hx : Passes CX X E)
    (I : Inv X pins σ H s) (r : Vals vs us) (rz : Vals zs ws) (h : sp (gV vs zs) H Q E) : wpAny (model X.prog X.w) X.A (call (.ref f) us (ks.zip ws)) (EP X pins σ Q) X.xe s := by
  have r2 := hb.rel r rz
  have hl : (g us ws).length = ps.length := by rw [← r2.length]; exact F.len _ _ _ _ h
  refine wpAny_call (codeAny_mono (F.run X.A X.stack s H ⟨us, ks.zip ws⟩ (g us ws) (gV vs zs) Q E hr I.env0 (hb.to s us ws I.kIn hl) r2 h) fun r s' hq => ?_)
  cases r with
  | error e => exact hx pins σ H s e s' I hq
  | ok fl =>
    cases fl with
    | ret u => exact I.after hq
    | next => exact False.elim hq
    | brk => exact False.elim hq
    | cont => exact False.elim hq
/-- f(e, .., k = v, ..) -/
theorem pe_callK (F : FnOk X.prog X.w X.K X.mg X.base CX k f fd ps sp) (hr : Room k X.A) (hg : Gl X x) (hm : X.mg x = some (.ref f)) (hk : PySem.W.keepIn X.K (.ref f) = true) (hb : KBinds X.K fd ps ks g gV) (hx : Passes CX X E)
    (ha : PA X (e :: es) t) (hkw : PK X kws tk) (hall : (backToKw pos (keywordEach kws X.env)).all (·.1.isSome) = true := by rfl) (hks : (backToKw pos (keywordEach kws X.env)).filterMap (·.1) = ks := by rfl)
    (hdb : (x == ("__debug__" : Str)) = false := by decide) (he : starEach (e :: es) X.env = (false, eval e X.env) :: starEach es X.env := by rfl)
    (hpl : ((backTo pos (starEach (e :: es) X.env)).any (·.1) || (backToKw pos (keywordEach kws X.env)).any (·.1.isNone)) = false := by rfl) :
    PE X (.Call (.Name x p) (e :: es) kws pos) (tCallK sp gV E t tk) := by
  intro pins s σ H Q I h
  refine wpAny_Call_Name_kw (ld_glob I hg hm ?_ hdb)
  refine PySem.W.callWith_KW (h₀ := X.base) I.ok.mod.kin hk hall (thn (ha pos pins s σ H _ I h) fun us s1 ⟨vs, H1, I1, r, q⟩ => ?_) hpl he
  refine thn (hkw pos pins s1 σ H1 _ I1 q) fun ws s2 ⟨zs, H2, I2, rz, q2⟩ => ⟨I2.kIn, ?_⟩
  rw [hks]
  exact run_fnk F hr hb hx I2 r rz q2
end

/-! ### a def's body keeps its promise -/
/-- names: the parameters first -/
structure FnScope (N P : List Str) (sc : Scope) : Prop where
  kind : sc.kind = .function
  co : sc.isCoroutine = false
  gen : sc.isGenerator = false
  nd : N.Nodup
  pre : N.take P.length = P
  par : ∀ x ∈ P, sc.names.lookup x = some .local ∨ sc.names.lookup x = some .cell
  nofree : ∀ y ∈ sc.names, y.2 ≠ .free

theorem bindL_out {kindOf : Str → Option NameKind} {x : Str} : ∀ {binds : List (Str × Value)} {m : Str → Option Value}, (∀ v, (x, v) ∉ binds) → bindL kindOf binds m x = m x
  | [], _, _ => rfl
  | (n, v) :: r, m, h => by
    unfold bindL
    rw [bindL_out fun w hw => h w (List.mem_cons_of_mem _ hw)]
    split
    · have : x ≠ n := by rintro rfl; exact h v List.mem_cons_self
      simp [this]
    · rfl
theorem bindC_out {kindOf : Str → Option NameKind} {x : Str} : ∀ {binds : List (Str × Value)} {m : Str → Option Value}, (∀ v, (x, v) ∉ binds) → bindC kindOf binds m x = m x
  | [], _, _ => rfl
  | (n, v) :: r, m, h => by
    unfold bindC
    rw [bindC_out fun w hw => h w (List.mem_cons_of_mem _ hw)]
    split
    · rfl
    · have : x ≠ n := by rintro rfl; exact h v List.mem_cons_self
      simp [this]
theorem bindL_get {kindOf : Str → Option NameKind} {x : Str} {v : Value} : ∀ {P : List Str} {vs : List Value} {i : Nat} {m : Str → Option Value}, P.Nodup → P[i]? = some x → vs[i]? = some v → kindOf x = some .local →
    bindL kindOf (P.zip vs) m x = some v
  | [], _, _, _, _, h, _, _ => by simp at h
  | _ :: _, [], _, _, _, _, h, _ => by simp at h
  | p :: P, w :: vs, 0, m, nd, h1, h2, hk => by
    simp at h1 h2; subst h1; subst h2
    show bindL kindOf ((p, w) :: P.zip vs) m p = _
    unfold bindL
    rw [bindL_out fun v hv => (List.nodup_cons.mp nd).1 (List.of_mem_zip hv).1, if_pos hk]
    simp
  | p :: P, w :: vs, i + 1, m, nd, h1, h2, hk => by
    show bindL kindOf ((p, w) :: P.zip vs) m x = _
    unfold bindL
    exact bindL_get (i := i) (List.nodup_cons.mp nd).2 (by simpa using h1) (by simpa using h2) hk
theorem bindC_get {kindOf : Str → Option NameKind} {x : Str} {v : Value} : ∀ {P : List Str} {vs : List Value} {i : Nat} {m : Str → Option Value}, P.Nodup → P[i]? = some x → vs[i]? = some v → kindOf x ≠ some .local →
    bindC kindOf (P.zip vs) m x = some v
  | [], _, _, _, _, h, _, _ => by simp at h
  | _ :: _, [], _, _, _, _, h, _ => by simp at h
  | p :: P, w :: vs, 0, m, nd, h1, h2, hk => by
    simp at h1 h2; subst h1; subst h2
    show bindC kindOf ((p, w) :: P.zip vs) m p = _
    unfold bindC
    rw [bindC_out fun v hv => (List.nodup_cons.mp nd).1 (List.of_mem_zip hv).1, if_neg hk]
    simp
  | p :: P, w :: vs, i + 1, m, nd, h1, h2, hk => by
    show bindC kindOf ((p, w) :: P.zip vs) m x = _
    unfold bindC
    exact bindC_get (i := i) (List.nodup_cons.mp nd).2 (by simpa using h1) (by simpa using h2) hk

/-- the names' values at the entry -/
def start (N : List Str) (vs : List V) : St := vs.map some ++ List.replicate (N.length - vs.length) none

/-- the context of a def's body, at its entry; an exception leaves the frame, then lies as CX says -/
def cxOf (CX : CXT) (P : Program) (w : World) (K : PySem.W.Frag) (mg : Str → Option Value) (base : Heap) (N : List Str) (qual : Str) (scope : Scope) (f : Addr) (cd : Value) (A : Around) (outer : List Env) (s : Shared) (H : Hp) (E : XK) : Cx where
  prog := P
  w := w
  K := K
  mg := mg
  base := base
  A := A.deeper (envOfC qual scope s.heap.objs.size f cd)
  N := N
  s₀ := s
  H₀ := H
  env := envOfC qual scope s.heap.objs.size f cd
  outer := outer
  stack := envOfC qual scope s.heap.objs.size f cd :: outer
  ex := []
  calm := true
  fn := fun _ => true
  pn := []
  xe := fun e s' => wpAny (model P w) (A.deeper (envOfC qual scope s.heap.objs.size f cd)) (leaving (envOfC qual scope s.heap.objs.size f cd) e) (fun _ s'' => CX outer H s E e s'') (fun e' s'' => CX outer H s E e' s'') s'

theorem cell_has {sc : Scope} {n : Nat} {x : Str} (h : sc.names.lookup x = some .cell) : ∃ c, (cellsFrom n sc.names []).lookup x = some c := by
  have q := PySem.W.cellsFrom_some sc.names n [] (.inl h)
  exact Option.isSome_iff_exists.mp q

theorem inv_start {CX : CXT} {P : Program} {w : World} {K : PySem.W.Frag} {mg : Str → Option Value} {base : Heap} {N ps : List Str} {qual : Str} {scope : Scope} {f : Addr} {cd : Value} {A : Around} {outer : List Env} {s s1 : Shared} {H : Hp} {E : XK} {us : List Value} {vs : List V}
    (S : FnScope N ps scope) (hd : A.handled = none) (e0 : Env0 P w K mg base A outer s H) (hl : vs.length = ps.length) (r : Vals vs us)
    (x : InCallC s s.heap.objs.size (bindL (envOfC qual scope s.heap.objs.size f cd).kindOf (ps.zip us) fun _ => none) (cellsFrom (s.heap.objs.size + 1) scope.names []) (bindC (envOfC qual scope s.heap.objs.size f cd).kindOf (ps.zip us) fun _ => none) s1) :
    Inv (cxOf CX P w K mg base N qual scope f cd A outer s H E) [] (start N vs) H s1 := by
  have hpl : ps.length ≤ N.length := by have := congrArg List.length S.pre; rw [List.length_take] at this; omega
  obtain ⟨h1, tk, rfl, hk⟩ := x.done
  have noA : ∀ b : Addr, b ∉ (cxOf CX P w K mg base N qual scope f cd A outer s H E).ex := fun b z => absurd (show b ∈ ([] : List Addr) from z) (by simp)
  refine ⟨⟨e0.mod, S.kind, rfl, rfl, Nat.le_refl _, fun y z c h1 h2 => ?_, fun y hy => ?_, fun y c _ h => ?_, fun _ => hd, Around.frames_deeper e0.frames, .inr ⟨rfl, rfl⟩, fun b z => absurd z (noA b), e0.bs, e0.bsz, fun b _ _ => noA b, fun b z => absurd z (noA b), e0.funs, e0.frf⟩,
    rfl, e0.bare, Un.kept hk, ⟨_, x.toInCall.ns, fun i y v h1 h2 h3 => ?_⟩, fun y c h => ⟨_, x.cell y c h⟩, e0.hok.fresh (Nat.le_refl _), fun y c h => ?_, fun p hp => absurd (show p ∈ ([] : List (Addr × Obj)) from hp) (by simp), e0.hok.kept hk, ?_⟩
  · exact name_of_addr x.apart (PySem.mem_of_lookup h1) (PySem.mem_of_lookup h2)
  · have hy : scope.names.lookup y = some .cell ∨ scope.names.lookup y = some .free := hy
    rcases hy with hy | hy
    · exact cell_has hy
    · exact absurd rfl (S.nofree _ (PySem.mem_of_lookup hy))
  · exact Nat.le_of_lt (x.above y c (PySem.mem_of_lookup h))
  · have hi : i < vs.length := by
      unfold start at h2
      by_cases hi : i < vs.length
      · exact hi
      · rw [List.getElem?_append_right (by simpa using hi)] at h2
        rw [List.getElem?_replicate] at h2
        split at h2 <;> cases h2
    have ha : vs[i]? = some v := by
      unfold start at h2
      rw [List.getElem?_append_left (by simpa using hi), List.getElem?_map] at h2
      cases e : vs[i]? with
      | none => rw [e] at h2; cases h2
      | some a => rw [e] at h2; cases h2; rfl
    obtain ⟨u, hu, rv⟩ := r.get ha
    have hp : ps[i]? = some y := by
      rw [← S.pre, List.getElem?_take_of_lt (by omega)]; exact h1
    have ndP : ps.Nodup := by rw [← S.pre]; exact S.nd.sublist (List.take_sublist _ _)
    refine ⟨u, rv, ?_⟩
    rcases S.par y (List.mem_of_getElem? hp) with k | k
    · exact .inl ⟨k, bindL_get ndP hp hu k⟩
    · obtain ⟨c, e⟩ := cell_has (n := s.heap.objs.size + 1) k
      refine .inr ⟨.inl k, c, e, ?_⟩
      have q := x.cell y c e
      rw [bindC_get ndP hp hu (by show scope.names.lookup y ≠ _; rw [k]; decide)] at q
      exact q
  · exact e0.hok.fresh (Nat.le_of_lt (x.above y c (PySem.mem_of_lookup h)))
  · unfold start
    show _ = N.length
    rw [List.length_append, List.length_map, List.length_replicate]
    omega

/-- THE RULE: a def (or a method) of the text, by its body. The body's reading t is chosen for each entry; it is run at the parameters' values -/
theorem fn_of {CX : CXT} {P : Program} {w : World} {K : PySem.W.Frag} {mg : Str → Option Value} {base : Heap} {k : Nat} {f : Addr} {name qual : Str} {params : Arguments} {body : List Stmt} {scope : Scope} {dV kV doc pm cdv ct oc : Value} {an od : Option Addr}
    {osl : Array (Option Value)} {N ps : List Str} {sp : Sp} (lk : K.lookup f = some ⟨oc, od, .func (PySem.W.fnOf name qual params body scope dV kV doc pm an cdv ct), osl⟩) (hcd : PySem.W.codeIn K cdv qual = true) (S : FnScope N ps scope)
    (len : ∀ vs H Q E, sp vs H Q E → vs.length = ps.length)
    (hbody : ∀ (A : Around) (outer : List Env) (s : Shared) (H : Hp) (vs : List V) (Q : VK) (E : XK), Room k (A.deeper (envOfC qual scope s.heap.objs.size f cdv)) → sp vs H Q E →
      ∃ t, PSs (cxOf CX P w K mg base N qual scope f cdv A outer s H E) body t ∧ t { nx := fun _ H' => Q .non H', rt := Q } (start N vs) H) :
    FnOk P w K mg base CX (k + 1) f (PySem.W.fnOf name qual params body scope dV kV doc pm an cdv ct) ps sp := by
  refine ⟨len, fun A outer s H args us vs Q E hr e0 hb r hsp => ?_⟩
  have hl := len _ _ _ _ hsp
  have KX : K.In s.heap := e0.mod.kin.keeps fun b o e => (e0.bs b o e).1
  have lim : s.heap.NoLimit := e0.mod.nolimit.keeps fun b o e => (e0.bs b o e).1
  have hkind : ∀ y ∈ ps.zip us, scope.names.lookup y.1 = some .local ∨ (scope.names.lookup y.1 = some .cell ∧ ((cellsFrom (s.heap.objs.size + 1) scope.names []).lookup y.1).isSome = true) := fun ⟨n, v⟩ hy => by
    rcases S.par n (List.of_mem_zip hy).1 with q | q
    · exact .inl q
    · exact .inr ⟨q, PySem.W.cellsFrom_some _ _ _ (.inl q)⟩
  refine codeAny_call_function hr.depth (KX _ _ lk) rfl S.co S.gen rfl (PySem.W.codeRec_of KX hcd) (hb _ _ _ _ ?_)
  refine wpAny_newFunctionEnv_cells S.kind hkind fun env he s1 x => ?_
  subst he
  refine ⟨lim.keeps x.toInCall.keep, codeAny_func ?_⟩
  obtain ⟨t, ht, hq⟩ := hbody A outer s H vs Q E (hr.deeper _) hsp
  have I : Inv (cxOf CX P w K mg base N qual scope f cdv A outer s H E) [] (start N vs) H s1 := inv_start S hr.hd e0 hl r x
  refine wpAny_mono (ht [] s1 (start N vs) H _ I hq) (fun fl s' hs => ?_) fun e s' hs => hs
  have fin : ∀ {σ' : St} {H' : Hp} {v : V} {u : Value}, Inv (cxOf CX P w K mg base N qual scope f cdv A outer s H E) [] σ' H' s' → RelV v u → Q v H' → CE outer P w H s Q u s' :=
    fun {σ' H' v u} J rv q => ⟨v, H', J.os, J.bare, J.base, J.hok, rv, q⟩
  cases fl with
  | ret u =>
    obtain ⟨v, σ', H', J, rv, q⟩ := hs
    exact fin J rv q
  | next =>
    obtain ⟨σ', H', J, q⟩ := hs
    exact fin (v := V.non) (u := Value.none) J rfl q
  | brk =>
    obtain ⟨_, _, _, q⟩ := hs
    exact False.elim q
  | cont =>
    obtain ⟨_, _, _, q⟩ := hs
    exact False.elim q
end L2

namespace L2
open PySem PySem.Spec PyProof.Rows
section
variable {X : Cx} {x : Str} {p pos : Pos} {e : Expr} {es : List Expr} {t : TA} {id T : String} {r : List V → Hp → VK → Prop}

def tCB (r : List V → Hp → VK → Prop) (t : TA) : TE := fun σ H Q => t σ H fun vs H1 => r vs H1 Q
/-- f(e, ..), f a built-in function -/
theorem pe_callB (hc : CallR X (.builtin id) r) (hg : Gl X x) (hm : X.mg x = none) (hv : bootBuiltins x = some (.builtin id)) (ha : PA X (e :: es) t) (hn : x ≠ "__name__" := by decide) (hdb : (x == ("__debug__" : Str)) = false := by decide)
    (he : starEach (e :: es) X.env = (false, eval e X.env) :: starEach es X.env := by rfl) (hpl : (backTo pos (starEach es X.env)).any (·.1) = false := by rfl) : PE X (.Call (.Name x p) (e :: es) [] pos) (tCB r t) := by
  intro pins s σ H Q I h
  refine wpAny_Call_Name_kw (ld_blt I hg hm hv ?_ hn hdb)
  exact PyProof.Rows.callWith_builtin1 (thn (ha pos pins s σ H _ I h) fun us s1 ⟨vs, H1, I1, r1, q1⟩ => hc pins s1 σ H1 vs us Q I1 r1 q1) he hpl
/-- T(e, ..), T a built-in type -/
theorem pe_callTy (hc : CallR X (.type T) r) (hg : Gl X x) (hm : X.mg x = none) (hv : bootBuiltins x = some (.type T)) (ha : PA X (e :: es) t) (hn : x ≠ "__name__" := by decide) (hdb : (x == ("__debug__" : Str)) = false := by decide)
    (he : starEach (e :: es) X.env = (false, eval e X.env) :: starEach es X.env := by rfl) (hpl : (backTo pos (starEach es X.env)).any (·.1) = false := by rfl) : PE X (.Call (.Name x p) (e :: es) [] pos) (tCB r t) := by
  intro pins s σ H Q I h
  refine wpAny_Call_Name_kw (ld_blt I hg hm hv ?_ hn hdb)
  exact PyProof.Rows.callWith_type1 (thn (ha pos pins s σ H _ I h) fun us s1 ⟨vs, H1, I1, r1, q1⟩ => hc pins s1 σ H1 vs us Q I1 r1 q1) he hpl
/-- T() -/
theorem pe_callTy0 (hc : CallR X (.type T) r) (hg : Gl X x) (hm : X.mg x = none) (hv : bootBuiltins x = some (.type T)) (hn : x ≠ "__name__" := by decide) (hdb : (x == ("__debug__" : Str)) = false := by decide) :
    PE X (.Call (.Name x p) [] [] pos) (tCB r tNil) := by
  intro pins s σ H Q I h
  refine wpAny_Call_Name_kw (ld_blt I hg hm hv ?_ hn hdb)
  exact PyProof.Rows.callWith_type0 (hc pins s σ H [] [] Q I .nil h)
end
end L2

namespace HT
open PySem PyProof.Rows

/-- t < u of tuples of ints -/
def lexLt : List Int → List Int → Bool
  | [], [] => false
  | [], _ :: _ => true
  | _ :: _, [] => false
  | x :: xs, y :: ys => if x = y then lexLt xs ys else decide (x < y)
theorem lexLt_cons (x y : Int) (xs ys : List Int) : lexLt (x :: xs) (y :: ys) = if x = y then lexLt xs ys else decide (x < y) := rfl
theorem lexLt_nil_nil : lexLt [] [] = false := rfl
theorem lexLt_nil_cons (y : Int) (ys : List Int) : lexLt [] (y :: ys) = true := rfl
theorem lexLt_cons_nil (x : Int) (xs : List Int) : lexLt (x :: xs) [] = false := rfl

theorem eqAt_int (A : Around) (s : Shared) (a : Int) (t : Tok) (c : Int) (u : Tok) : ∃ e, SeqAt.EqAt A s (.int a t) (.int c u) e ∧ (e = true ↔ a = c) :=
  ⟨(a == c), SeqAt.EqAt.int_int a t c u, by simp⟩
theorem rcLt_int (A : Around) (s : Shared) (a : Int) (t : Tok) (c : Int) (u : Tok) (prog : Program) (w : World) (E : Value → Shared → Prop) (Q : Value → Shared → Prop) (h : Q (.bool (decide (a < c))) s) :
    wpAny (model prog w) A (richCompare .Lt (.int a t) (.int c u)) Q E s :=
  (PyProof.Rows.lt_int h : wpAny (model prog w) A (compareOp .Lt (.int a t) (.int c u)) Q E s)

section
open PySem.SeqAt
open PySem.AutoSeq1 (wpAny_loadPart')
open PySem.MeetsSeq PySem.MeetsSeq2 PySem.MeetsSeq3

theorem tuple_lt_ints (l b : Addr) (items items2 : Array Value) (n n2 : Nat) (dd dd2 : Option Addr) (sl sl2 : Array (Option Value)) (ns ms : List Int) (hi : IntsAre items.toList ns) (hj : IntsAre items2.toList ms) :
    Meets (Builtin.«tuple.__lt__» ⟨[.ref l, .ref b], []⟩)
      (fun _ R s => s.heap.get? l = some { cls := .type "tuple", dict := dd, data := .seq items n, slots := sl } ∧ s.heap.get? b = some { cls := .type "tuple", dict := dd2, data := .seq items2 n2, slots := sl2 } ∧
        R (.ok (.ret (.bool (lexLt ns ms)))) s) :=
  .of_wp fun prog w A R s h => by
    obtain ⟨hp, g, d, tk, os⟩ := s; obtain ⟨hl, hb, h⟩ := h
    have f2 := AutoSeq1.sub_tuple_tuple
    have z1 : items.size = ns.length := by rw [← hi.length]; simp
    have z2 : items2.size = ms.length := by rw [← hj.length]; simp
    wp_walk using wpAny_loadPart' hl, wpAny_loadPart' hb, wpAny_forIn_list _ (fun rest b s' => b.1 = none ∧ s' = ⟨hp, g, d, tk, os⟩ ∧ ∃ (vs ws : List Value) (ns' ms' : List Int), rest = vs.zip ws ∧
      IntsAre vs ns' ∧ IntsAre ws ms' ∧ ns'.length + items2.size = ms'.length + items.size ∧ R (.ok (.ret (.bool (lexLt ns' ms')))) ⟨hp, g, d, tk, os⟩) _
    case turn =>
      rintro ⟨y, x⟩ rest b s' ⟨hb', rfl, vs, ws, ns', ms', hz, hvi, hwi, hlen, hR⟩
      cases hvi with
      | nil => rw [List.zip_nil_left] at hz; cases hz
      | cons a t hvi' =>
        cases hwi with
        | nil => rw [List.zip_nil_right] at hz; cases hz
        | cons c u hwi' =>
          rw [List.zip_cons_cons] at hz
          injection hz with hyx hrest
          injection hyx with hy hx
          subst hy hx
          rw [lexLt_cons] at hR
          simp only [List.length_cons] at hlen
          obtain ⟨e, he, hiff⟩ := eqAt_int A.in1 ⟨hp, g, d, tk, os⟩ a t c u
          refine wpAny_bind (he prog w _ _ ?_)
          cases e with
          | true =>
            rw [if_pos (hiff.mp rfl)] at hR
            wp_walk
            exact ⟨rfl, rfl, _, _, _, _, hrest, hvi', hwi', by omega, hR⟩
          | false =>
            rw [if_neg (fun q => absurd (hiff.mpr q) Bool.false_ne_true)] at hR
            have hri := rcLt_int A.in1 ⟨hp, g, d, tk, os⟩ a t c u prog w
            wp_walk using hri
            exact ⟨_, rfl, by simpa using hR⟩
    case fin =>
      rintro ⟨b1, b2⟩ s' ⟨hb', rfl, vs, ws, ns', ms', hz, hvi, hwi, hlen, hR⟩
      simp only at hb'
      subst hb'
      have hv : lexLt ns' ms' = decide (items.size < items2.size) := by
        cases hvi with
        | nil =>
          cases hwi with
          | nil =>
            simp only [List.length_nil] at hlen
            rw [lexLt_nil_nil]
            exact (decide_eq_false (by omega)).symm
          | cons c u hw =>
            simp only [List.length_nil, List.length_cons] at hlen
            rw [lexLt_nil_cons]
            exact (decide_eq_true (by omega)).symm
        | cons a t hv =>
          cases hwi with
          | nil =>
            simp only [List.length_nil, List.length_cons] at hlen
            rw [lexLt_cons_nil]
            exact (decide_eq_false (by omega)).symm
          | cons c u hw =>
            rw [List.zip_cons_cons] at hz
            cases hz
      rw [hv] at hR
      wp_walk
      exact ⟨_, rfl, by simpa [Builtin.Tuple.tupleCompareSizes] using hR⟩
    case h =>
      exact ⟨rfl, rfl, items.toList, items2.toList, ns, ms, rfl, hi, hj, by omega, h⟩
end

section
variable {prog : Program} {w : World} {A : Around} {E : Value → Shared → Prop} {s : Shared}

theorem lt_tupInts {l b : Addr} {items items2 : Array Value} {ns ms : List Int} {Q : Value → Shared → Prop} (hl : IsTup s.heap l items) (hb : IsTup s.heap b items2) (hi : IntsAre items.toList ns) (hj : IntsAre items2.toList ms)
    (hu : A.units < cLine) (h : Q (.bool (lexLt ns ms)) s) : wpAny (model prog w) A (compareOp .Lt (.ref l) (.ref b)) Q E s := by
  obtain ⟨⟨cls, dd, data, sl⟩, ho, hc, n, hd⟩ := id hl
  obtain ⟨⟨cls2, dd2, data2, sl2⟩, ho2, hc2, n2, hd2⟩ := id hb
  simp only at hc hd hc2 hd2
  subst hc hd hc2 hd2
  exact richCompare_meets_room (op := .Lt) ⟨_, ho, rfl⟩ ⟨_, ho2, rfl⟩ PySem.F.slot_tuple_lt PySem.F.entry_tuple_lt (PySem.F.args_tuple_lt_2 _ _) (tuple_lt_ints l b items items2 n n2 dd dd2 sl sl2 ns ms hi hj)
    ⟨ho, ho2, show Value.bool (lexLt ns ms) ≠ Value.notImplemented ∧ Q (.bool (lexLt ns ms)) s from ⟨(fun x => nomatch x), h⟩⟩ hu

/-- t + u, t not empty -/
theorem cat_tup {t b : Addr} {vs ws : List Value} {Q : Value → Shared → Prop} (ht : IsTup s.heap t vs.toArray) (hb : IsTup s.heap b ws.toArray) (hv : vs ≠ [])
    (h1 : ws = [] → Q (.ref t) s) (h2 : ws ≠ [] → Q (.ref s.heap.objs.size) { s with heap := s.heap.push { cls := .type "tuple", data := .seq (vs ++ ws).toArray } })
    (hsz : vs.length + ws.length ≤ sizeLine) : wpAny (model prog w) A (binaryOp .Add (.ref t) (.ref b)) Q E s := by
  obtain ⟨⟨cls, dd, data, sl⟩, ho, hc, n, hd⟩ := id ht
  obtain ⟨⟨cls2, dd2, data2, sl2⟩, ho2, hc2, n2, hd2⟩ := id hb
  simp only at hc hd hc2 hd2
  subst hc hd hc2 hd2
  have e : vs.toArray ++ ws.toArray = (vs ++ ws).toArray := by simp
  by_cases hw : ws = []
  · exact concat_meets ⟨_, ho, rfl⟩ ⟨_, ho2, rfl⟩ noFill_tuple_add seq_tuple_add PySem.F.slot_tuple_add PySem.F.entry_tuple_add (PySem.F.args_tuple_add_2 _ _)
      (tuple_addW1 t b vs.toArray ws.toArray n n2 dd dd2 sl sl2 (by simpa using hv) (by simp [hw])) ⟨ho, ho2, h1 hw⟩
  · refine concat_meets ⟨_, ho, rfl⟩ ⟨_, ho2, rfl⟩ noFill_tuple_add seq_tuple_add PySem.F.slot_tuple_add PySem.F.entry_tuple_add (PySem.F.args_tuple_add_2 _ _)
      (tuple_addW2 t b vs.toArray ws.toArray n n2 dd dd2 sl sl2 (by simpa using hv) (by simpa using hw) (by rw [List.size_toArray, List.size_toArray]; exact hsz)) ⟨ho, ho2, ?_⟩
    rw [e]
    exact h2 hw

/-! ### t[a:b], not the whole -/
/-- a slice's bound as a place among n (d where it is left out) -/
def sIx (n d : Nat) : Option Int → Nat
  | none => d
  | some v => if v < 0 then (v + (n : Int)).toNat else min v.toNat n
theorem sIx_none (n d : Nat) : sIx n d none = d := rfl
theorem sIx_nat (n d k : Nat) : sIx n d (some (k : Int)) = min k n := by
  show (if (k : Int) < 0 then ((k : Int) + (n : Int)).toNat else min (k : Int).toNat n) = min k n
  rw [if_neg (by omega), Int.toNat_natCast]
theorem sIx_le (n d : Nat) (hd : d ≤ n) (o : Option Int) : sIx n d o ≤ n := by
  cases o with
  | none => exact hd
  | some v =>
    show (if v < 0 then (v + (n : Int)).toNat else min v.toNat n) ≤ n
    by_cases hv : v < 0
    · rw [if_pos hv]; omega
    · rw [if_neg hv]; exact Nat.min_le_right _ _
theorem clip_eq (v : Int) (n d : Nat) : (if v < 0 then max (v + (n : Int)) 0 else min v (n : Int)) = ((sIx n d (some v) : Nat) : Int) := by
  show (if v < 0 then max (v + (n : Int)) 0 else min v (n : Int)) = (((if v < 0 then (v + (n : Int)).toNat else min v.toNat n) : Nat) : Int)
  by_cases hv : v < 0
  · simp only [if_pos hv]; omega
  · simp only [if_neg hv]; omega
theorem adjust_gen (lo hi : Option Int) (n : Nat) : Builtin.Slice.sliceAdjust lo hi 1 (n : Int) = (((sIx n 0 lo : Nat) : Int), ((sIx n n hi : Nat) : Int)) := by
  have h1 : ¬ ((1 : Int) < 0) := by omega
  unfold Builtin.Slice.sliceAdjust
  simp only [h1, if_false]
  refine Prod.ext ?_ ?_
  · cases lo with
    | none => rfl
    | some v => exact clip_eq v n 0
  · cases hi with
    | none => rfl
    | some v => exact clip_eq v n n
theorem places_gen (i j : Nat) : Builtin.Slice.slicePlaces (i : Int) (j : Int) 1 = j - i := by
  unfold Builtin.Slice.slicePlaces
  have h1 : (1 : Int) > 0 := by omega
  simp only [h1, if_true, Int.ediv_one]
  split <;> omega
theorem slicePart_ {v : Value} {o : Option Int} {Q : Option Int → Shared → Prop} (p : IsPart v o) (h : Q o s) : wpAny (model prog w) A (Builtin.Slice.slicePartIndex v) Q E s := by
  cases p with
  | none => exact slicePart_none h
  | int i t => exact slicePart_int h
theorem sliceApplied_gen {sl : Addr} {vl vu : Value} {lo hi : Option Int} {n : Nat} {Q : Int × Int × Nat → Shared → Prop} (hs : s.heap.IsSliceOf sl vl vu .none) (pl : IsPart vl lo) (pu : IsPart vu hi)
    (h : Q (((sIx n 0 lo : Nat) : Int), 1, sIx n n hi - sIx n 0 lo) s) : wpAny (model prog w) A (Builtin.Slice.sliceApplied (.ref sl) (pure (n : Int))) Q E s := by
  obtain ⟨os, hos, hcs, hds⟩ := id hs
  unfold Builtin.Slice.sliceApplied Builtin.Slice.sliceFields
  refine wpAny_bind (wpAny_bind (wpAny_field hos hds (x := vl) rfl (wpAny_bind (wpAny_field hos hds (x := vu) rfl (wpAny_bind (wpAny_field hos hds (x := .none) rfl (wpAny_pure ?_)))))))
  refine wpAny_bind (slicePart_none ?_)
  show wpAny _ _ (if ((1 : Int) == 0) = true then _ else _) _ _ s
  rw [if_neg (by decide)]
  refine wpAny_bind (slicePart_ pl (wpAny_bind (slicePart_ pu (wpAny_bind (wpAny_pure ?_)))))
  show wpAny _ _ (match Builtin.Slice.sliceAdjust lo hi 1 (n : Int) with | (lo, hi) => pure (lo, (1 : Int), Builtin.Slice.slicePlaces lo hi 1)) _ _ s
  rw [adjust_gen lo hi n]
  show wpAny _ _ (pure (((sIx n 0 lo : Nat) : Int), (1 : Int), Builtin.Slice.slicePlaces ((sIx n 0 lo : Nat) : Int) ((sIx n n hi : Nat) : Int) 1)) _ _ s
  rw [places_gen]
  exact wpAny_pure h
theorem pick_gen (xs : Array Value) (i k : Nat) : ((List.range k).filterMap fun (m : Nat) => xs[((i : Int) + (m : Int) * 1).toNat]?).toArray = ((xs.toList.drop i).take k).toArray := by
  have e : (fun (m : Nat) => xs[((i : Int) + (m : Int) * 1).toNat]?) = fun m => xs[i + m]? := by
    funext m
    have : ((i : Int) + (m : Int) * 1).toNat = i + m := by omega
    rw [this]
  rw [e]
  have := pick_run xs i k
  rw [List.filterMap_map] at this
  have e2 : ((fun x => xs[x]?) ∘ fun x => i + x) = fun m => xs[i + m]? := rfl
  rw [e2] at this
  rw [this]

theorem getItem_tuple_cut {t sl : Addr} {items : Array Value} {vl vu : Value} {lo hi : Option Int} {Q : Value → Shared → Prop} (ht : IsTup s.heap t items) (hs : s.heap.IsSliceOf sl vl vu .none) (pl : IsPart vl lo) (pu : IsPart vu hi)
    (hw : ¬ (sIx items.size 0 lo = 0 ∧ sIx items.size items.size hi = items.size))
    (h : Q (.ref s.heap.objs.size) { s with heap := s.heap.push { cls := .type "tuple", data := .seq ((items.toList.drop (sIx items.size 0 lo)).take (sIx items.size items.size hi - sIx items.size 0 lo)).toArray } })
    (hsz : items.size ≤ sizeLine) : wpAny (model prog w) A (getItem (.ref t) (.ref sl)) Q E s := by
  have htake : sizeOk (.seq ((items.toList.drop (sIx items.size 0 lo)).take (sIx items.size items.size hi - sIx items.size 0 lo)).toArray) := by
    show ((items.toList.drop (sIx items.size 0 lo)).take (sIx items.size items.size hi - sIx items.size 0 lo)).toArray.size ≤ sizeLine
    rw [List.size_toArray, List.length_take, List.length_drop, Array.length_toList]
    omega
  have hj : sIx items.size items.size hi ≤ items.size := sIx_le _ _ (Nat.le_refl _) hi
  obtain ⟨os, hos, hcs, hds⟩ := id hs
  have hTs : s.TypeIs (.ref sl) "slice" := ⟨os, hos, hcs⟩
  unfold getItem
  try with_reducible refine wpAny_holding ?_
  first | refine wpAny_bind (wpAny_pure ?_) | skip
  refine wpAny_bind (wpAny_sequenceKey ht.typeIs (by decide) ?_)
  refine wpAny_bind (wpAny_callSpecial?_slot (name := Str.ofString "__getitem__") ht.typeIs PyProof.Rows.slot_tuple_getitem
    (wpAny_call_entry PyProof.Rows.slot_tuple_getitem ht.typeIs entry_tuple_getitem ?_ (args_tuple_getitem _ _)))
  show wpAny _ _ (Builtin.Tuple.tupleItemsOf (.ref t) >>= _) _ _ s
  refine wpAny_bind (tupleItemsOf_ ht ?_)
  refine wpAny_bind (wpAny_typeOf hTs ?_)
  rw [if_pos (by decide)]
  refine wpAny_bind (sliceApplied_gen hs pl pu ?_)
  have hno : ¬ ((((sIx items.size 0 lo : Nat) : Int) == 0 && (1 : Int) == 1 && (sIx items.size items.size hi - sIx items.size 0 lo) == items.size) = true) := by
    intro q
    rw [Bool.and_eq_true, Bool.and_eq_true] at q
    have q1 : ((sIx items.size 0 lo : Nat) : Int) = 0 := eq_of_beq q.1.1
    have q2 : sIx items.size items.size hi - sIx items.size 0 lo = items.size := eq_of_beq q.2
    exact hw ⟨by omega, by omega⟩
  show wpAny _ _ (if (((sIx items.size 0 lo : Nat) : Int) == 0 && (1 : Int) == 1 && (sIx items.size items.size hi - sIx items.size 0 lo) == items.size) = true then _ else _) _ _ s
  rw [if_neg hno, pick_gen]
  first
    | exact wpAny_bind (m := Builtin.Tuple.tupleExact _) (wpAny_newObj_type (wpAny_pure ⟨_, rfl, wpAny_pure h⟩) htake)
    | exact wpAny_bind (m := Builtin.Tuple.tupleExact _) (wpAny_newObj_type (wpAny_bind (wpAny_pure (wpAny_pure ⟨_, rfl, wpAny_pure h⟩))) htake)
    | exact wpAny_bind (wpAny_bind (m := Builtin.Tuple.tupleExact _) (wpAny_newObj_type (wpAny_pure (wpAny_pure ⟨_, rfl, wpAny_pure h⟩)) htake))
    | exact wpAny_bind (wpAny_bind (m := Builtin.Tuple.tupleExact _) (wpAny_newObj_type (wpAny_pure ⟨_, rfl, wpAny_pure h⟩) htake))
end
end HT

namespace L2
open PySem PySem.Spec PyProof.Rows

/-! ### the parts of a slice -/
abbrev TO := St → Hp → (Option Int → Hp → Prop) → Prop
/-- a slice's part (left out, or an int) -/
def PO (X : Cx) (e : Option Expr) (t : TO) : Prop :=
  ∀ (pins : List (Addr × Obj)) (s : Shared) (σ : St) (H : Hp) (Q : Option Int → Hp → Prop), Inv X pins σ H s → t σ H Q →
    wpAny (model X.prog X.w) X.A (evalPart e X.env) (fun u s' => ∃ o H', Inv X pins σ H' s' ∧ IsPart u o ∧ Q o H') X.xe s
def tNoPart : TO := fun _ H Q => Q none H
def tPart (t : TE) : TO := fun σ H Q => t σ H fun x H1 => ∃ i, x = .int i ∧ Q (some i) H1

theorem intsAre_of {ns : List Int} : ∀ {us : List Value}, Vals (ns.map V.int) us → IntsAre us ns := by
  induction ns with
  | nil => intro us r; rw [List.map_nil] at r; cases r; exact .nil
  | cons n ns ih =>
    intro us r
    rw [List.map_cons] at r
    cases r with
    | cons r1 r2 =>
      obtain ⟨t, e⟩ := r1
      subst e
      exact .cons n t (ih r2)

section
variable {X : Cx} {e : Expr} {te : TE} {lo hi : Option Expr} {tl th : TO} {pos p2 : Pos}

theorem po_none : PO X none tNoPart := by
  intro pins s σ H Q I h
  rw [evalPart_none]
  exact wpAny_pure ⟨none, H, I, .none, h⟩
theorem po_some (h : PE X e te) : PO X (some e) (tPart te) := by
  intro pins s σ H Q I hw
  rw [evalPart_some]
  refine thn (h pins s σ H _ I hw) fun u s1 ⟨x, H1, I1, r1, q1⟩ => ?_
  obtain ⟨i, rfl, q⟩ := q1
  obtain ⟨t, rfl⟩ := r1
  exact ⟨some i, H1, I1, .int i t, q⟩

/-- what a slice of a value is, by values: the slice object stands at sl -/
def SlR (X : Cx) (r : V → Option Int → Option Int → Hp → VK → Prop) : Prop :=
  ∀ (pins : List (Addr × Obj)) (s : Shared) (σ : St) (H : Hp) (x : V) (v vl vu : Value) (lo hi : Option Int) (sl : Addr) (Q : VK), Inv X pins σ H s → RelV x v → s.heap.IsSliceOf sl vl vu .none → IsPart vl lo → IsPart vu hi → r x lo hi H Q →
    ∃ T id, typeLookup (.type T) "__getitem__" = pure (some (.builtin id)) ∧ s.TypeIs v T ∧ wpAny (model X.prog X.w) X.A (getItem v (.ref sl)) (EP X pins σ Q) X.xe s
theorem SlR.or {r r' : V → Option Int → Option Int → Hp → VK → Prop} (h : SlR X r) (h' : SlR X r') : SlR X (fun x lo hi H Q => r x lo hi H Q ∨ r' x lo hi H Q) := by
  intro pins s σ H x v vl vu lo hi sl Q I rx hs pl pu q
  rcases q with q | q
  · exact h pins s σ H x v vl vu lo hi sl Q I rx hs pl pu q
  · exact h' pins s σ H x v vl vu lo hi sl Q I rx hs pl pu q
def tSl (r : V → Option Int → Option Int → Hp → VK → Prop) (te : TE) (tl th : TO) : TE := fun σ H Q => te σ H fun x H1 => tl σ H1 fun l H2 => th σ H2 fun u H3 => r x l u H3 Q
/-- a[lo:hi], any a -/
theorem pe_slice {r : V → Option Int → Option Int → Hp → VK → Prop} (hr : SlR X r) (he : PE X e te) (hl : PO X lo tl) (hu : PO X hi th) : PE X (.Subscript e (.Slice lo hi none p2) pos) (tSl r te tl th) := by
  intro pins s σ H Q I h
  refine Subscript_ (thn (he pins s σ H _ I h) fun v s1 ⟨x, H1, I1, r1, q1⟩ => ?_)
  refine wpAny_Slice (thn (hl pins s1 σ H1 _ I1 q1) fun vl s2 ⟨l, H2, I2, pl, q2⟩ => thn (hu pins s2 σ H2 _ I2 q2) fun vu s3 ⟨u, H3, I3, pu, q3⟩ => ?_)
  rw [evalPart_none]
  refine wpAny_pure ?_
  have I4 : Inv X pins σ H3 { s3 with heap := s3.heap.push { cls := .type "slice", data := .fields #[vl, vu, .none] } } := I3.kept (t' := s3.toks) fun b ob q => Heap.get?_push_of_some _ q
  obtain ⟨T, id, hT, ht, hg⟩ := hr pins { s3 with heap := s3.heap.push { cls := .type "slice", data := .fields #[vl, vu, .none] } } σ H3 x v vl vu l u s3.heap.objs.size Q I4 r1 (Heap.IsSliceOf.new ..) pl pu q3
  show wpAny (model X.prog X.w) X.A (subscriptTail e (.Slice lo hi none p2) v (.ref s3.heap.objs.size)) (EP X pins σ Q) X.xe { s3 with heap := s3.heap.push { cls := .type "slice", data := .fields #[vl, vu, .none] } }
  exact tail_any (ops := [.ref s3.heap.objs.size, v]) ht hT hg (by with_unfolding_all rfl)

/-- the items of xs[lo:hi] -/
def cutV (xs : List V) (lo hi : Option Int) : List V := (xs.drop (HT.sIx xs.length 0 lo)).take (HT.sIx xs.length xs.length hi - HT.sIx xs.length 0 lo)
theorem cutV_length (xs : List V) (lo hi : Option Int) : (cutV xs lo hi).length ≤ xs.length := by
  unfold cutV
  rw [List.length_take, List.length_drop]
  omega
/-- t[lo:hi], not the whole of it (the whole would be t itself) -/
def rSlT (K : PySem.W.Frag) : V → Option Int → Option Int → Hp → VK → Prop := fun x lo hi H Q => ∃ a xs, x = .ref a ∧ SqT K H a xs ∧
  ¬ (HT.sIx xs.length 0 lo = 0 ∧ HT.sIx xs.length xs.length hi = xs.length) ∧ ∀ p, H p = none → Q (.ref p) (upd H p (.tup (cutV xs lo hi)))
theorem sl_tup : SlR X (rSlT X.K) := by
  intro pins s σ H x v vl vu lo hi sl Q I rx hs pl pu h
  obtain ⟨a, xs, rfl, hx, hw, q⟩ := h
  cases rx
  obtain ⟨its, r, ht, hz⟩ := I.tuple hx
  have hlen : its.toArray.size = xs.length := by rw [List.size_toArray]; exact r.length.symm
  refine ⟨"tuple", _, PyProof.Rows.slot_tuple_getitem.lookup, ht.typeIs, ?_⟩
  refine HT.getItem_tuple_cut ht hs pl pu (by rw [hlen]; exact hw) ?_ (by rw [hlen]; exact hz)
  rw [hlen]
  refine ⟨.ref s.heap.objs.size, _, I.laid (t' := s.toks) (o := .tup (cutV xs lo hi)) (fun b ob q => Heap.get?_push_of_some _ q) (Nat.le_refl _) ?_, rfl, q _ (I.hok.fresh (Nat.le_refl _))⟩
  exact ⟨Nat.le_trans (cutV_length xs lo hi) hz, _, (r.drop (HT.sIx xs.length 0 lo)).take (HT.sIx xs.length xs.length hi - HT.sIx xs.length 0 lo), IsTup.new _ _⟩

/-! ### t < u, t + u -/
def rLtT (K : PySem.W.Frag) : R2 := fun x y H Q => ∃ a b ns ms, x = .ref a ∧ y = .ref b ∧ SqT K H a (ns.map V.int) ∧ SqT K H b (ms.map V.int) ∧ Q (.bl (HT.lexLt ns ms)) H
theorem op_ltT (hu : X.A.units < cLine) : OpR X (compareOp .Lt) (rLtT X.K) := by
  intro pins s σ H x y v u Q I rx ry h
  obtain ⟨a, b, ns, ms, rfl, rfl, ha, hb, q⟩ := h
  cases rx
  cases ry
  obtain ⟨its, r1, p1, _⟩ := I.tuple ha
  obtain ⟨its2, r2, p2, _⟩ := I.tuple hb
  have i1 : IntsAre its.toArray.toList ns := intsAre_of r1
  have i2 : IntsAre its2.toArray.toList ms := intsAre_of r2
  exact HT.lt_tupInts p1 p2 i1 i2 hu ⟨.bl (HT.lexLt ns ms), H, I, rfl, q⟩
/-- t + u, t not empty: u empty gives t itself -/
def rCatT (K : PySem.W.Frag) : R2 := fun x y H Q => ∃ a b xs ys, x = .ref a ∧ y = .ref b ∧ SqT K H a xs ∧ SqT K H b ys ∧ xs ≠ [] ∧ xs.length + ys.length ≤ sizeLine ∧
  (ys = [] → Q (.ref a) H) ∧ (ys ≠ [] → ∀ p, H p = none → Q (.ref p) (upd H p (.tup (xs ++ ys))))
theorem Vals.nil_iff {xs : List V} {us : List Value} (r : Vals xs us) : us = [] ↔ xs = [] := by
  cases r with
  | nil => simp
  | cons _ _ => simp
theorem op_catT : OpR X (binaryOp .Add) (rCatT X.K) := by
  intro pins s σ H x y v u Q I rx ry h
  obtain ⟨a, b, xs, ys, rfl, rfl, ha, hb, hx, hz, q1, q2⟩ := h
  cases rx
  cases ry
  obtain ⟨its, r1, p1, _⟩ := I.tuple ha
  obtain ⟨its2, r2, p2, _⟩ := I.tuple hb
  refine HT.cat_tup p1 p2 (fun z => hx (r1.nil_iff.mp z)) (fun z => ⟨.ref a, H, I, rfl, q1 (r2.nil_iff.mp z)⟩) (fun z => ?_) (by rw [← r1.length, ← r2.length]; exact hz)
  refine ⟨.ref s.heap.objs.size, _, I.laid (t' := s.toks) (o := .tup (xs ++ ys)) (fun b ob q => Heap.get?_push_of_some _ q) (Nat.le_refl _) ?_, rfl, q2 (fun w => z (r2.nil_iff.mpr w)) _ (I.hok.fresh (Nat.le_refl _))⟩
  exact ⟨by rw [List.length_append]; exact hz, _, r1.append r2, IsTup.new _ _⟩
/-- tuple(t) -/
theorem call_tupleT : CallR X (.type "tuple") (fun xs H Q => ∃ a ys, xs = [.ref a] ∧ SqT X.K H a ys ∧ Q (.ref a) H) := by
  intro pins s σ H xs us Q I r h
  obtain ⟨a, ys, rfl, ha, q⟩ := h
  obtain ⟨u, rfl, ru⟩ := vals1 r
  cases ru
  obtain ⟨its, _, p1, _⟩ := I.tuple ha
  exact call_tuple_same (items := its.toArray) p1 ⟨.ref a, H, I, rfl, q⟩
end
end L2

namespace L2
open PySem PySem.Spec PyProof.Rows

/-! ### places -/
/-- the place that an index of any sign means -/
def ixN (n : Nat) (i : Int) : Option Nat := if 0 ≤ i then (if i < n then some i.toNat else none) else if -(n : Int) ≤ i then some (i + n).toNat else none
def atI {α : Type} (xs : List α) (i : Int) : Option α := (ixN xs.length i).bind fun j => xs[j]?
theorem ixN_seq {n : Nat} {i : Int} {j : Nat} (h : ixN n i = some j) : seqIndex? i n = some j ∧ j < n ∧ -(n : Int) ≤ i ∧ i < n := by
  unfold ixN at h
  by_cases h0 : 0 ≤ i
  · rw [if_pos h0] at h
    by_cases h1 : i < n
    · rw [if_pos h1] at h
      have e : i.toNat = j := Option.some.inj h
      exact ⟨by rw [seqIndex_of h0 h1, e], by omega, by omega, h1⟩
    · rw [if_neg h1] at h; cases h
  · rw [if_neg h0] at h
    by_cases h1 : -(n : Int) ≤ i
    · rw [if_pos h1] at h
      have e : (i + n).toNat = j := Option.some.inj h
      exact ⟨by rw [seqIndex_neg (by omega) h1, e], by omega, h1, by omega⟩
    · rw [if_neg h1] at h; cases h
theorem atI_get {α : Type} {xs : List α} {i : Int} {v : α} (h : atI xs i = some v) : ∃ j, seqIndex? i xs.length = some j ∧ xs[j]? = some v ∧ j < xs.length ∧ -(xs.length : Int) ≤ i ∧ i < xs.length := by
  unfold atI at h
  cases e : ixN xs.length i with
  | none => rw [e] at h; cases h
  | some j =>
    rw [e] at h
    obtain ⟨h1, h2, h3, h4⟩ := ixN_seq e
    exact ⟨j, h1, h, h2, h3, h4⟩
theorem atI_nat {α : Type} {xs : List α} {j : Nat} {v : α} (h : xs[j]? = some v) : atI xs (j : Int) = some v := by
  have hj : j < xs.length := (List.getElem?_eq_some_iff.mp h).1
  have e : ixN xs.length (j : Int) = some j := by
    unfold ixN
    rw [if_pos (by omega), if_pos (by omega)]; simp
  unfold atI; rw [e]; exact h
theorem atI_last {α : Type} (xs : List α) (v : α) : atI (xs ++ [v]) (-1) = some v := by
  have hl : (xs ++ [v]).length = xs.length + 1 := by simp
  have e : ixN (xs ++ [v]).length (-1) = some xs.length := by
    unfold ixN
    rw [hl, if_neg (by decide), if_pos (by omega)]
    congr 1
    omega
  unfold atI
  rw [e]
  show (xs ++ [v])[xs.length]? = some v
  simp

/-! ### what may be subscripted -/
/-- what stands as an index of a plain subscript -/
def PlainIx (b : Expr) : Prop := ∀ o i, subscripted b false o i = operate [o, i] (getItem o i)
/-- a subscript by values -/
def IxR (X : Cx) (r : R2) : Prop :=
  ∀ (value slice : Expr) (pins : List (Addr × Obj)) (s : Shared) (σ : St) (H : Hp) (x y : V) (v u : Value) (Q : VK), Inv X pins σ H s → RelV x v → RelV y u → r x y H Q →
    subscripted slice false v u = operate [v, u] (getItem v u) → wpAny (model X.prog X.w) X.A (subscriptTail value slice v u) (EP X pins σ Q) X.xe s
/-- a call of a builtin's method by values: the receiver, the arguments -/
def MtR (X : Cx) (id : String) (r : V → List V → Hp → VK → Prop) : Prop :=
  ∀ (pins : List (Addr × Obj)) (s : Shared) (σ : St) (H : Hp) (x : V) (xs : List V) (v : Value) (us : List Value) (Q : VK), Inv X pins σ H s → RelV x v → Vals xs us → r x xs H Q →
    wpAny (model X.prog X.w) X.A (call (.builtin id) (v :: us)) (EP X pins σ Q) X.xe s
section
variable {X : Cx} {a b : Expr} {ta tb : TE} {pos : Pos}
theorem IxR.or {r r' : R2} (h : IxR X r) (h' : IxR X r') : IxR X (fun x y H Q => r x y H Q ∨ r' x y H Q) := by
  intro value slice pins s σ H x y v u Q I rx ry q hs
  rcases q with q | q
  · exact h value slice pins s σ H x y v u Q I rx ry q hs
  · exact h' value slice pins s σ H x y v u Q I rx ry q hs
theorem MtR.or {id : String} {r r' : V → List V → Hp → VK → Prop} (h : MtR X id r) (h' : MtR X id r') : MtR X id (fun x xs H Q => r x xs H Q ∨ r' x xs H Q) := by
  intro pins s σ H x xs v us Q I rx rs q
  rcases q with q | q
  · exact h pins s σ H x xs v us Q I rx rs q
  · exact h' pins s σ H x xs v us Q I rx rs q
/-- a[b] -/
theorem pe_ix {r : R2} (hr : IxR X r) (ha : PE X a ta) (hb : PE X b tb) (hs : PlainIx b) : PE X (.Subscript a b pos) (tOp r ta tb) := by
  intro pins s σ H Q I h
  exact Subscript_ (binT ha hb I h fun v u s2 x y H2 I2 rx ry q => hr a b pins s2 σ H2 x y v u Q I2 rx ry q (hs _ _))

def rIxL (K : PySem.W.Frag) : R2 := fun x y H Q => ∃ p xs i v, x = .ref p ∧ y = .int i ∧ SqL K H p xs ∧ atI xs i = some v ∧ Q v H
def rIxT (K : PySem.W.Frag) : R2 := fun x y H Q => ∃ p xs i v, x = .ref p ∧ y = .int i ∧ SqT K H p xs ∧ atI xs i = some v ∧ Q v H
def rIxS : R2 := fun x y H Q => ∃ z i c, x = .str z ∧ y = .int i ∧ z.length ≤ sizeLine ∧ atI z.cps.toList i = some c ∧ Q (.str ⟨#[c]⟩) H
theorem ix_list : IxR X (rIxL X.K) := by
  intro value slice pins s σ H x y v u Q I rx ry h hs
  obtain ⟨p, xs, i, z, rfl, rfl, hq, he, q⟩ := h
  cases rx
  obtain ⟨t, rfl⟩ := ry
  obtain ⟨its, r, pl, hz⟩ := I.list hq
  obtain ⟨j, h1, h2, h3, h4, h5⟩ := atI_get he
  obtain ⟨w, ew, rw'⟩ := r.get h2
  have hl := r.length
  have hn := line63
  have fin : EP X pins σ Q w s := ⟨z, H, I, rw', q⟩
  by_cases h0 : 0 ≤ i
  · have hj : i.toNat = j := by
      rw [seqIndex_of h0 h5] at h1
      exact Option.some.inj h1
    exact item_listR pl.isList h0 (by omega) (by rw [hj]; simpa using ew) fin hs
  · have hj : (i + (its.toArray.size : Int)).toNat = j := by
      rw [seqIndex_neg (by omega) h4] at h1
      rw [List.size_toArray, ← hl]
      exact Option.some.inj h1
    exact subscriptTail_builtinR (x := w) pl.isList.typeIs slot_list_getitem.lookup
      (wpAny_getItem_list_neg (Q := fun r s' => r = w ∧ EP X pins σ Q r s') pl.isList (by omega) (by rw [List.size_toArray] <;> omega) (by omega) (by rw [hj]; simpa using ew) ⟨rfl, fin⟩) hs
theorem ix_tup : IxR X (rIxT X.K) := by
  intro value slice pins s σ H x y v u Q I rx ry h hs
  obtain ⟨p, xs, i, z, rfl, rfl, hq, he, q⟩ := h
  cases rx
  obtain ⟨t, rfl⟩ := ry
  obtain ⟨its, r, pl, hz⟩ := I.tuple hq
  obtain ⟨j, h1, h2, h3, h4, h5⟩ := atI_get he
  obtain ⟨w, ew, rw'⟩ := r.get h2
  have hl := r.length
  have hn := line63
  have fin : EP X pins σ Q w s := ⟨z, H, I, rw', q⟩
  exact subscriptTail_builtinR (x := w) pl.typeIs slot_tuple_getitem.lookup
    (getItem_tuple (j := j) (Q := fun r s' => r = w ∧ EP X pins σ Q r s') pl (by omega) (by omega) (by rw [List.size_toArray, ← hl]; exact h1) (by simpa using ew) ⟨rfl, fin⟩) hs
theorem ix_str : IxR X rIxS := by
  intro value slice pins s σ H x y v u Q I rx ry h hs
  obtain ⟨z, i, c, rfl, rfl, hz, he, q⟩ := h
  obtain ⟨t, rfl⟩ := rx
  obtain ⟨t', rfl⟩ := ry
  obtain ⟨j, h1, h2, h3, h4, h5⟩ := atI_get he
  have hl : z.cps.toList.length = z.length := by simp [Str.length]
  rw [hl] at h1 h4 h5
  have hn := line63
  exact tail_any (typeIs_str s z t) slot_str_getitem.lookup (getItem_str (c := c) (by
    have e1 : decide (i < -(2 ^ 63 : Int)) = false := decide_eq_false (by omega)
    have e2 : decide (i ≥ 2 ^ 63) = false := decide_eq_false (by omega)
    rw [e1, e2, Bool.or_false]) (by rw [h1]; simpa using h2) ⟨.str ⟨#[c]⟩, H, I.tok _, ⟨_, rfl⟩, q⟩) hs
/-- list, tuple or str -/
def rIx (K : PySem.W.Frag) : R2 := fun x y H Q => rIxL K x y H Q ∨ rIxT K x y H Q ∨ rIxS x y H Q
theorem ix_seq : IxR X (rIx X.K) := ix_list.or (ix_tup.or ix_str)

/-! ### xs[i] = v, any sign -/
/-- the list's object behind a store -/
theorem mapSeq_set (its : List Value) (n j : Nat) (u : Value) : Obj.mapSeq (·.setIfInBounds j u) { cls := .type "list", data := .seq its.toArray n } = { cls := .type "list", data := .seq (its.set j u).toArray n } := by
  simp [Obj.mapSeq]
theorem Inv.lst {pins : List (Addr × Obj)} {σ : St} {H : Hp} {s : Shared} {p : Addr} {xs : List V} (I : Inv X pins σ H s) (h : H p = some (.lst xs)) :
    ∃ (its : List Value) (n : Nat), Vals xs its ∧ s.heap.get? p = some { cls := .type "list", data := .seq its.toArray n } ∧ xs.length ≤ sizeLine := by
  obtain ⟨z, its, n, r, e⟩ := I.hok p _ h
  exact ⟨its, n, r, e, z⟩
/-- the list at p is written by an update of its object -/
theorem Inv.lstUpd {pins : List (Addr × Obj)} {σ : St} {H : Hp} {s : Shared} {p : Addr} {xs ys : List V} {its its' : List Value} {n n' : Nat} {f : Obj → Obj} (I : Inv X pins σ H s) (h : H p = some (.lst xs))
    (ho : s.heap.get? p = some { cls := .type "list", data := .seq its.toArray n }) (hf : f { cls := .type "list", data := .seq its.toArray n } = { cls := .type "list", data := .seq its'.toArray n' }) (r : Vals ys its') (hz : ys.length ≤ sizeLine) (t : Nat) :
    Inv X pins σ (upd H p (.lst ys)) { s with heap := s.heap.update p f, toks := t } := by
  have e : (s.heap.update p f).get? p = some { cls := .type "list", data := .seq its'.toArray n' } := by
    rw [Heap.get?_update_self f ho (by rw [hf] <;> rfl), hf]
  refine I.write (x := p) (e := p) (by rw [h]; trivial) (.inl rfl) (fun b u hb q => (Heap.get?_update_other _ _ (Ne.symm hb)).trans q) ⟨_, e⟩ ?_
  exact ⟨hz, its', n', r, e⟩
def rSetL : V → V → V → Hp → (Hp → Prop) → Prop := fun o i v H Q => ∃ p xs k j, o = .ref p ∧ i = .int k ∧ H p = some (.lst xs) ∧ ixN xs.length k = some j ∧ Q (upd H p (.lst (xs.set j v)))
theorem set_list : PSet X rSetL := by
  intro pins s σ H o i v ov iv u Q I ro ri rv h
  obtain ⟨p, xs, k, j, rfl, rfl, hp, hj, q⟩ := h
  cases ro
  obtain ⟨t, rfl⟩ := ri
  obtain ⟨its, n, r, ho, hz⟩ := I.lst hp
  obtain ⟨h1, h2, h3, h4⟩ := ixN_seq hj
  have hl := r.length
  have hn := line63
  have I' : Inv X pins σ (upd H p (.lst (xs.set j v))) { s with heap := s.heap.update p (Obj.mapSeq (·.setIfInBounds j u)) } :=
    I.lstUpd hp ho (mapSeq_set its n j u) (r.set rv j) (by rw [List.length_set]; exact hz) s.toks
  by_cases h0 : 0 ≤ k
  · have hk : k.toNat = j := by
      rw [seqIndex_of h0 h4] at h1
      exact Option.some.inj h1
    exact PySem.W.ki_setAt ho h0 (by omega) (by rw [List.size_toArray, ← hl]; exact h4) (by rw [hk]; exact ⟨_, I', q⟩)
  · have hk : (k + (its.toArray.size : Int)).toNat = j := by
      rw [seqIndex_neg (by omega) h3] at h1
      rw [List.size_toArray, ← hl]
      exact Option.some.inj h1
    exact PySem.W.ki_setBack ho (by omega) (by rw [List.size_toArray, ← hl]; exact h3) (by omega) (by rw [hk]; exact ⟨_, I', q⟩)

/-! ### slices -/
theorem slice_bounds (lo hi : Option Int) (n : Nat) : (sliceBounds lo hi none n).1 = ((HT.sIx n 0 lo : Nat) : Int) ∧ (sliceBounds lo hi none n).2.1 = ((HT.sIx n n hi : Nat) : Int) ∧ (sliceBounds lo hi none n).2.2 = 1 := by
  refine ⟨?_, ?_, rfl⟩
  · cases lo with
    | none => simp [sliceBounds, HT.sIx]
    | some i =>
      simp only [sliceBounds, HT.sIx, Option.getD_none, show (1 : Int) > 0 by decide, if_true]
      by_cases h : i < 0
      · simp only [h, if_true] <;> omega
      · simp only [h, if_false] <;> omega
  · cases hi with
    | none => simp [sliceBounds, HT.sIx]
    | some i =>
      simp only [sliceBounds, HT.sIx, Option.getD_none, show (1 : Int) > 0 by decide, if_true]
      by_cases h : i < 0
      · simp only [h, if_true] <;> omega
      · simp only [h, if_false] <;> omega
theorem slicePick_cut (its : List Value) (lo hi : Option Int) : slicePick its.toArray lo hi none = ((its.drop (HT.sIx its.length 0 lo)).take (HT.sIx its.length its.length hi - HT.sIx its.length 0 lo)).toArray := by
  obtain ⟨h1, h2, h3⟩ := slice_bounds lo hi its.toArray.size
  unfold slicePick
  rw [h1, h2, h3]
  simp only [sliceRange_one, pick_run, List.size_toArray] <;> rfl
/-- xs[lo:hi] of a list: a new list -/
def rSlL (K : PySem.W.Frag) : V → Option Int → Option Int → Hp → VK → Prop := fun x lo hi H Q => ∃ a xs, x = .ref a ∧ SqL K H a xs ∧ ∀ p, H p = none → Q (.ref p) (upd H p (.lst (cutV xs lo hi)))
theorem sl_list : SlR X (rSlL X.K) := by
  intro pins s σ H x v vl vu lo hi sl Q I rx hs pl pu h
  obtain ⟨a, xs, rfl, hx, q⟩ := h
  cases rx
  obtain ⟨its, r, ht, hz⟩ := I.list hx
  have hlen := r.length
  refine ⟨"list", _, slot_list_getitem.lookup, ht.isList.typeIs, ?_⟩
  refine wpAny_getItem_list_slice ht.isList hs pl pu .none (by simp) ?_ (by rw [List.size_toArray] <;> omega)
  rw [slicePick_cut, ← hlen]
  refine ⟨.ref s.heap.objs.size, _, I.laid (t' := s.toks) (o := .lst (cutV xs lo hi)) (fun b ob q => Heap.get?_push_of_some _ q) (Nat.le_refl _) ?_, rfl, q _ (I.hok.fresh (Nat.le_refl _))⟩
  exact ⟨Nat.le_trans (cutV_length xs lo hi) hz, _, 0, (r.drop (HT.sIx xs.length 0 lo)).take (HT.sIx xs.length xs.length hi - HT.sIx xs.length 0 lo), Heap.get?_push_size _ rfl⟩

/-! ### in, not in: flat items -/
def flatV : V → Bool
  | .non => true
  | .bl _ => true
  | .int _ => true
  | .str _ => true
  | _ => false
/-- == of flat values -/
def eqV : V → V → Bool
  | .non, .non => true
  | .bl a, .bl b => a == b
  | .bl a, .int b => (if a then 1 else 0) == b
  | .int a, .bl b => a == (if b then 1 else 0)
  | .int a, .int b => a == b
  | .str a, .str b => a == b
  | _, _ => false
theorem eqAt_V {A : Around} {s : Shared} {y x : V} {u v : Value} (ry : RelV y u) (rx : RelV x v) (fy : flatV y = true) (fx : flatV x = true) : SeqAt.EqAt A s u v (eqV y x) := by
  cases y with
  | non =>
    cases ry
    cases x with
    | non => cases rx; exact SeqAt.EqAt.same _
    | bl b => cases rx; exact SeqAt.EqAt.none_bool b
    | int b => obtain ⟨t, rfl⟩ := rx; exact SeqAt.EqAt.none_int b t
    | str b => obtain ⟨t, rfl⟩ := rx; exact SeqAt.EqAt.none_str b t
    | _ => exact absurd (show false = true from fx) Bool.false_ne_true
  | bl a =>
    cases ry
    cases x with
    | non => cases rx; exact SeqAt.EqAt.bool_none a
    | bl b => cases rx; exact SeqAt.EqAt.bool_bool a b
    | int b => obtain ⟨t, rfl⟩ := rx; exact SeqAt.EqAt.bool_int a b t
    | str b => obtain ⟨t, rfl⟩ := rx; exact SeqAt.EqAt.bool_str a b t
    | _ => exact absurd (show false = true from fx) Bool.false_ne_true
  | int a =>
    obtain ⟨t', rfl⟩ := ry
    cases x with
    | non => cases rx; exact SeqAt.EqAt.int_none a t'
    | bl b => cases rx; exact SeqAt.EqAt.int_bool a t' b
    | int b => obtain ⟨t, rfl⟩ := rx; exact SeqAt.EqAt.int_int a t' b t
    | str b => obtain ⟨t, rfl⟩ := rx; exact SeqAt.EqAt.int_str a t' b t
    | _ => exact absurd (show false = true from fx) Bool.false_ne_true
  | str a =>
    obtain ⟨t', rfl⟩ := ry
    cases x with
    | non => cases rx; exact SeqAt.EqAt.str_none a t'
    | bl b => cases rx; exact SeqAt.EqAt.str_bool a t' b
    | int b => obtain ⟨t, rfl⟩ := rx; exact SeqAt.EqAt.str_int a t' b t
    | str b => obtain ⟨t, rfl⟩ := rx; exact SeqAt.EqAt.str_str a t' b t
    | _ => exact absurd (show false = true from fx) Bool.false_ne_true
  | _ => exact absurd (show false = true from fy) Bool.false_ne_true
/-- the items' answers, read off the values (a value's own answer does not lean on its token) -/
def eqU (x : V) (u : Value) : Bool := match u with
  | .none => eqV .non x
  | .bool b => eqV (.bl b) x
  | .int i _ => eqV (.int i) x
  | .str z _ => eqV (.str z) x
  | _ => false
theorem eqU_of {x y : V} {u : Value} (r : RelV y u) (f : flatV y = true) : eqU x u = eqV y x := by
  cases y with
  | non => cases r; rfl
  | bl b => cases r; rfl
  | int i => obtain ⟨t, rfl⟩ := r; rfl
  | str z => obtain ⟨t, rfl⟩ := r; rfl
  | _ => exact absurd (show false = true from f) Bool.false_ne_true
theorem any_eqU {x : V} : ∀ {xs : List V} {us : List Value}, Vals xs us → xs.all flatV = true → us.any (eqU x) = xs.any fun y => eqV y x
  | _, _, .nil, _ => rfl
  | y :: xs, u :: us, .cons r t, f => by
    rw [List.all_cons, Bool.and_eq_true] at f
    rw [List.any_cons, List.any_cons, eqU_of r f.1, any_eqU t f.2]
theorem mem_eqAt {A : Around} {s : Shared} {x : V} {v : Value} (rx : RelV x v) (fx : flatV x = true) : ∀ {xs : List V} {us : List Value}, Vals xs us → xs.all flatV = true → ∀ u ∈ us, SeqAt.EqAt A s u v (eqU x u)
  | _, _, .nil, _ => fun u hu => by cases hu
  | y :: xs, u :: us, .cons r t, f => fun u' hu => by
    rw [List.all_cons, Bool.and_eq_true] at f
    rcases List.mem_cons.mp hu with rfl | hu
    · rw [eqU_of r f.1]; exact eqAt_V r rx f.1 fx
    · exact mem_eqAt rx fx t f.2 u' hu
def inV (x : V) (xs : List V) : Bool := xs.any fun y => eqV y x
/-- x in a list or tuple of flat items -/
def rIn (K : PySem.W.Frag) (neg : Bool) : R2 := fun x y H Q => ∃ p xs, y = .ref p ∧ (SqL K H p xs ∨ SqT K H p xs) ∧ flatV x = true ∧ xs.all flatV = true ∧ Q (.bl (if neg then !inV x xs else inV x xs)) H
theorem op_in_seq : OpR X (compareOp .In) (rIn X.K false) := by
  intro pins s σ H x y v u Q I rx ry h
  obtain ⟨p, xs, rfl, hq, fx, fs, q⟩ := h
  cases ry
  rcases hq with hq | hq
  · obtain ⟨its, r, pl, hz⟩ := I.list hq
    refine SeqAt.in_listAt (eqU x) pl.isList (fun w hw => mem_eqAt rx fx r fs w (by simpa using hw)) ⟨.bl _, H, I, rfl, ?_⟩
    rw [show its.toArray.any (eqU x) = its.any (eqU x) by simp, any_eqU r fs]
    exact q
  · obtain ⟨its, r, pl, hz⟩ := I.tuple hq
    refine SeqAt.in_tupleAt (eqU x) pl (fun w hw => mem_eqAt rx fx r fs w (by simpa using hw)) ⟨.bl _, H, I, rfl, ?_⟩
    rw [show its.toArray.any (eqU x) = its.any (eqU x) by simp, any_eqU r fs]
    exact q
theorem op_notIn_seq : OpR X (compareOp .NotIn) (rIn X.K true) := by
  intro pins s σ H x y v u Q I rx ry h
  obtain ⟨p, xs, rfl, hq, fx, fs, q⟩ := h
  cases ry
  rcases hq with hq | hq
  · obtain ⟨its, r, pl, hz⟩ := I.list hq
    refine SeqAt.notIn_listAt (eqU x) pl.isList (fun w hw => mem_eqAt rx fx r fs w (by simpa using hw)) ⟨.bl _, H, I, rfl, ?_⟩
    rw [show its.toArray.any (eqU x) = its.any (eqU x) by simp, any_eqU r fs]
    exact q
  · obtain ⟨its, r, pl, hz⟩ := I.tuple hq
    refine SeqAt.notIn_tupleAt (eqU x) pl (fun w hw => mem_eqAt rx fx r fs w (by simpa using hw)) ⟨.bl _, H, I, rfl, ?_⟩
    rw [show its.toArray.any (eqU x) = its.any (eqU x) by simp, any_eqU r fs]
    exact q
theorem op_notIn_str : OpR X (compareOp .NotIn) (fun x y H Q => ∃ i j, x = .str i ∧ y = .str j ∧ Q (.bl (!(!(Builtin.Str.occurrences j i 0 j.length 1).isEmpty))) H) := by
  intro pins s σ H x y v u Q I rx ry h
  obtain ⟨i, j, rfl, rfl, q⟩ := h
  obtain ⟨t, rfl⟩ := rx
  obtain ⟨t', rfl⟩ := ry
  exact notIn_str ⟨.bl _, H, I, rfl, q⟩

/-! ### len, list(x), tuple(x) of any list or tuple that is read -/
theorem call_len_seq : CallR X (.builtin "len") (fun xs H Q => ∃ p ys, xs = [.ref p] ∧ (SqL X.K H p ys ∨ SqT X.K H p ys) ∧ Q (.int ys.length) H) := by
  intro pins s σ H xs us Q I r h
  obtain ⟨p, ys, rfl, hq, q⟩ := h
  obtain ⟨u, rfl, rx⟩ := vals1 r
  cases rx
  have hn := line63
  rcases hq with hq | hq
  · obtain ⟨its, r', pl, hz⟩ := I.list hq
    have hlen := r'.length
    exact Calls.call_len_list pl.isList (by simp only [List.size_toArray] <;> omega) ⟨.int ys.length, H, I.tok _, ⟨s.toks + 1, by rw [List.size_toArray, hlen]⟩, q⟩
  · obtain ⟨its, r', pl, hz⟩ := I.tuple hq
    have hlen := r'.length
    exact len_tuple pl (by simp only [List.size_toArray] <;> omega) ⟨.int ys.length, H, I.tok _, ⟨s.toks + 1, by rw [List.size_toArray, hlen]⟩, q⟩
theorem call_len_str : CallR X (.builtin "len") (fun xs H Q => ∃ z, xs = [.str z] ∧ z.length ≤ sizeLine ∧ Q (.int z.length) H) := by
  intro pins s σ H xs us Q I r h
  obtain ⟨z, rfl, hz, q⟩ := h
  obtain ⟨u, rfl, t, rfl⟩ := vals1 r
  have hn := line63
  exact len_str (by omega) ⟨.int z.length, H, I.tok _, ⟨_, rfl⟩, q⟩
theorem CallR.or {f : Value} {r r' : List V → Hp → VK → Prop} (h : CallR X f r) (h' : CallR X f r') : CallR X f (fun xs H Q => r xs H Q ∨ r' xs H Q) := by
  intro pins s σ H xs us Q I rs q
  rcases q with q | q
  · exact h pins s σ H xs us Q I rs q
  · exact h' pins s σ H xs us Q I rs q
theorem call_list_of : CallR X (.type "list") (fun xs H Q => ∃ p ys, xs = [.ref p] ∧ (SqL X.K H p ys ∨ SqT X.K H p ys) ∧ ∀ l, H l = none → Q (.ref l) (upd H l (.lst ys))) := by
  intro pins s σ H xs us Q I r h
  obtain ⟨p, ys, rfl, hq, q⟩ := h
  obtain ⟨u, rfl, rx⟩ := vals1 r
  cases rx
  have fin : ∀ (its : List Value), Vals ys its → ys.length ≤ sizeLine → ∀ (h' : Heap) (c' : Nat), (∀ b o', s.heap.get? b = some o' → h'.get? b = some o') →
      h'.get? s.heap.objs.size = some { cls := .type "list", dict := none, data := .seq its.toArray c', slots := #[] } → EP X pins σ Q (.ref s.heap.objs.size) { s with heap := h' } := fun its r' hz h' c' kp e =>
    ⟨.ref s.heap.objs.size, _, I.laid (t' := s.toks) kp (Nat.le_refl _) (show ObjOk X.prog X.w _ h' _ (.lst ys) from ⟨hz, its, c', r', e⟩), rfl, q _ (I.hok.fresh (Nat.le_refl _))⟩
  rcases hq with hq | hq
  · obtain ⟨its, r', pl, hz⟩ := I.list hq
    have hlen := r'.length
    obtain ⟨o, ho, hc, n, hd⟩ := pl.isList
    exact call_list_seq p (.inl rfl) ho hc hd (fun h' c' kp e => fin its r' hz h' c' kp e) (by simp only [List.size_toArray] <;> omega)
  · obtain ⟨its, r', pl, hz⟩ := I.tuple hq
    have hlen := r'.length
    obtain ⟨o, ho, hc, n, hd⟩ := pl
    exact call_list_seq p (.inr rfl) ho hc hd (fun h' c' kp e => fin its r' hz h' c' kp e) (by simp only [List.size_toArray] <;> omega)
theorem call_tuple_of : CallR X (.type "tuple") (fun xs H Q => ∃ p ys, xs = [.ref p] ∧ ((SqL X.K H p ys ∧ ∀ l, H l = none → Q (.ref l) (upd H l (.tup ys))) ∨ (SqT X.K H p ys ∧ Q (.ref p) H))) := by
  intro pins s σ H xs us Q I r h
  obtain ⟨p, ys, rfl, h⟩ := h
  obtain ⟨u, rfl, rx⟩ := vals1 r
  cases rx
  rcases h with ⟨hq, q⟩ | ⟨hq, q⟩
  · obtain ⟨its, r', pl, hz⟩ := I.list hq
    have hlen := r'.length
    refine call_tuple_list pl.isList (fun h' kp => ?_) (by simp only [List.size_toArray] <;> omega)
    have I1 : Inv X pins σ H { s with heap := h' } := I.kept (t' := s.toks) kp
    have I2 : Inv X pins σ (upd H h'.objs.size (.tup ys)) { s with heap := h'.push { cls := .type "tuple", data := .seq its.toArray } } :=
      I1.laid (t' := s.toks) (fun b o e => Heap.get?_push_of_some _ e) (Nat.le_refl _) (show ObjOk X.prog X.w _ _ _ (.tup ys) from ⟨hz, its, r', IsTup.new _ _⟩)
    exact ⟨.ref h'.objs.size, _, I2, rfl, q _ (I1.hok.fresh (Nat.le_refl _))⟩
  · obtain ⟨its, r', pl, hz⟩ := I.tuple hq
    exact call_tuple_same pl ⟨.ref p, H, I, rfl, q⟩

/-! ### the call of a builtin's method: o.m(..) -/
/-- the value is of that builtin type -/
def tyV (K : PySem.W.Frag) (T : String) (x : V) (H : Hp) : Prop := match x with
  | .str _ => T = "str"
  | .int _ => T = "int"
  | .ref p => (T = "list" ∧ ∃ xs, SqL K H p xs) ∨ (T = "tuple" ∧ ∃ o, K.lookup p = some o ∧ o.cls = .type "tuple" ∧ o.dict = none) ∨
      (T = "dict" ∧ ((∃ kvs, H p = some (.dK kvs)) ∨ ∃ kvs, H p = some (.dT kvs))) ∨ (T = "set" ∧ ∃ S n, H p = some (.set S n))
  | _ => False
theorem tyV_is {pins : List (Addr × Obj)} {σ : St} {H : Hp} {s : Shared} {T : String} {x : V} {v : Value} (I : Inv X pins σ H s) (r : RelV x v) (ty : tyV X.K T x H) :
    s.TypeIs v T ∧ ∀ a, v = .ref a → ∃ ob, s.heap.get? a = some ob ∧ ob.dict = none := by
  cases x with
  | str z =>
    obtain ⟨t, rfl⟩ := r
    cases (show T = "str" from ty)
    exact ⟨typeIs_str s z t, fun _ e => nomatch e⟩
  | int i =>
    obtain ⟨t, rfl⟩ := r
    cases (show T = "int" from ty)
    exact ⟨typeIs_int s i t, fun _ e => nomatch e⟩
  | ref p =>
    cases r
    rcases ty with ⟨rfl, xs, hq⟩ | ⟨rfl, o, hk, hc, hd⟩ | ⟨rfl, hk⟩ | ⟨rfl, S, n, hk⟩
    · obtain ⟨its, _, pl, _⟩ := I.list hq
      refine ⟨pl.isList.typeIs, fun a e => ?_⟩
      cases e
      obtain ⟨o, n, e, c, hd, _⟩ := pl
      exact ⟨o, e, hd⟩
    · refine ⟨⟨o, I.kIn p o hk, hc⟩, fun a e => ?_⟩
      cases e
      exact ⟨o, I.kIn _ o hk, hd⟩
    · have z : ∃ o, s.heap.get? p = some o ∧ o.ExactDict := by
        rcases hk with ⟨kvs, hk⟩ | ⟨kvs, hk⟩
        · obtain ⟨_, _, _, _, o, _, _, e, ex, _⟩ := I.hok p _ hk
          exact ⟨o, e, ex⟩
        · obtain ⟨_, _, _, _, o, _, _, e, ex, _⟩ := I.hok p _ hk
          exact ⟨o, e, ex⟩
      obtain ⟨o, e, ex⟩ := z
      refine ⟨⟨o, e, ex.1⟩, fun a e2 => ?_⟩
      cases e2
      exact ⟨o, e, ex.2.1⟩
    · obtain ⟨o, _, _, _, e, ex, _⟩ := I.hok p _ hk
      refine ⟨⟨o, e, ex.1⟩, fun a e2 => ?_⟩
      cases e2
      exact ⟨o, e, ex.2.1⟩
  | _ => exact False.elim ty
def tBM0 (K : PySem.W.Frag) (T : String) (r : V → List V → Hp → VK → Prop) (to : TE) : TE := fun σ H Q => to σ H fun x H1 => tyV K T x H1 ∧ r x [] H1 Q
def tBM (K : PySem.W.Frag) (T : String) (r : V → List V → Hp → VK → Prop) (to : TE) (t : TA) : TE := fun σ H Q => to σ H fun x H1 => tyV K T x H1 ∧ t σ H1 fun xs H2 => r x xs H2 Q
variable {o e : Expr} {es : List Expr} {to : TE} {t : TA} {name : Str} {apos cpos : Pos} {T id : String} {r : V → List V → Hp → VK → Prop}
theorem pe_bm0 (pa : PlainAttrs T) (slot : Slot T name id) (hty : typeOf (.builtin id) = pure (.type "method_descriptor")) (hm : MtR X id r) (ho : PE X o to)
    (hbase : attributeBase o name X.env (eval o X.env) = eval o X.env := by rfl) (hline : (apos.endLine == cpos.line) = true := by rfl) : PE X (.Call (.Attribute o name apos) [] [] cpos) (tBM0 X.K T r to) := by
  intro pins s σ H Q I h
  refine wpAny_Call_method0_late hbase hline (thn (ho pins s σ H _ I h) fun v s1 ⟨x, H1, I1, r1, ty, q1⟩ => ?_)
  obtain ⟨h1, h2⟩ := tyV_is I1 r1 ty
  exact ⟨T, id, pa, slot, hty, h1, h2, Calls.callWith_builtin rfl (PySem.evalArgs_none (hm pins s1 σ H1 x [] v [] Q I1 r1 .nil q1))⟩
theorem pe_bm (pa : PlainAttrs T) (slot : Slot T name id) (hty : typeOf (.builtin id) = pure (.type "method_descriptor")) (hm : MtR X id r) (ho : PE X o to) (ha : PA X (e :: es) t)
    (hbase : attributeBase o name X.env (eval o X.env) = eval o X.env := by rfl)
    (hfew : ((backTo cpos (starEach (e :: es) X.env)).all (fun x => !x.1) && (backToKw cpos (keywordEach [] X.env)).all (fun x => x.1.isSome)
      && decide ((e :: es).length + ([] : List Keyword).length + (if ([] : List Keyword).isEmpty then 0 else 1) < 30)) = true := by rfl)
    (hline : (apos.endLine == cpos.line) = true := by rfl) (hs : starEach (e :: es) X.env = (false, eval e X.env) :: starEach es X.env := by rfl) (hplain : (backTo cpos (starEach es X.env)).any (·.1) = false := by rfl) :
    PE X (.Call (.Attribute o name apos) (e :: es) [] cpos) (tBM X.K T r to t) := by
  intro pins s σ H Q I h
  refine wpAny_Call_method_late hbase hfew hline rfl (thn (ho pins s σ H _ I h) fun v s1 ⟨x, H1, I1, r1, ty, q1⟩ => ?_)
  obtain ⟨h1, h2⟩ := tyV_is I1 r1 ty
  refine ⟨T, id, pa, slot, hty, h1, h2, ?_⟩
  have hA := ha cpos pins s1 σ H1 _ I1 q1
  rw [hs] at hA ⊢
  refine Calls.callWith_builtin (by show (false || (backTo cpos (starEach es X.env)).any (·.1)) = false; rw [hplain] <;> rfl) (Calls.evalArgs_plain ?_)
  exact thn hA fun us s2 ⟨vs, H2, I2, r2, q2⟩ => hm pins s2 σ H2 x vs v us Q I2 r1 r2 q2
/- xs.append(e), list.index on a module's tuple .. are MtR facts of 06m -/
end
end L2

namespace L2
open PySem PySem.Spec PyProof.Rows

def MtM (X : Cx) (id : String) (r : V → List V → Hp → VK → Prop) : Prop :=
  ∀ (pins : List (Addr × Obj)) (s : Shared) (σ : St) (H : Hp) (x : V) (xs : List V) (v : Value) (us : List Value) (Q : VK), Inv X pins σ H s → RelV x v → Vals xs us → r x xs H Q →
    wpAny (model X.prog X.w) X.A (call (.builtin id) (v :: us)) (EP X pins σ Q) X.xe s

/-! ### lists of values -/
theorem Vals.one : ∀ {x : V} {us : List Value}, Vals [x] us → ∃ u, us = [u] ∧ RelV x u
  | _, _, .cons r .nil => ⟨_, rfl, r⟩
theorem Vals.two : ∀ {x y : V} {us : List Value}, Vals [x, y] us → ∃ u v, us = [u, v] ∧ RelV x u ∧ RelV y v
  | _, _, _, .cons r (.cons q .nil) => ⟨_, _, rfl, r, q⟩
theorem Vals.zero : ∀ {us : List Value}, Vals [] us → us = []
  | _, .nil => rfl
theorem Vals.dropLast {xs : List V} {us : List Value} (h : Vals xs us) : Vals xs.dropLast us.dropLast := by
  induction h with
  | nil => exact .nil
  | cons r t ih =>
    cases t with
    | nil => exact .nil
    | cons q t' => exact .cons r ih
theorem Vals.eraseIdx : ∀ {xs : List V} {us : List Value} (i : Nat), Vals xs us → Vals (xs.eraseIdx i) (us.eraseIdx i)
  | _, _, _, .nil => .nil
  | _, _, 0, .cons _ t => t
  | _, _, i + 1, .cons r t => .cons r (Vals.eraseIdx i t)
theorem Vals.reverse {xs : List V} {us : List Value} (h : Vals xs us) : Vals xs.reverse us.reverse := by
  induction h with
  | nil => exact .nil
  | cons r t ih => rw [List.reverse_cons, List.reverse_cons]; exact Vals.append ih (.cons r .nil)
theorem Vals.rep {xs : List V} {us : List Value} (h : Vals xs us) : ∀ k : Nat, Vals (List.replicate k xs).flatten (List.replicate k us).flatten
  | 0 => .nil
  | k + 1 => by
    rw [List.replicate_succ, List.replicate_succ, List.flatten_cons, List.flatten_cons]
    exact Vals.append h (Vals.rep h k)
theorem erase_last {α : Type} (l : List α) : l.eraseIdx (l.length - 1) = l.dropLast := by
  induction l with
  | nil => rfl
  | cons a r ih =>
    cases r with
    | nil => rfl
    | cons b r =>
      have e : (a :: b :: r).length - 1 = ((b :: r).length - 1) + 1 := by
        have h1 : (a :: b :: r).length = r.length + 2 := rfl
        have h2 : (b :: r).length = r.length + 1 := rfl
        omega
      rw [e, List.eraseIdx_cons_succ, ih]
      all_goals rfl
theorem len_erase {α : Type} : ∀ (l : List α) (i : Nat), (l.eraseIdx i).length ≤ l.length
  | [], _ => Nat.le_refl _
  | _ :: _, 0 => Nat.le_succ _
  | _ :: r, i + 1 => Nat.succ_le_succ (len_erase r i)
theorem foldl_rep (its : List Value) : ∀ (k : Nat) (acc : List Value),
    List.foldl (fun x1 x2 => x1 ++ x2) acc.toArray (List.replicate k its.toArray) = (acc ++ (List.replicate k its).flatten).toArray
  | 0, acc => by simp
  | k + 1, acc => by
    have e : acc.toArray ++ its.toArray = (acc ++ its).toArray := by simp
    have e2 : (acc ++ its) ++ (List.replicate k its).flatten = acc ++ (List.replicate (k + 1) its).flatten := by
      rw [List.replicate_succ, List.flatten_cons, List.append_assoc]
    rw [← e2, ← foldl_rep its k (acc ++ its), ← e, List.replicate_succ, List.foldl_cons]

section
variable {X : Cx} {pins : List (Addr × Obj)} {σ : St} {H : Hp} {s : Shared} {l b : Addr} {xs ys zs : List V}

/-! ### the two steps: a tracked list is rewritten, a new list is laid -/
theorem Inv.lset {its its' : List Value} {n : Nat} {f : Array Value → Array Value} {t' : Nat} (I : Inv X pins σ H s) (hH : H l = some (.lst xs))
    (e : s.heap.get? l = some { cls := .type "list", data := .seq its.toArray n }) (hf : f its.toArray = its'.toArray) (hv : Vals ys its') (hz : ys.length ≤ sizeLine) :
    Inv X pins σ (upd H l (.lst ys)) { s with heap := s.heap.update l (Obj.mapSeq f), toks := t' } := by
  have q := PySem.IsL.update e f
  rw [hf] at q
  refine I.write (x := l) (e := l) (by rw [hH]; exact trivial) (.inl rfl) (fun b' u hb hu => (Heap.get?_update_other s.heap (Obj.mapSeq f) (Ne.symm hb)).trans hu) ⟨_, q⟩ ?_
  exact ⟨hz, its', _, hv, q⟩
theorem Inv.lnew {its : List Value} {t' : Nat} (I : Inv X pins σ H s) (hv : Vals ys its) (hz : ys.length ≤ sizeLine) :
    Inv X pins σ (upd H s.heap.objs.size (.lst ys)) { s with heap := s.heap.push { cls := .type "list", data := .seq its.toArray }, toks := t' } :=
  I.laid (fun _ _ q => Heap.get?_push_of_some _ q) (Nat.le_refl _) ⟨hz, its, 0, hv, Heap.get?_push_size _ rfl⟩
theorem Inv.fresh (I : Inv X pins σ H s) : H s.heap.objs.size = none := I.hok.fresh (Nat.le_refl _)
theorem Inv.lstM (I : Inv X pins σ H s) (hH : H l = some (.lst xs)) : xs.length ≤ sizeLine ∧ ∃ (its : List Value) (n : Nat), Vals xs its ∧ xs.length = its.length ∧ s.heap.get? l = some { cls := .type "list", data := .seq its.toArray n } := by
  obtain ⟨z, its, n, r, e⟩ := I.hok l _ hH
  exact ⟨z, its, n, r, r.length, e⟩

theorem notLongL {n : Nat} (h : n ≤ sizeLine) : Builtin.List.listTooLong n = false := by
  unfold Builtin.List.listTooLong
  exact decide_eq_false (by omega)
end

section
variable {X : Cx}

/-! ### methods -/
def rAppend : V → List V → Hp → VK → Prop := fun x vs H Q => ∃ l xs y, x = .ref l ∧ vs = [y] ∧ H l = some (.lst xs) ∧ xs.length < sizeLine ∧ Q .non (upd H l (.lst (xs ++ [y])))
theorem mt_append : MtM X "list.append" rAppend := by
  intro pins s σ H x vs v us Q I rx rv h
  obtain ⟨l, xs, y, rfl, rfl, hH, hz, q⟩ := h
  cases rx
  obtain ⟨u, rfl, ru⟩ := rv.one
  obtain ⟨z, its, n, r, hl, e⟩ := I.lstM hH
  refine call_meets F.slot_list_append ⟨_, e, rfl⟩ F.entry_list_append (F.args_list_append_2 _ _) (PySem.list_append l its.toArray n u (by rw [List.size_toArray]; omega)) ⟨e, ?_⟩
  refine ⟨.non, _, I.lset (its' := its ++ [u]) hH e (by simp) (r.append (.cons ru .nil)) ?_, rfl, q⟩
  rw [List.length_append, List.length_singleton]
  omega

def rExtend : V → List V → Hp → VK → Prop := fun x vs H Q => ∃ l b xs zs, x = .ref l ∧ vs = [.ref b] ∧ H l = some (.lst xs) ∧ H b = some (.lst zs) ∧ xs.length + zs.length ≤ sizeLine ∧ Q .non (upd H l (.lst (xs ++ zs)))
theorem mt_extend : MtM X "list.extend" rExtend := by
  intro pins s σ H x vs v us Q I rx rv h
  obtain ⟨l, b, xs, zs, rfl, rfl, hH, hB, hz, q⟩ := h
  cases rx
  obtain ⟨u, rfl, ru⟩ := rv.one
  cases ru
  obtain ⟨z, its, n, r, hl, e⟩ := I.lstM hH
  obtain ⟨z2, its2, n2, r2, hl2, e2⟩ := I.lstM hB
  have hsz : its.toArray.size + its2.toArray.size ≤ sizeLine := by rw [List.size_toArray, List.size_toArray]; omega
  have hlong : ¬ (!its.toArray.isEmpty && Builtin.List.listTooLong (its.toArray.size + its2.toArray.size)) = true := by
    rw [notLongL hsz, Bool.and_false]
    exact Bool.false_ne_true
  refine call_meets F.slot_list_extend ⟨_, e, rfl⟩ F.entry_list_extend (F.args_list_extend_2 _ _)
    (AutoSeq1.list_extend_list_list_0 l its.toArray n b its2.toArray n2 hlong (by rw [List.size_toArray]; omega) (by omega)) ⟨e, e2, ?_⟩
  refine ⟨.non, _, I.lset (its' := its ++ its2) hH e (by simp) (r.append r2) ?_, rfl, q⟩
  rw [List.length_append]
  omega

def rPop : V → List V → Hp → VK → Prop := fun x vs H Q => ∃ l xs y, x = .ref l ∧ vs = [] ∧ H l = some (.lst xs) ∧ xs[xs.length - 1]? = some y ∧ Q y (upd H l (.lst xs.dropLast))
theorem mt_pop : MtM X "list.pop" rPop := by
  intro pins s σ H x vs v us Q I rx rv h
  obtain ⟨l, xs, y, rfl, rfl, hH, hy, q⟩ := h
  cases rx
  have hus := rv.zero
  subst hus
  obtain ⟨z, its, n, r, hl, e⟩ := I.lstM hH
  obtain ⟨u, hu, ru⟩ := r.get hy
  have hy' : its.toArray[its.toArray.size - 1]? = some u := by
    show its.toArray[its.length - 1]? = some u
    rw [← Array.getElem?_toList, ← hl]
    exact hu
  refine call_meets F.slot_list_pop ⟨_, e, rfl⟩ F.entry_list_pop (F.args_list_pop_1 _) (MeetsSeq.list_pop_last l its.toArray n u hy' (by rw [List.size_toArray]; omega)) ⟨e, ?_⟩
  refine ⟨y, _, I.lset (its' := its.dropLast) hH e ?_ r.dropLast ?_, ru, q⟩
  · show its.toArray.eraseIdxIfInBounds (its.toArray.size - 1) = its.dropLast.toArray
    rw [List.size_toArray, List.eraseIdxIfInBounds_toArray, erase_last]
  · rw [List.length_dropLast]
    omega

def rPopAt : V → List V → Hp → VK → Prop := fun x vs H Q => ∃ l xs i k y, x = .ref l ∧ vs = [.int i] ∧ H l = some (.lst xs) ∧ -(2 ^ 63) ≤ i ∧ i < 2 ^ 63 ∧ seqIndex? i xs.length = some k ∧ xs[k]? = some y ∧ Q y (upd H l (.lst (xs.eraseIdx k)))
theorem mt_popAt : MtM X "list.pop" rPopAt := by
  intro pins s σ H x vs v us Q I rx rv h
  obtain ⟨l, xs, i, k, y, rfl, rfl, hH, h1, h2, hk, hy, q⟩ := h
  cases rx
  obtain ⟨u, rfl, ru⟩ := rv.one
  obtain ⟨t, rfl⟩ := ru
  obtain ⟨z, its, n, r, hl, e⟩ := I.lstM hH
  obtain ⟨w, hw, rw'⟩ := r.get hy
  refine call_meets F.slot_list_pop ⟨_, e, rfl⟩ F.entry_list_pop (F.args_list_pop_2 _ _)
    (MeetsSeq.list_pop_at l its.toArray n i t k w (fitsIndex_both h1 h2) (by rw [List.size_toArray, ← hl]; exact hk) (by rw [← Array.getElem?_toList]; exact hw) (by rw [List.size_toArray]; omega)) ⟨e, ?_⟩
  refine ⟨y, _, I.lset (its' := its.eraseIdx k) hH e ?_ (r.eraseIdx k) ?_, rw', q⟩
  · show its.toArray.eraseIdxIfInBounds k = (its.eraseIdx k).toArray
    rw [List.eraseIdxIfInBounds_toArray]
  · have := len_erase xs k
    omega

def rReverse : V → List V → Hp → VK → Prop := fun x vs H Q => ∃ l xs, x = .ref l ∧ vs = [] ∧ H l = some (.lst xs) ∧ Q .non (upd H l (.lst xs.reverse))
theorem mt_reverse : MtM X "list.reverse" rReverse := by
  intro pins s σ H x vs v us Q I rx rv h
  obtain ⟨l, xs, rfl, rfl, hH, q⟩ := h
  cases rx
  have hus := rv.zero
  subst hus
  obtain ⟨z, its, n, r, hl, e⟩ := I.lstM hH
  refine call_meets F.slot_list_reverse ⟨_, e, rfl⟩ F.entry_list_reverse (F.args_list_reverse_1 _) (AutoSeq1.list_reverse_list_0 l its.toArray n (by rw [List.size_toArray]; omega)) ⟨e, ?_⟩
  refine ⟨.non, _, I.lset (its' := its.reverse) hH e (by simp) r.reverse ?_, rfl, q⟩
  rw [List.length_reverse]
  omega

def rClear : V → List V → Hp → VK → Prop := fun x vs H Q => ∃ l xs, x = .ref l ∧ vs = [] ∧ H l = some (.lst xs) ∧ Q .non (upd H l (.lst []))
theorem mt_clear : MtM X "list.clear" rClear := by
  intro pins s σ H x vs v us Q I rx rv h
  obtain ⟨l, xs, rfl, rfl, hH, q⟩ := h
  cases rx
  have hus := rv.zero
  subst hus
  obtain ⟨z, its, n, r, hl, e⟩ := I.lstM hH
  refine call_meets F.slot_list_clear ⟨_, e, rfl⟩ F.entry_list_clear (F.args_list_clear_1 _) (AutoSeq1.list_clear_list_0 l its.toArray n (by rw [List.size_toArray]; omega)) ⟨e, ?_⟩
  exact ⟨.non, _, I.lset (its' := []) (ys := []) hH e rfl .nil (Nat.zero_le _), rfl, q⟩

/-! ### list + list, list += list, list * int -/
def rCat : R2 := fun x y H Q => ∃ l b xs zs, x = .ref l ∧ y = .ref b ∧ H l = some (.lst xs) ∧ H b = some (.lst zs) ∧ xs.length + zs.length ≤ sizeLine ∧ ∀ p, H p = none → Q (.ref p) (upd H p (.lst (xs ++ zs)))
theorem op_cat : OpR X (binaryOp .Add) rCat := by
  intro pins s σ H x y v u Q I rx ry h
  obtain ⟨l, b, xs, zs, rfl, rfl, hH, hB, hz, q⟩ := h
  cases rx
  cases ry
  obtain ⟨z, its, n, r, hl, e⟩ := I.lstM hH
  obtain ⟨z2, its2, n2, r2, hl2, e2⟩ := I.lstM hB
  refine PySem.P.add_list e e2 ?_ (by rw [List.size_toArray, List.size_toArray]; omega)
  have ea : its.toArray ++ its2.toArray = (its ++ its2).toArray := by simp
  rw [ea]
  exact ⟨.ref _, _, I.lnew (t' := s.toks) (r.append r2) (by rw [List.length_append]; omega), rfl, q _ I.fresh⟩
/-- a list times an int (a negative one is nothing) -/
def rRep : R2 := fun x y H Q => ∃ l k xs, x = .ref l ∧ y = .int k ∧ H l = some (.lst xs) ∧ -(2 ^ 63) ≤ k ∧ k < 2 ^ 63 ∧ xs.length * k.toNat ≤ sizeLine ∧
  ∀ p, H p = none → Q (.ref p) (upd H p (.lst (List.replicate k.toNat xs).flatten))
theorem len_rep {α : Type} (xs : List α) (k : Nat) : (List.replicate k xs).flatten.length = k * xs.length := by
  induction k with
  | zero => simp
  | succ k ih => rw [List.replicate_succ, List.flatten_cons, List.length_append, ih, Nat.succ_mul, Nat.add_comm]
theorem op_rep : OpR X (binaryOp .Mult) rRep := by
  intro pins s σ H x y v u Q I rx ry h
  obtain ⟨l, k, xs, rfl, rfl, hH, h1, h2, hz, q⟩ := h
  cases rx
  obtain ⟨t, rfl⟩ := ry
  obtain ⟨z, its, n, r, hl, e⟩ := I.lstM hH
  have hlen : its.toArray.size * k.toNat ≤ sizeLine := by rw [List.size_toArray, ← hl]; exact hz
  have hcap : ¬ its.toArray.size * k.toNat > (2 ^ 63 - 1) / 8 := by
    have : (sizeLine : Nat) ≤ (2 ^ 63 - 1) / 8 := by decide
    omega
  have hfit : ¬ (!Builtin.List.listFitsIndex k) = true := by
    rw [fitsIndex_both h1 h2]
    exact Bool.false_ne_true
  have hlong : ¬ Builtin.List.listTooLong (its.toArray.size * k.toNat) = true := by
    rw [notLongL hlen]
    exact Bool.false_ne_true
  have hnew : List.foldl (fun x1 x2 => x1 ++ x2) #[] (List.replicate (if its.toArray.isEmpty = true then 0 else k.toNat) its.toArray) = (List.replicate k.toNat its).flatten.toArray := by
    have f0 : ∀ m : Nat, List.foldl (fun x1 x2 => x1 ++ x2) #[] (List.replicate m its.toArray) = (List.replicate m its).flatten.toArray := fun m => by
      have := foldl_rep its m []
      rw [List.nil_append] at this
      exact this
    rw [f0]
    cases its with
    | nil => simp
    | cons a r' => rw [if_neg (by simp)]
  refine wpAny_binaryOp_repeat_ref (T := "list") (U := "int") (by decide) ⟨_, e, rfl⟩ (fun s' => typeIs_int s' k t) noFill_list_mul F.fills_int_mul F.slot_int_rmul repeat_list F.slot_int_index.lookup
    (call_meets F.slot_int_rmul (typeIs_int s k t) F.entry_int_rmul (F.args_int_rmul_2 _ _) (int___rmul___int_list k t l its.toArray n)
      ⟨e, rfl, ⟨_, e, rfl⟩, call_meets F.slot_list_mul ⟨_, e, rfl⟩ F.entry_list_mul (F.args_list_mul_2 _ _) (AutoListH.list___mul___list_int_3 l its.toArray n k t hfit hcap hlong) ⟨e, ?_⟩⟩)
  rw [hnew]
  exact ⟨.ref _, _, I.lnew (t' := s.toks) (r.rep k.toNat) (by rw [len_rep, Nat.mul_comm]; exact hz), rfl, q _ I.fresh⟩

/-! ### del xs[i] -/
theorem del_list {pins : List (Addr × Obj)} {s : Shared} {σ : St} {H : Hp} {l : Addr} {xs : List V} {i : Int} {t : Tok} {k : Nat} {Q : Unit → Shared → Prop} (I : Inv X pins σ H s) (hH : H l = some (.lst xs))
    (h1 : -(2 ^ 63) ≤ i) (h2 : i < 2 ^ 63) (hk : seqIndex? i xs.length = some k) (h : ∀ s', Inv X pins σ (upd H l (.lst (xs.eraseIdx k))) s' → Q () s') :
    wpAny (model X.prog X.w) X.A (delItem (.ref l) (.int i t)) Q X.xe s := by
  obtain ⟨z, its, n, r, hl, e⟩ := I.lstM hH
  refine PySem.P.delItem_list (k := k) e (fitsIndex_both h1 h2) (by rw [List.size_toArray, ← hl]; exact hk) (h _ ?_) (by rw [List.size_toArray]; omega)
  refine I.lset (its' := its.eraseIdx k) (t' := s.toks) hH e ?_ (r.eraseIdx k) ?_
  · show its.toArray.eraseIdxIfInBounds k = (its.eraseIdx k).toArray
    rw [List.eraseIdxIfInBounds_toArray]
  · have := len_erase xs k
    omega
end

/-! ### xs[a:b] = ys -/
section
variable {prog : Program} {w : World} {A : Around} {E : Value → Shared → Prop} {s : Shared}
theorem splice_eq (its its2 : List Value) (a c : Nat) : its.toArray.extract 0 a ++ its2.toArray ++ its.toArray.extract c its.toArray.size = (its.take a ++ its2 ++ its.drop c).toArray := by
  apply Array.toList_inj.mp
  first
    | (simp
       exact List.take_of_length_le (by simp))
    | simp [List.take_of_length_le]
    | simp
theorem bounds_run {a c n : Nat} (hac : a ≤ c) (hc : c ≤ n) : sliceBounds (some (a : Int)) (some (c : Int)) none n = ((a : Int), (c : Int), 1) := by
  simp only [sliceBounds, Option.getD_none]
  have h1 : ¬ ((a : Int) < 0) := by omega
  have h2 : ¬ ((c : Int) < 0) := by omega
  simp only [h1, h2, if_false, show (1 : Int) > 0 by decide, if_true]
  congr 1
  · omega
  · congr 1; omega
set_option maxRecDepth 100000 in
/-- list.__setitem__ with a slice of step one and another list -/
theorem setItem_slice {l b sl : Addr} {items new : Array Value} {n n2 : Nat} {vl vu : Value} {a c : Nat} {Q : Unit → Shared → Prop}
    (e : s.heap.get? l = some { cls := .type "list", data := .seq items n }) (e2 : s.heap.get? b = some { cls := .type "list", data := .seq new n2 }) (hne : l ≠ b)
    (hs : s.heap.IsSliceOf sl vl vu .none) (pl : IsPart vl (some (a : Int))) (pu : IsPart vu (some (c : Int))) (hac : a ≤ c) (hc : c ≤ items.size)
    (hsz : items.size + new.size ≤ sizeLine) (h : Q () { s with heap := s.heap.update l (Obj.mapSeq fun xs => xs.extract 0 a ++ new ++ xs.extract c xs.size) }) :
    wpAny (model prog w) A (setItem (.ref l) (.ref sl) (.ref b)) Q E s := by
  have hl : s.heap.IsList l items := PySem.IsL.isList e
  have hb : s.heap.IsList b new := PySem.IsL.isList e2
  obtain ⟨os, hos, hcs, hds⟩ := id hs
  have hTs : s.TypeIs (.ref sl) "slice" := ⟨os, hos, hcs⟩
  have hstep : ¬ ((rawPart none == rawInt 0) = true) := Bool.false_ne_true
  have hsame : Builtin.List.listSameRef (.ref l) (.ref b) = false := by
    unfold Builtin.List.listSameRef
    exact beq_eq_false_iff_ne.mpr hne
  have hmax : (max (a : Int) (c : Int)).toNat = c := by omega
  have hz' : ((fun xs : Array Value => xs.extract 0 a ++ new ++ xs.extract c xs.size) items).size ≤ sizeLine + 1 := by
    simp only [Array.size_append, Array.size_extract]
    omega
  unfold setItem
  try with_reducible refine wpAny_holding ?_
  first | refine wpAny_bind (wpAny_pure ?_) | skip
  refine wpAny_bind (wpAny_sequenceKey hl.typeIs (by decide) ?_)
  refine wpAny_bind (wpAny_callSpecial?_slot (name := Str.ofString "__setitem__") hl.typeIs slot_list_setitem
    (wpAny_call_entry slot_list_setitem hl.typeIs entry_list_setitem ?_ (args_list_setitem _ _ _)))
  show wpAny _ _ (Builtin.List.listSubscript? (.ref sl) >>= _) _ _ s
  refine wpAny_bind ?_
  unfold Builtin.List.listSubscript?
  refine wpAny_bind (wpAny_specialOf hTs slice_no_index ?_)
  simp only [Option.isNone_none, if_true]
  refine wpAny_pure ?_
  show wpAny _ _ (typeOf (.ref sl) >>= _) _ _ s
  refine wpAny_bind (wpAny_typeOf hTs ?_)
  first
    | rw [if_neg (by decide)]
    | refine PySem.W.KFB.if_not (by decide) ?_
  rw [listSliceParts_eq]
  refine wpAny_bind (wpAny_bind (wpAny_field hos hds (x := .none) rfl (wpAny_bind (wpAny_listPart .none ?_))))
  rw [if_neg hstep]
  refine wpAny_bind (wpAny_field hos hds (x := vl) rfl (wpAny_bind (wpAny_listPart pl ?_)))
  refine wpAny_bind (wpAny_field hos hds (x := vu) rfl (wpAny_bind (wpAny_listPart pu (wpAny_pure ?_))))
  first
    | simp only [hsame, Bool.false_eq_true, if_false]
    | refine PySem.W.KFB.if_not hsame ?_
    | (dsimp only
       rw [if_neg (by rw [hsame]; exact Bool.false_ne_true)])
  refine wpAny_bind (m := Builtin.List.listAllItems (.ref b) "must assign iterable to extended slice") ?_
  unfold Builtin.List.listAllItems
  refine wpAny_bind (wpAny_typeOf hb.typeIs ?_)
  first
    | refine PySem.W.KFB.if_so (by decide) ?_
    | rw [if_pos (by decide)]
    | simp only [beq_self_eq_true, Bool.true_or, if_true]
  unfold Builtin.List.listItems
  refine wpAny_bind (wpAny_seqItems e2 rfl (wpAny_pure ?_))
  refine wpAny_bind (wpAny_bind (wpAny_seqItems e rfl (wpAny_pure ?_)))
  refine wpAny_bind (wpAny_of_eq ((sliceIndices_raw (some (a : Int)) (some (c : Int)) none items.size (by simp)).trans (congrArg (pure : Int × Int × Int → Sem (Int × Int × Int)) (bounds_run hac hc))) ?_)
  show wpAny _ _ (if ((1 : Int) == 1) = true then _ else _) _ _ s
  rw [if_pos (by decide)]
  refine wpAny_bind (wpAny_rule ?_)
  first
    | simp only [notLongL hsz, Bool.false_eq_true, if_false]
    | refine PySem.W.KFB.if_not (notLongL hsz) ?_
  first | refine wpAny_bind (wpAny_pure ?_) | skip
  show wpAny _ _ (updateSeq l (fun xs => xs.extract 0 ((a : Int)).toNat ++ new ++ xs.extract (max (a : Int) (c : Int)).toNat xs.size) >>= _) _ _ s
  rw [hmax, Int.toNat_natCast]
  refine wpAny_bind (wpAny_updateSeq (hz := Nat.le_trans (Nat.le_add_right _ _) hsz) (_hz' := hz') e rfl ?_)
  refine wpAny_bind (wpAny_letGo ?_)
  first
    | exact wpAny_bind (wpAny_pure (wpAny_pure ⟨.none, rfl, wpAny_pure h⟩))
    | exact wpAny_pure ⟨.none, rfl, wpAny_pure h⟩
end

section
variable {X : Cx}
/-- xs[a:c] = ys of another list, at the value level: sl is the slice object that was just made -/
theorem set_slice {pins : List (Addr × Obj)} {s : Shared} {σ : St} {H : Hp} {l b sl : Addr} {xs ys : List V} {a c : Int} {vl vu : Value} {Q : Unit → Shared → Prop} (I : Inv X pins σ H s)
    (hH : H l = some (.lst xs)) (hB : H b = some (.lst ys)) (hne : l ≠ b) (hs : s.heap.IsSliceOf sl vl vu .none) (ra : RelV (.int a) vl) (rc : RelV (.int c) vu) (h0 : 0 ≤ a) (hac : a ≤ c) (hc : c ≤ xs.length)
    (hz : xs.length + ys.length ≤ sizeLine) (h : ∀ s', Inv X pins σ (upd H l (.lst (xs.take a.toNat ++ ys ++ xs.drop c.toNat))) s' → Q () s') :
    wpAny (model X.prog X.w) X.A (setItem (.ref l) (.ref sl) (.ref b)) Q X.xe s := by
  obtain ⟨ta, rfl⟩ := ra
  obtain ⟨tc, rfl⟩ := rc
  obtain ⟨z, its, n, r, hl, e⟩ := I.lstM hH
  obtain ⟨z2, its2, n2, r2, hl2, e2⟩ := I.lstM hB
  obtain ⟨a', rfl⟩ := Int.eq_ofNat_of_zero_le h0
  obtain ⟨c', rfl⟩ := Int.eq_ofNat_of_zero_le (Int.le_trans h0 hac)
  simp only [Int.toNat_natCast] at h
  refine setItem_slice (a := a') (c := c') e e2 hne hs (.int _ _) (.int _ _) (by omega) (by rw [List.size_toArray]; omega) (by rw [List.size_toArray, List.size_toArray]; omega) (h _ ?_)
  refine I.lset (its' := its.take a' ++ its2 ++ its.drop c') (t' := s.toks) hH e ?_ (Vals.append (Vals.append (r.take _) r2) (r.drop _)) ?_
  · exact splice_eq its its2 a' c'
  · rw [List.length_append, List.length_append, List.length_take, List.length_drop]
    omega
end
end L2

namespace Att
open PySem PySem.W PySem.Calls PyProof.Rows

/-! ### the script -/
theorem ints_of_wellAll {P : Params} {h : Heap} : ∀ (ns : List Int) (vs : List Value), WellAll P h vs (ns.map WData.int) → IntsAre vs ns := by
  intro ns
  induction ns with
  | nil =>
    intro vs w
    rw [List.map_nil] at w
    cases w
    exact .nil
  | cons n ns ih =>
    intro vs w
    rw [List.map_cons] at w
    cases w with
    | cons a b =>
      cases a
      exact .cons _ _ (ih _ b)

theorem script_of {l : OpenLaw} {n : Nat} (hn : l.most = some n) {P : Params} {h : Heap} {args : List WData} {vals : List Value}
    (hpre : l.row.toRowW.claim.pre args = true) (hwl : WellAll P h vals args) :
    ∃ a vs ns, vals = [Value.ref a] ∧ args = [WData.list (ns.map WData.int)] ∧ h.get? a = some { cls := .type "list", data := .seq vs.toArray } ∧ IntsAre vs ns ∧ ns.length ≤ n := by
  have hsh : WShape.hasAll [] args [.list .int] = true := (pre_splitW hpre).1
  have hc : l.pre.holds [] { args := args } = true := (pre_splitW hpre).2
  obtain ⟨d, r, rfl, h1, h2⟩ := hasAllW_cons hsh
  obtain rfl := hasAllW_nil h2
  obtain ⟨xs, rfl, h3⟩ := hasW_list h1
  obtain ⟨ns, rfl⟩ := items_int h3
  have hlen : ns.length ≤ n := by
    unfold OpenLaw.pre at hc
    have h4 : (WTm.not (.lt (.lit (.int (n : Int))) (.len (.arg 0)))).holds [] { args := [.list (ns.map .int)] } = true := by
      have h4 := (holds_andW hc).1
      rw [hn] at h4
      exact h4
    have h5 := condW_of h4 (w_not (w_lt w_lit (w_len_list (w_arg rfl))))
    rw [List.length_map] at h5
    refine Nat.le_of_not_lt fun q => ?_
    have q' : (n : Int) < ((ns.length : Nat) : Int) := by omega
    first
      | (rw [decide_eq_true q'] at h5; exact absurd h5 (by decide))
      | (simp at h5; omega)
  cases hwl with
  | cons w1 w2 =>
    cases w2
    cases w1 with
    | list ho hall => exact ⟨_, _, ns, rfl, rfl, ho, ints_of_wellAll ns _ hall, hlen⟩

theorem post_true (l : OpenLaw) (args : List WData) : l.row.toRowW.claim.post args (.bool true) args = true :=
  postW_of (r := l.row.toRowW) (X := (true == true))
    (show WShape.has [] (.bool true) .bool = true by first | rfl | decide | simp [WShape.has, WShape.arms, WShape.armsAll])
    (show (WTm.eq .res (.lit (.bool true))).value [] { args := args, res := some (.bool true), after := args } = some (.bool (true == true)) from w_eq_bool (w_res rfl) w_lit) rfl

/-! ### the attachment: holds_open's last premise (the goal 'hc' behind k_head) from a wpAny of the law's body -/
theorem attach {l : OpenLaw} {n : Nat} {q : Program} {loose : List Str} {XP : (Str → Option Value) → Heap → Prop} {YP : World → Heap → Prop} {d : DefRec} {x : Str}
    (hn : l.most = some n) (hdf : d.params.defaults = [])
    (hbind : ∀ pm cd doc v : Value, bindArgs (docDef d.name d.params d.body d.scope pm cd doc) ⟨[v], []⟩ = pure [(x, v)])
    (hx : d.scope.names.lookup x = some .local ∨ d.scope.names.lookup x = some .cell)
    (hk : d.scope.kind = .function) (hco : d.scope.isCoroutine = false) (hgen : d.scope.isGenerator = false)
    (body : ∀ (w : World) (s₀ s₁ s : Shared) (mg mb : Str → Option Value) (fa : Addr) (o : Obj) (pm cd doc : Value) (a : Addr) (vs : List Value) (ns : List Int),
      Ground q loose [] XP w s₀ mg mb s₁.heap → YP w s₁.heap →
      s₁.heap.get? fa = some o → o.data = .func (docDef d.name d.params d.body d.scope pm cd doc) → s₁.heap.CodeRec cd d.name → mg d.name = some (.ref fa) →
      s₁.heap.get? a = some { cls := .type "list", data := .seq vs.toArray } → IntsAre vs ns → ns.length ≤ n →
      s.gens = #[] → s.os = s₁.os →
      Fr s₁.heap s₁.heap.objs.size s.heap (bindL (envOfC d.name d.scope s₁.heap.objs.size fa cd).kindOf [(x, .ref a)] fun _ => none) →
      Cl s₁.heap.objs.size (cellsFrom (s₁.heap.objs.size + 1) d.scope.names []) s.heap (bindC (envOfC d.name d.scope s₁.heap.objs.size fa cd).kindOf [(x, .ref a)] fun _ => none) →
      wpAny (model l.prog w) (callerA.deeper (envOfC d.name d.scope s₁.heap.objs.size fa cd)) (execs d.body (envOfC d.name d.scope s₁.heap.objs.size fa cd))
        (fun f s' => f = .ret (.bool true) ∧ OldK s₁.heap s'.heap ∧ s'.os = s₁.os ∧ AllBare s'.gens) (fun _ _ => False) s) :
    WalkO q loose XP YP l.row.toRowW d [] (fun f vs => PySem.call f vs) := by
  intro w s₀ s₁ mg mb G Y fa o pm cd doc dV kV ho hd hcd hD hmg hg args vals as hpre hlay hrd hwl hlo
  obtain rfl : dV = .none := Dflts.none hD hdf
  obtain rfl : kV = .none := Dflts.noKw hD
  obtain ⟨a, vs, ns, rfl, rfl, hobj, hints, hlen⟩ := script_of hn hpre hwl
  refine enter_call ?_
  refine call_cells_ret (o := o) (by rw [depth_caller]; decide) ho (fd_plain hd) G.T.nolimit hcd (hbind pm cd doc (.ref a)) (fun y hy => ?_) (fun h₁ tk F X => ?_) hco hgen hk
  · obtain rfl : y = (x, Value.ref a) := List.mem_singleton.mp hy
    rcases hx with e | e
    · exact .inl e
    · exact .inr ⟨e, cellsFrom_some _ _ _ (.inl e)⟩
  · refine wpAny_mono (body w s₀ s₁ { s₁ with heap := h₁, toks := tk } mg mb fa o pm cd doc a vs ns G Y ho (fd_plain hd) hcd hmg hobj hints hlen hg rfl F X) (fun f s' hq => ?_) (fun _ _ hq => hq)
    obtain ⟨rfl, h2, h3, h4⟩ := hq
    exact ⟨.inl ⟨.bool true, .bool true, [], rfl, fun _ => rfl, .bool true, post_true l _, fun _ => ⟨List.Pairwise.nil, fun _ hm => (nomatch hm)⟩⟩, h2, h3, h4⟩

/-- the same from a codeAny of the CALL (for a layer whose function contracts speak of calls) -/
theorem attach_call {l : OpenLaw} {n : Nat} {q : Program} {loose : List Str} {XP : (Str → Option Value) → Heap → Prop} {YP : World → Heap → Prop} {d : DefRec}
    (hn : l.most = some n) (hdf : d.params.defaults = [])
    (call : ∀ (w : World) (s₀ s₁ : Shared) (mg mb : Str → Option Value) (fa : Addr) (o : Obj) (pm cd doc : Value) (a : Addr) (vs : List Value) (ns : List Int),
      Ground q loose [] XP w s₀ mg mb s₁.heap → YP w s₁.heap →
      s₁.heap.get? fa = some o → o.data = .func (docDef d.name d.params d.body d.scope pm cd doc) → s₁.heap.CodeRec cd d.name → mg d.name = some (.ref fa) →
      s₁.heap.get? a = some { cls := .type "list", data := .seq vs.toArray } → IntsAre vs ns → ns.length ≤ n → s₁.gens = #[] →
      codeAny (model l.prog w) callerA (.call (.ref fa) ⟨[.ref a], []⟩) (fun r s' => r = .ok (.ret (.bool true)) ∧ OldK s₁.heap s'.heap ∧ s'.os = s₁.os ∧ AllBare s'.gens) s₁) :
    WalkO q loose XP YP l.row.toRowW d [] (fun f vs => PySem.call f vs) := by
  intro w s₀ s₁ mg mb G Y fa o pm cd doc dV kV ho hd hcd hD hmg hg args vals as hpre hlay hrd hwl hlo
  obtain rfl : dV = .none := Dflts.none hD hdf
  obtain rfl : kV = .none := Dflts.noKw hD
  obtain ⟨a, vs, ns, rfl, rfl, hobj, hints, hlen⟩ := script_of hn hpre hwl
  refine enter_call (codeAny_mono (call w s₀ s₁ mg mb fa o pm cd doc a vs ns G Y ho (fd_plain hd) hcd hmg hobj hints hlen hg) fun r s' hq => ?_)
  obtain ⟨rfl, h2, h3, h4⟩ := hq
  exact ⟨.inl ⟨.bool true, .bool true, [], rfl, fun _ => rfl, .bool true, post_true l _, fun _ => ⟨List.Pairwise.nil, fun _ hm => (nomatch hm)⟩⟩, h2, h3, h4⟩

/-- the same where the top left finished generators (o_head chose holds_openN): nothing may have changed at all and no generator may be left -/
theorem attachN {l : OpenLaw} {n : Nat} {q : Program} {loose : List Str} {XP : (Str → Option Value) → Heap → Prop} {YP : World → Heap → Prop} {d : DefRec} {x : Str}
    (hn : l.most = some n) (hdf : d.params.defaults = [])
    (hbind : ∀ pm cd doc v : Value, bindArgs (docDef d.name d.params d.body d.scope pm cd doc) ⟨[v], []⟩ = pure [(x, v)])
    (hx : d.scope.names.lookup x = some .local ∨ d.scope.names.lookup x = some .cell)
    (hk : d.scope.kind = .function) (hco : d.scope.isCoroutine = false) (hgen : d.scope.isGenerator = false)
    (body : ∀ (w : World) (s₀ s₁ s : Shared) (mg mb : Str → Option Value) (fa : Addr) (o : Obj) (pm cd doc : Value) (a : Addr) (vs : List Value) (ns : List Int),
      Ground q loose [] XP w s₀ mg mb s₁.heap → YP w s₁.heap →
      s₁.heap.get? fa = some o → o.data = .func (docDef d.name d.params d.body d.scope pm cd doc) → s₁.heap.CodeRec cd d.name → mg d.name = some (.ref fa) →
      s₁.heap.get? a = some { cls := .type "list", data := .seq vs.toArray } → IntsAre vs ns → ns.length ≤ n →
      s.gens = #[] → s.os = s₁.os →
      Fr s₁.heap s₁.heap.objs.size s.heap (bindL (envOfC d.name d.scope s₁.heap.objs.size fa cd).kindOf [(x, .ref a)] fun _ => none) →
      Cl s₁.heap.objs.size (cellsFrom (s₁.heap.objs.size + 1) d.scope.names []) s.heap (bindC (envOfC d.name d.scope s₁.heap.objs.size fa cd).kindOf [(x, .ref a)] fun _ => none) →
      wpAny (model l.prog w) (callerA.deeper (envOfC d.name d.scope s₁.heap.objs.size fa cd)) (execs d.body (envOfC d.name d.scope s₁.heap.objs.size fa cd))
        (fun f s' => f = .ret (.bool true) ∧ (∀ b o, s₁.heap.get? b = some o → s'.heap.get? b = some o) ∧ s'.os = s₁.os ∧ s'.gens = #[]) (fun _ _ => False) s) :
    WalkN q loose XP YP l.row.toRowW d [] (fun f vs => PySem.call f vs) := by
  intro w s₀ s₁ mg mb G Y fa o pm cd doc dV kV ho hd hcd hD hmg hg args vals as hpre hlay hrd hwl hlo
  obtain rfl : dV = .none := Dflts.none hD hdf
  obtain rfl : kV = .none := Dflts.noKw hD
  obtain ⟨a, vs, ns, rfl, rfl, hobj, hints, hlen⟩ := script_of hn hpre hwl
  refine enter_callW ?_
  refine call_cells_ret (o := o) (by rw [depth_caller]; decide) ho (fd_plain hd) G.T.nolimit hcd (hbind pm cd doc (.ref a)) (fun y hy => ?_) (fun h₁ tk F X => ?_) hco hgen hk
  · obtain rfl : y = (x, Value.ref a) := List.mem_singleton.mp hy
    rcases hx with e | e
    · exact .inl e
    · exact .inr ⟨e, cellsFrom_some _ _ _ (.inl e)⟩
  · refine wpAny_mono (body w s₀ s₁ { s₁ with heap := h₁, toks := tk } mg mb fa o pm cd doc a vs ns G Y ho (fd_plain hd) hcd hmg hobj hints hlen hg rfl F X) (fun f s' hq => ?_) (fun _ _ hq => hq)
    obtain ⟨rfl, h2, h3, h4⟩ := hq
    exact ⟨.inl ⟨.bool true, .bool true, [], rfl, fun _ => rfl, .bool true, post_true l _, fun _ => ⟨List.Pairwise.nil, fun _ hm => (nomatch hm)⟩⟩, h2, h3, h4⟩

/-! ### rules over ANY heap (no ledger) from facts about the written part K: the library's own take a ledger (News) for what they write -/
section
variable {prog : Program} {w : World} {A : Around} {E : Value → Shared → Prop} {s : Shared} {K : Frag}

/-- a def of the module, or a method (qual 'C.m'), entered: the frame is the next address; cells behind it -/
theorem call_fn {R : Result → Shared → Prop} {name qual : Str} {params : Arguments} {body : List Stmt} {scope : Scope} {dV kV doc pm cdv ct oc : Value} {an od : Option Addr} {osl : Array (Option Value)} {f : Addr} {args : Args} {binds : List (Str × Value)}
    (X : K.In s.heap) (hlim : s.heap.NoLimit) (ho : K.lookup f = some ⟨oc, od, .func (fnOf name qual params body scope dV kV doc pm an cdv ct), osl⟩) (hcd : codeIn K cdv qual = true) (hroom : A.depth < recursionLimit)
    (hbind : BindsTo s (fnOf name qual params body scope dV kV doc pm an cdv ct) args binds)
    (hkind : (binds.all fun y => scope.names.lookup y.1 == some .local || scope.names.lookup y.1 == some .cell) = true)
    (h : ∀ s₁, InCallC s s.heap.objs.size (bindL (envOfC qual scope s.heap.objs.size f cdv).kindOf binds fun _ => none) (cellsFrom (s.heap.objs.size + 1) scope.names [])
        (bindC (envOfC qual scope s.heap.objs.size f cdv).kindOf binds fun _ => none) s₁ →
      wpAny (model prog w) (A.deeper (envOfC qual scope s.heap.objs.size f cdv)) (execs body (envOfC qual scope s.heap.objs.size f cdv))
        (fun fl s' => R (.ok (.ret (match fl with | .ret v => v | _ => .none))) s')
        (fun e s' => wpAny (model prog w) (A.deeper (envOfC qual scope s.heap.objs.size f cdv)) (leaving (envOfC qual scope s.heap.objs.size f cdv) e) (fun _ s'' => R (.error e) s'') (fun e' s'' => R (.error e') s'') s') s₁)
    (hco : scope.isCoroutine = false) (hgen : scope.isGenerator = false) (hk : scope.kind = .function) : codeAny (model prog w) A (.call (.ref f) args) R s := by
  refine codeAny_call_function hroom (X _ _ ho) rfl hco hgen rfl (codeRec_of X hcd) (hbind _ _ _ _ ?_)
  refine wpAny_newFunctionEnv_cells hk (kindsX hkind _) fun env he s₁ x => ?_
  subst he
  exact ⟨hlim.keeps x.toInCall.keep, codeAny_func (h s₁ x)⟩

/-- C(..): dict at size, instance at size + 1, then __init__ -/
theorem make_obj {R : Result → Shared → Prop} {C fI : Addr} {rest : List Value} {kw : List (Str × Value)}
    (X : K.In s.heap) (hm : makesIn K C = true) (hi : findIn K (.ref C) "__init__" = some (some (.ref fI))) (hf : isFn K (.ref fI) = true)
    (h : codeAny (model prog w) (A.under (.builtin "type.__call__" ⟨.ref C :: rest, kw⟩)) (.call (.ref fI) ⟨.ref (s.heap.objs.size + 1) :: rest, kw⟩) (InitBack (s.heap.objs.size + 1) R)
      { s with heap := (s.heap.push emptyDict).push (instObj C s.heap.objs.size) }) : codeAny (model prog w) A (.call (.ref C) ⟨rest, kw⟩) R s := by
  obtain ⟨hh, g, d, t, os⟩ := s
  exact make_core (makes_of X hm) (looks_findIn X hi) (fun self => bind_fn X self (beq_iff_eq.mp hf)) (.inl rfl) h

/-- x.name where the instance's dict holds the name and the class does not -/
theorem get_field {x C : Addr} {ox : Obj} {es : List DictEntry} {n : Nat} {name : Str} {expr : Bool} {v : Value} {Q : Value → Shared → Prop}
    (X : K.In s.heap) (I : PySem.W.InstAt s.heap x ox C (some (dictOf es n))) (hg : plainGet K C name = true) (hh : hasDictIn K C = true) (ha : findIn K (.ref C) name = some none)
    (hl : getL name es = some (some v)) (hv : handedIn v = true) (h : Q v { s with toks := s.toks + 1 }) : wpAny (model prog w) A (getAttr (.ref x) name expr) Q E s :=
  get_value X I (plainGet_of hg).1 (findObj_own hh ha rfl hl) hv h

/-- x.m(..): the method found in the class -/
theorem get_method {x C f : Addr} {ox : Obj} {es : List DictEntry} {n : Nat} {name : Str} {pl : Sem Bool} {Q : Value × List Value → Shared → Prop}
    (X : K.In s.heap) (I : PySem.W.InstAt s.heap x ox C (some (dictOf es n))) (hg : plainGet K C name = true) (hf : findIn K (.ref C) name = some (some (.ref f))) (ht : isFn K (.ref f) = true)
    (hl : getL name es = some none) (h : Q (.ref f, [.ref x]) s) : wpAny (model prog w) A (getMethod (.ref x) name pl) Q E s :=
  method_fn X I (plainGet_of hg).1 (plainGet_of hg).2 hf (beq_iff_eq.mp ht) (by show (lookIn name (dictOf es n)).map _ = _; rw [lookIn_dict, hl]; rfl) h

/-! the whole heap as the ledger: makes every rule that writes through a ledger a rule over any heap -/
def noObjs (h : Heap) : Heap := { h with objs := #[] }
theorem noObjs_get (h : Heap) (b : Addr) : (noObjs h).get? b = none := by
  cases e : (noObjs h).get? b with
  | none => rfl
  | some o => exact absurd (Heap.lt_size e) (Nat.not_lt_zero _)
def ledger (h : Heap) (L d : Addr) : List (Addr × Obj) := (List.range h.objs.size).filterMap fun a => if a = L ∨ a = d then none else (h.get? a).map fun o => (a, o)
theorem mem_ledger {h : Heap} {L d a : Addr} {o : Obj} : (a, o) ∈ ledger h L d ↔ a ≠ L ∧ a ≠ d ∧ h.get? a = some o := by
  unfold ledger
  rw [List.mem_filterMap]
  constructor
  · rintro ⟨b, _, e⟩
    split at e
    · cases e
    · rename_i hb
      obtain ⟨o', ho, e'⟩ := Option.map_eq_some_iff.mp e
      cases e'
      exact ⟨fun q => hb (.inl q), fun q => hb (.inr q), ho⟩
  · rintro ⟨n1, n2, ho⟩
    refine ⟨a, List.mem_range.mpr (Heap.lt_size ho), ?_⟩
    rw [if_neg (show ¬ (a = L ∨ a = d) from fun q => q.elim n1 n2), ho] <;> rfl
theorem news_ledger {h : Heap} {L d : Addr} {od : Obj} (hne : d ≠ L) (ho : h.get? d = some od) : News (noObjs h) L h ([] ++ (d, od) :: ledger h L d) := by
  rintro ⟨a, o⟩ hp
  rcases List.mem_cons.mp hp with e | hp
  · cases e
    exact ⟨ho, hne, noObjs_get _ _⟩
  · obtain ⟨n1, n2, e⟩ := mem_ledger.mp hp
    exact ⟨e, n1, noObjs_get _ _⟩
theorem fr_all {h : Heap} {L : Addr} {m : Str → Option Value} (n : h.Ns L m) : Fr (noObjs h) L h m :=
  ⟨n, fun b o e => (by rw [noObjs_get] at e; cases e), Nat.zero_le _⟩
/-- Upd of the head entry (for append_K, setItem_K ..) -/
theorem upd_ledger {h : Heap} {L d : Addr} {o o' : Obj} : Upd d o o' ((d, o) :: ledger h L d) ((d, o') :: ledger h L d) :=
  .head fun ⟨_, _⟩ hp => (mem_ledger.mp hp).2.1

/-- x.name = v over any heap: L is any namespace of the heap (the frame's, say): its map stays, its object is not told; all else but the dict stays -/
theorem set_field {x C dx L : Addr} {ox : Obj} {m : Str → Option Value} {es es' : List DictEntry} {n n' : Nat} {name : Str} {v : Value} {Q : Unit → Shared → Prop}
    (X : K.In s.heap) (I : PySem.W.InstAt s.heap x ox C (some (dictOf es n))) (hd : ox.dict = some dx) (hL : s.heap.Ns L m) (hne : dx ≠ L)
    (hs : findIn K (.ref C) "__setattr__" = some (some (.builtin "object.__setattr__"))) (hp : plainOver K C = true) (ht : takerIn K C name = some none) (hh : hasDictIn K C = true) (hl : (getL name es).isSome = true)
    (e : (putL name (PyData.keyHash w.params name) (.str name (s.toks + 1)) v es, putN name es n) = (es', n')) (hz : es'.length ≤ 1000)
    (h : ∀ h' : Heap, h'.Ns L m → h'.get? dx = some (dictOf es' n') → (∀ b o, b ≠ dx → b ≠ L → s.heap.get? b = some o → h'.get? b = some o) → Q () { s with heap := h', toks := s.toks + 2 }) :
    wpAny (model prog w) A (setAttr (.ref x) name v) Q E s := by
  obtain ⟨e1, e2⟩ := Prod.mk.inj e
  have hdx : s.heap.get? dx = some (dictOf es n) := by
    have := I.dict
    rw [hd] at this
    exact this
  refine set_plain X I hs (osa_dict (s := { s with toks := s.toks + 1 }) (h₀ := noObjs s.heap) (L := L) (m := m) (od := dictOf es n) (od' := dictOf es' n') (es := es') (n := n') (pre := []) (post := ledger s.heap L dx)
    (fr_all hL) (news_ledger hne hdx) X I hd hp ht hh hl (fun _ q => nomatch q) (fun ⟨_, _⟩ q => (mem_ledger.mp q).2.1) (by rw [putName_dict, e1, e2]) rfl hz fun h' F' N' => ?_)
  exact h h' F'.ns (N'.get (List.Mem.head _)) fun b o n1 n2 ho => N'.get (List.Mem.tail _ (mem_ledger.mpr ⟨n2, n1, ho⟩))
end
end Att

namespace L2
open PySem PySem.Spec PyProof.Rows

theorem vals_ints : ∀ {vs : List Value} {ns : List Int}, IntsAre vs ns → Vals (ns.map V.int) vs
  | _, _, .nil => .nil
  | _, _, .cons n t h => .cons ⟨t, rfl⟩ (vals_ints h)

/-- nothing is tracked but the script, known to the object (or it is an object of the module) -/
def Only (H : Hp) : Prop := ∀ b, H b = none ∨ ∃ o xs, H b = some (.frz o (.lst xs))

/-- THE HEAD: the law's promise, at the heap behind the top. F, the promise of the law's def, may use that base is part of the heap (so K.In base, base.Ns mainGlobals mg stand in Mod) -/
theorem law_call {P : Program} {w : World} {K : PySem.W.Frag} {mg mb : Str → Option Value} {CX : CXT} {k : Nat} {fa a : Addr} {fd : FuncData} {x : Str} {sp : Sp} {s₁ : Shared} {vs : List Value} {ns : List Int}
    (KX : K.In s₁.heap) (hns : s₁.heap.Ns mainGlobals mg) (hb : s₁.heap.Ns builtinsNs mb) (hbb : ∀ x : Str, x ≠ "__name__" → mb x = bootBuiltins x) (hlim : s₁.heap.NoLimit) (hg : s₁.gens = #[])
    (ha : s₁.heap.get? a = some { cls := .type "list", data := .seq vs.toArray }) (hi : IntsAre vs ns) (hl : ns.length ≤ sizeLine) (hr : Room k callerA)
    (F : ∀ base : Heap, K.In base → base.Ns mainGlobals mg → FnOk P w K mg base CX k fa fd [x] sp) (hbind : ∀ (s : Shared) (u : Value), BindsTo s fd ⟨[u], []⟩ [(x, u)])
    (hsp : ∀ H : Hp, Only H → SqL K H a (ns.map V.int) → sp [.ref a] H (fun v _ => v = .bl true) fun _ _ _ => False)
    (hCX : ∀ H e s', CX [] H s₁ (fun _ _ _ => False) e s' → False) :
    codeAny (model P w) callerA (.call (.ref fa) ⟨[.ref a], []⟩) (fun r s' => r = .ok (.ret (.bool true)) ∧ OldK s₁.heap s'.heap ∧ s'.os = s₁.os ∧ AllBare s'.gens) s₁ := by
  have rv := vals_ints hi
  have lenV := hi.length
  -- from an abstract heap in which nothing but the script may be tracked
  have core : ∀ H : Hp, Only H → SqL K H a (ns.map V.int) → HOk P w H s₁.heap → (∀ b, H b ≠ none → b = a) → (H a ≠ none → K.lookup a = none) →
      codeAny (model P w) callerA (.call (.ref fa) ⟨[.ref a], []⟩) (fun r s' => r = .ok (.ret (.bool true)) ∧ OldK s₁.heap s'.heap ∧ s'.os = s₁.os ∧ AllBare s'.gens) s₁ := by
    intro H hO hS hok hA hK
    have base_of : ∀ {b : Addr} {o : Obj}, s₁.heap.get? b = some o → H b = none → (hidT s₁.heap H).get? b = some o := fun e n => hidT_get e n
    have noA : ∀ {b : Addr} {o : Obj} {es : Array DictEntry} {ep : Nat}, s₁.heap.get? b = some o → o.data = .dict es ep → H b = none := fun {b o es ep} e d => by
      cases q : H b with
      | none => rfl
      | some u =>
        have e' : b = a := hA b (by rw [q]; simp)
        subst e'
        rw [ha] at e; cases e
        have d' : Data.seq vs.toArray _ = Data.dict es ep := d
        cases d'
    have nsK : ∀ {b : Addr} {m : Str → Option Value}, s₁.heap.Ns b m → (hidT s₁.heap H).Ns b m := fun {b m} ⟨o, es, ep, e, d, r⟩ => ⟨o, es, ep, base_of e (noA e d), d, r⟩
    have hKb : K.In (hidT s₁.heap H) := fun b o e => base_of (KX b o e) (by
      cases q : H b with
      | none => rfl
      | some u =>
        have e' : b = a := hA b (by rw [q]; simp)
        subst e'
        rw [hK (by rw [q]; simp)] at e; cases e)
    have hM : Mod K mg (hidT s₁.heap H) := ⟨hKb, nsK hns, ⟨mb, nsK hb, hbb⟩, let ⟨mc, h1, h2⟩ := hlim; ⟨mc, nsK h1, h2⟩⟩
    have e0 : Env0 P w K mg (hidT s₁.heap H) callerA [] s₁ H := ⟨rfl, hM, fun b o e => of_hidT e, Nat.le_of_eq (hidT_size _ _), trivial, fun b hb => absurd (show b ∈ ([] : List Addr) from hb) (by simp), hok, .of_eq hg⟩
    refine codeAny_mono ((F _ hKb (nsK hns)).run callerA [] s₁ H ⟨[.ref a], []⟩ [.ref a] [.ref a] _ _ hr e0 (hbind s₁ (.ref a)) (.cons rfl .nil) (hsp H hO hS)) fun r s' h => ?_
    cases r with
    | error e => exact (hCX H e s' h).elim
    | ok fl =>
      cases fl with
      | next => exact False.elim h
      | brk => exact False.elim h
      | cont => exact False.elim h
      | ret u =>
        obtain ⟨v, H', os, bare, un, hok', r', q⟩ := h
        have q' : v = .bl true := q
        subst q'
        obtain rfl : u = Value.bool true := r'
        refine ⟨rfl, OldK.of_keep fun b o e => ?_, os, bare⟩
        cases q : H b with
        | none => exact un.keep b o e q (by intro z; exact absurd (show b ∈ ([] : List Addr) from z) (by simp)) (by simp)
        | some u =>
          rcases hO b with z | ⟨ob, xs, z⟩
          · rw [q] at z; cases z
          · have z2 := un.frzs b ob _ z
            obtain ⟨e1, _⟩ := hok b _ z
            obtain ⟨e2, _⟩ := hok' b _ z2
            rw [e] at e1; cases e1
            exact e2
  cases hk : K.lookup a with
  | some o =>
    -- the script is one of the module's own objects
    have e := KX a o hk
    rw [ha] at e
    cases e
    refine core (fun _ => none) (fun _ => .inl rfl) (.inr ⟨_, vs.toArray, _, hk, rfl, rfl, rfl, by rw [List.size_toArray, lenV]; exact hl, by simpa using rv⟩) (fun b u z => by have z' : (none : Option HO) = some u := z; cases z') (fun b z => absurd rfl z) fun z => absurd rfl z
  | none =>
    refine core (fun b => if b = a then some (.frz { cls := .type "list", data := .seq vs.toArray } (.lst (ns.map V.int))) else none) (fun b => ?_) (.inl (.inr ⟨{ cls := .type "list", data := .seq vs.toArray }, if_pos rfl⟩)) (fun b u z => ?_) (fun b z => ?_) fun _ => hk
    · by_cases hb : b = a
      · exact .inr ⟨_, _, if_pos hb⟩
      · exact .inl (if_neg hb)
    · by_cases hb : b = a
      · have z' := (if_pos hb).symm.trans z
        cases z'
        subst hb
        exact ⟨ha, by rw [List.length_map]; exact hl, vs, _, rv, ha⟩
      · have z' := (if_neg hb).symm.trans z
        cases z'
    · by_cases hb : b = a
      · exact hb
      · exact absurd (if_neg hb) z
end L2

namespace L2
open PySem PySem.Spec PyProof.Rows

abbrev KOf {K : PySem.W.Frag} {h : Heap} (_ : K.In h) : PySem.W.Frag := K

/-- the goal that k_head leaves (case hc), from the law's promise. F gives the function object fd (K's own) once, then the promise over every base -/
theorem walk_of {l : PySem.W.OpenLaw} {n k : Nat} {q : Program} {loose : List Str} {XP : (Str → Option Value) → Heap → Prop} {YP : World → Heap → Prop} {d : DefRec} {K : Params → PySem.W.Frag} {CX : World → CXT} {sp : World → Sp} {x : Str}
    (hn : l.most = some n) (hn2 : n ≤ sizeLine) (hdf : d.params.defaults = []) (hr : Room k callerA)
    (hY : ∀ (w : World) (h : Heap), YP w h → (K w.params).In h)
    (F : ∀ (w : World) (mg : Str → Option Value) (fa : Addr) (h : Heap), (K w.params).In h → h.Ns mainGlobals mg → mg d.name = some (.ref fa) →
      ∃ fd : FuncData, (∀ (s : Shared) (u : Value), BindsTo s fd ⟨[u], []⟩ [(x, u)]) ∧
        ∀ base : Heap, (K w.params).In base → base.Ns mainGlobals mg → FnOk l.prog w (K w.params) mg base (CX w) k fa fd [x] (sp w))
    (hsp : ∀ (w : World) (H : Hp) (a : Addr) (ns : List Int), ns.length ≤ n → Only H → SqL (K w.params) H a (ns.map V.int) → sp w [.ref a] H (fun v _ => v = .bl true) fun _ _ _ => False)
    (hCX : ∀ (w : World) (H : Hp) (s : Shared) (e : Value) (s' : Shared), CX w [] H s (fun _ _ _ => False) e s' → False) :
    PySem.W.WalkO q loose XP YP l.row.toRowW d [] (fun f vs => PySem.call f vs) := by
  refine Att.attach_call hn hdf fun w s₀ s₁ mg mb fa o pm cd doc a vs ns G Y ho hd hcd hmg hobj hints hlen hg => ?_
  have KX := hY w _ Y
  obtain ⟨fd, hb, hF⟩ := F w mg fa _ KX G.T.g hmg
  exact law_call KX G.T.g G.T.b G.T.builtins G.T.nolimit hg hobj hints (Nat.le_trans hlen hn2) hr hF hb (fun H hO hS => hsp w H a ns hlen hO hS) fun H e s' => hCX w H s₁ e s'
/-- the same where the promise hangs on the written part alone: (sp := My.sp_law), no hole under a binder -/
theorem walk_ofK {l : PySem.W.OpenLaw} {n k : Nat} {q : Program} {loose : List Str} {XP : (Str → Option Value) → Heap → Prop} {YP : World → Heap → Prop} {d : DefRec} {K : Params → PySem.W.Frag} {CX : CXT} {sp : PySem.W.Frag → Sp} {x : Str}
    (hn : l.most = some n) (hn2 : n ≤ sizeLine) (hdf : d.params.defaults = []) (hr : Room k callerA)
    (hY : ∀ (w : World) (h : Heap), YP w h → (K w.params).In h)
    (F : ∀ (w : World) (mg : Str → Option Value) (fa : Addr) (h : Heap), (K w.params).In h → h.Ns mainGlobals mg → mg d.name = some (.ref fa) →
      ∃ fd : FuncData, (∀ (s : Shared) (u : Value), BindsTo s fd ⟨[u], []⟩ [(x, u)]) ∧
        ∀ base : Heap, (K w.params).In base → base.Ns mainGlobals mg → FnOk l.prog w (K w.params) mg base CX k fa fd [x] (sp (K w.params)))
    (hsp : ∀ (K : PySem.W.Frag) (H : Hp) (a : Addr) (ns : List Int), ns.length ≤ n → Only H → SqL K H a (ns.map V.int) → sp K [.ref a] H (fun v _ => v = .bl true) fun _ _ _ => False)
    (hCX : ∀ (H : Hp) (s : Shared) (e : Value) (s' : Shared), CX [] H s (fun _ _ _ => False) e s' → False) :
    PySem.W.WalkO q loose XP YP l.row.toRowW d [] (fun f vs => PySem.call f vs) :=
  walk_of (K := K) (CX := fun _ => CX) (sp := fun w => sp (K w.params)) hn hn2 hdf hr hY F (fun w H a ns h1 h2 h3 => hsp (K w.params) H a ns h1 h2 h3) fun _ H s e s' => hCX H s e s'
end L2

/- THE LAST THEOREM (shape; LID, My.* are yours):
   My.Adr: a structure of the addresses that your layer names (classes, functions); My.Txt K t: a structure (Prop) of the equations over K;
   My.txt_mk : {K} {implicit addresses ..} (e1 : nsIn K mainGlobals "law" = some (some (.ref f))) (e2 : K.lookup f = some ⟨oc, od, .func (fnOf "law" "law" params body scope dV kV doc pm an cdv ct), sl⟩) (e3 : codeIn K cdv "law" = true) .. : ∃ t, My.Txt K t

set_option maxRecDepth 100000 in
set_option maxHeartbeats 0 in
theorem PySem.Challenge.cw_LID_holds : PySem.Challenge.rw_LID.Holds := by
  w_on; o_law; k_head; (case hw => w_witness2)
  k_fill
  refine L2.walk_of (l := PySem.Challenge.rw_LID) (n := 63) (k := 40) (x := "script") (CX := fun w => ..) (sp := fun _ => My.sp_law) rfl (by decide) rfl ⟨rfl, by decide, by decide⟩ (fun w h Y => PySem.W.kIn_of Y) ?F ?S ?C
  case F =>
    intro w mg fa h KX G hmg
    have T : ∃ t, My.Txt (L2.KOf KX) t := by
      dsimp only [L2.KOf]                          -- K must stand as «<heap const> w.params» for k_is
      refine' My.txt_mk ?e1 ?e2 ?e3 ..
      (case e1 => PySem.W.k_is)                    -- in the order: a name -> its address -> its object -> its parts
      (case e2 => PySem.W.k_is)
      ..
    obtain ⟨t, T⟩ := T
    have e0 := hmg.symm.trans (PySem.W.mg_of KX G T.law)
    cases e0                                       -- fa is the law's own address
    exact ⟨_, fun s u => .of_eq rfl, fun base kb nb => My.law_fn T kb nb⟩     -- if «.of_eq rfl» comes too early: refine' ⟨_, ?b, fun base kb nb => My.law_fn T kb nb⟩; exact fun s u => .of_eq rfl
  case S => exact fun w H a ns hl hO hS => ..
  case C => exact ..
(the tactic k_is has no namespace: write k_is) -/

/-! SHORT WORDS over the layer: a def of the text, its body, what a loop and a test want. -/
namespace L2
open PySem PySem.Spec PyProof.Rows

/-! ### the text by places -/
/-- the j-th statement of a class's body -/
def inClass (s : Stmt) (j : Nat) : Stmt := match s with
  | .ClassDef _ _ _ body _ _ _ _ _ _ _ => body.getD j (.Pass ⟨0, 0, 0, 0⟩)
  | _ => .Pass ⟨0, 0, 0, 0⟩
def defArgs (s : Stmt) : Arguments := match s with
  | .FunctionDef _ a _ _ _ _ _ _ _ _ => a
  | _ => { posonlyargs := [], args := [], vararg := none, kwonlyargs := [], kw_defaults := [], kwarg := none, defaults := [] }
def defBody (s : Stmt) : List Stmt := match s with
  | .FunctionDef _ _ b _ _ _ _ _ _ _ => b
  | _ => []
def defScope (s : Stmt) : Scope := match s with
  | .FunctionDef _ _ _ _ _ _ sc _ _ _ => sc
  | _ => { kind := .function, names := [], isGenerator := false, isCoroutine := false }

/-! ### no exception leaves a def -/
abbrev CX0 : CXT := fun _ _ _ _ _ _ => False
abbrev E0 : XK := fun _ _ _ => False
theorem pass0 {X : Cx} : Passes CX0 X E0 := fun _ _ _ _ _ _ _ h => h.elim

/-! ### a def (or method) of the text as it stands behind the top -/
structure Fun (K : PySem.W.Frag) (x qual : Str) (st : Stmt) (f : Addr) (fd : FuncData) : Prop where
  ex : ∃ (oc : Value) (od : Option Addr) (kV doc pm : Value) (an : Option Addr) (cdv ct : Value) (osl : Array (Option Value)),
    fd = PySem.W.fnOf x qual (defArgs st) (defBody st) (defScope st) .none kV doc pm an cdv ct ∧ K.lookup f = some ⟨oc, od, .func fd, osl⟩ ∧ PySem.W.codeIn K cdv qual = true
  kp : PySem.W.keepIn K (.ref f) = true
section
variable {P : Program} {w : World} {K : PySem.W.Frag} {mg : Str → Option Value} {base : Heap}
/-- THE RULE for a def: its body as a term of rules, and the reading of that term -/
theorem Fun.ok {x qual : Str} {st : Stmt} {f : Addr} {fd : FuncData} {N ps : List Str} {k : Nat} {sp : Sp} (F : Fun K x qual st f fd) (S : FnScope N ps (defScope st)) (len : ∀ vs H Q E, sp vs H Q E → vs.length = ps.length)
    (hbody : ∀ (cdv : Value) (A : Around) (outer : List Env) (s : Shared) (H : Hp) (vs : List V) (Q : VK) (E : XK), Room k (A.deeper (envOfC qual (defScope st) s.heap.objs.size f cdv)) → sp vs H Q E →
      ∃ t, PSs (cxOf CX0 P w K mg base N qual (defScope st) f cdv A outer s H E).nox (defBody st) t ∧ t { nx := fun _ H' => Q .non H', rt := Q } (start N vs) H) : FnOk P w K mg base CX0 (k + 1) f fd ps sp := by
  obtain ⟨oc, od, kV, doc, pm, an, cdv, ct, osl, rfl, lk, hcd⟩ := F.ex
  refine fn_of lk hcd S len fun A outer s H vs Q E hr hsp => ?_
  obtain ⟨t, h, q⟩ := hbody cdv A outer s H vs Q E hr hsp
  exact ⟨t, h.nox, q⟩
/-- how its arguments bind (no defaults): h is «fun _ _ _ _ _ _ us hl => match us, hl with | [_, _], _ => rfl», one _ a parameter -/
theorem Fun.binds {x qual : Str} {st : Stmt} {f : Addr} {fd : FuncData} {ps : List Str} (F : Fun K x qual st f fd)
    (h : ∀ (kV doc pm : Value) (an : Option Addr) (cdv ct : Value) (us : List Value), us.length = ps.length → bindArgs (PySem.W.fnOf x qual (defArgs st) (defBody st) (defScope st) .none kV doc pm an cdv ct) ⟨us, []⟩ = pure (ps.zip us)) : Binds K fd ps [] := by
  obtain ⟨oc, od, kV, doc, pm, an, cdv, ct, osl, rfl, lk, hcd⟩ := F.ex
  exact .all (h kV doc pm an cdv ct)
theorem fun_mk {x qual : Str} {st : Stmt} {f : Addr} {oc : Value} {od an : Option Addr} {osl : Array (Option Value)} {kV doc pm cdv ct : Value} (l : K.lookup f = some ⟨oc, od, .func (PySem.W.fnOf x qual (defArgs st) (defBody st) (defScope st) .none kV doc pm an cdv ct), osl⟩)
    (c : PySem.W.codeIn K cdv qual = true) (k : PySem.W.keepIn K (.ref f) = true) : Fun K x qual st f (PySem.W.fnOf x qual (defArgs st) (defBody st) (defScope st) .none kV doc pm an cdv ct) := ⟨⟨oc, od, kV, doc, pm, an, cdv, ct, osl, rfl, l, c⟩, k⟩
end
theorem hu_of {A : Around} {k : Nat} (hr : Room k A) : A.units + 1 < cLine := Nat.lt_of_le_of_lt (Nat.add_le_add_left (by decide : 1 ≤ 64) _) hr.units
theorem small1000 {n : Nat} (h : n ≤ 1000) : n < sizeLine := Nat.lt_of_le_of_lt h (by decide)

/-! ### expressions in short: the name that stands in the i-th slot -/
section
variable {X : Cx}
theorem pv (i : Nat) {x : Str} {pos : Pos} (hN : X.N[i]? = some x := by rfl) (hv : Vis X.env.scope x := by first | exact Or.inl rfl | exact Or.inr (Or.inl rfl) | exact Or.inr (Or.inr rfl)) (hd : (x == ("__debug__" : Str)) = false := by decide)
    (hcd : (x == ("__classdict__" : Str)) = false := by decide) : PE X (.Name x pos) (tVar i) := pe_var hN hv hd hcd
end

/-! ### tests -/
theorem iteF {A B : Prop} (h : B) : if false = true then A else B := by
  rw [if_neg Bool.false_ne_true]
  exact h
theorem iteT {A B : Prop} (h : A) : if true = true then A else B := by
  rw [if_pos rfl]
  exact h
theorem ite2 {c A B : Prop} [Decidable c] (h1 : c → A) (h2 : ¬ c → B) : if c then A else B := by
  by_cases h : c
  · rw [if_pos h]
    exact h1 h
  · rw [if_neg h]
    exact h2 h
theorem iteNS {c A B : Prop} [Decidable c] (hc : c) (h : B) : if (!decide c) = true then A else B := by
  rw [decide_eq_true hc]
  exact iteF h

/-! ### heaps -/
/-- all that was tracked is as it was -/
def Same (H H' : Hp) : Prop := ∀ b o, H b = some o → H' b = some o
theorem Same.refl (H : Hp) : Same H H := fun _ _ h => h
theorem Same.trans {H H1 H2 : Hp} (a : Same H H1) (b : Same H1 H2) : Same H H2 := fun c o h => b c o (a c o h)
theorem Same.free {H H' : Hp} (e : Same H H') {l : Addr} (h : H' l = Option.none) : H l = Option.none := by
  cases q : H l with
  | none => rfl
  | some o =>
    rw [e l o q] at h
    cases h
theorem Same.seq {K : PySem.W.Frag} {H H' : Hp} {a : Addr} {xs : List V} (e : Same H H') (h : SqL K H a xs) : SqL K H' a xs := by
  rcases h with (h | ⟨o, h⟩) | h
  · exact .inl (.inl (e _ _ h))
  · exact .inl (.inr ⟨o, e _ _ h⟩)
  · exact .inr h

end L2

set_option Elab.async false
set_option linter.all false
set_option maxRecDepth 100000
namespace L2
open PySem PySem.Spec PyProof.Rows

/-! ### isinstance of a builtin type -/
def kindV (H : Hp) : V → Option String
  | .non => some "NoneType"
  | .bl _ => some "bool"
  | .int _ => some "int"
  | .str _ => some "str"
  | .ref p => match H p with
    | some (.lst _) => some "list"
    | some (.tup _) => some "tuple"
    | _ => none
  | _ => none
def subT (a b : String) : Bool := a == b || (a == "bool" && b == "int")
def plainT (T : String) : Prop := T = "int" ∨ T = "bool" ∨ T = "tuple" ∨ T = "list" ∨ T = "str"
section
variable {X : Cx}
theorem call_isi : CallR X (.builtin "isinstance") (fun xs H Q => ∃ x T k, xs = [x, .ty T] ∧ plainT T ∧ kindV H x = some k ∧ Q (.bl (subT k T)) H) := by
  intro pins s σ H xs us Q I r h
  obtain ⟨x, T, k, rfl, hT, hk, q⟩ := h
  obtain ⟨u, w', rfl, rx, ry⟩ := vals2 r
  cases (show w' = Value.type T from ry)
  have fin : ∀ {b : Bool} {s' : Shared}, b = subT k T → Inv X pins σ H s' → EP X pins σ Q (.bool b) s' := fun {b s'} e J => ⟨.bl b, H, J, rfl, by rw [e]; exact q⟩
  cases x with
  | non =>
    cases (show u = Value.none from rx)
    cases hk
    rcases hT with rfl | rfl | rfl | rfl | rfl
    · exact IsiPair.NoneType_int (fin (by decide) (I.tok _))
    · exact IsiPair.NoneType_bool (fin (by decide) (I.tok _))
    · exact IsiPair.NoneType_tuple (fin (by decide) (I.tok _))
    · exact IsiPair.NoneType_list (fin (by decide) (I.tok _))
    · exact IsiPair.NoneType_str (fin (by decide) (I.tok _))
  | bl b =>
    cases (show u = Value.bool b from rx)
    cases hk
    rcases hT with rfl | rfl | rfl | rfl | rfl
    · exact IsiPair.bool_int (fin (by decide) I)
    · exact IsiPair.bool_bool (fin (by decide) I)
    · exact IsiPair.bool_tuple (fin (by decide) (I.tok _))
    · exact IsiPair.bool_list (fin (by decide) (I.tok _))
    · exact IsiPair.bool_str (fin (by decide) (I.tok _))
  | int i =>
    obtain ⟨t, rfl⟩ := (show ∃ t, u = Value.int i t from rx)
    cases hk
    rcases hT with rfl | rfl | rfl | rfl | rfl
    · exact IsiPair.int_int (fin (by decide) I)
    · exact IsiPair.int_bool (fin (by decide) (I.tok _))
    · exact IsiPair.int_tuple (fin (by decide) (I.tok _))
    · exact IsiPair.int_list (fin (by decide) (I.tok _))
    · exact IsiPair.int_str (fin (by decide) (I.tok _))
  | str z =>
    obtain ⟨t, rfl⟩ := (show ∃ t, u = Value.str z t from rx)
    cases hk
    rcases hT with rfl | rfl | rfl | rfl | rfl
    · exact IsiPair.str_int (fin (by decide) (I.tok _))
    · exact IsiPair.str_bool (fin (by decide) (I.tok _))
    · exact IsiPair.str_tuple (fin (by decide) (I.tok _))
    · exact IsiPair.str_list (fin (by decide) (I.tok _))
    · exact IsiPair.str_str (fin (by decide) I)
  | ref p =>
    cases (show u = Value.ref p from rx)
    cases e : H p with
    | none => simp [kindV, e] at hk
    | some o =>
      cases o with
      | lst ys =>
        have hk' : k = "list" := by simp [kindV, e] at hk; exact hk.symm
        subst hk'
        obtain ⟨its, n, rr, ho, hz⟩ := I.lst e
        rcases hT with rfl | rfl | rfl | rfl | rfl
        · exact IsiPair.list_int ho rfl (fin (by decide) (I.tok _))
        · exact IsiPair.list_bool ho rfl (fin (by decide) (I.tok _))
        · exact IsiPair.list_tuple ho rfl (fin (by decide) (I.tok _))
        · exact IsiPair.list_list ho rfl (fin (by decide) I)
        · exact IsiPair.list_str ho rfl (fin (by decide) (I.tok _))
      | tup ys =>
        have hk' : k = "tuple" := by simp [kindV, e] at hk; exact hk.symm
        subst hk'
        obtain ⟨its, rr, ⟨ob, ho, hc, _⟩, hz⟩ := I.tuple (xs := ys) (.inl (.inl e))
        rcases hT with rfl | rfl | rfl | rfl | rfl
        · exact IsiPair.tuple_int ho hc (fin (by decide) (I.tok _))
        · exact IsiPair.tuple_bool ho hc (fin (by decide) (I.tok _))
        · exact IsiPair.tuple_tuple ho hc (fin (by decide) I)
        · exact IsiPair.tuple_list ho hc (fin (by decide) (I.tok _))
        · exact IsiPair.tuple_str ho hc (fin (by decide) (I.tok _))
      | _ => simp [kindV, e] at hk
  | _ => cases hk

/-! ### bit_length -/
def rBits : V → List V → Hp → VK → Prop := fun x xs H Q => ∃ i, x = .int i ∧ xs = [] ∧ Q (.int (Builtin.Int.intBits i : Nat)) H
theorem mt_bits : MtR X "int.bit_length" rBits := by
  intro pins s σ H x xs v us Q I rx rs h
  obtain ⟨i, rfl, rfl, q⟩ := h
  obtain ⟨t, rfl⟩ := rx
  cases rs
  exact call_gives F.slot_int_bit_length (typeIs_int s i t) F.entry_int_bit_length (F.args_int_bit_length_1 _) (AutoIntG2.int_bit_length_int_0 i t) ⟨.int (Builtin.Int.intBits i : Nat), H, I.tok _, ⟨_, rfl⟩, q⟩

/-! ### products and quotients of longer numbers -/
def CMulB (i j : Int) : Prop := Builtin.Int.intBits i + Builtin.Int.intBits j ≤ 134217728
theorem op_mulB : OpR X (binaryOp .Mult) (rI CMulB fun i j => .int (i * j)) := opI fun i j _ _ _ _ _ hc q => mul_int q (mulOk_of_bits (Nat.le_refl _) (Nat.le_refl _) hc)
def CDivB (i j : Int) : Prop := 0 < j ∧ j.natAbs.log2 < 9000
theorem op_fdivB : OpR X (binaryOp .FloorDiv) (rI CDivB fun i j => .int (i / j)) := opI fun i j _ _ _ _ _ hc q => by
  have h1 : (0 : Int) < j := hc.1
  exact floordiv_int (by omega) (by rw [Int.fdiv_eq_ediv_of_nonneg i (by omega)]; exact q) (.inl (PyProof.noPylong_of_log2 hc.2))
def CDivF (i j : Int) : Prop := j ≠ 0 ∧ j.natAbs.log2 < 9000
theorem op_fdivF : OpR X (binaryOp .FloorDiv) (rI CDivF fun i j => .int (i.fdiv j)) := opI fun i j _ _ _ _ _ hc q =>
  floordiv_int hc.1 q (.inl (PyProof.noPylong_of_log2 hc.2))

/-! ### == of two tuples of flat items -/
def eqVs : List V → List V → Bool
  | [], [] => true
  | x :: xs, y :: ys => eqV x y && eqVs xs ys
  | _, _ => false
theorem eqVs_range : ∀ (xs ys : List V), ((List.range (min xs.length ys.length)).all (fun j => eqV (xs.getD j .non) (ys.getD j .non)) && xs.length == ys.length) = eqVs xs ys
  | [], [] => rfl
  | [], _ :: _ => by simp [eqVs]
  | _ :: _, [] => by simp [eqVs]
  | x :: xs, y :: ys => by
    rw [eqVs, ← eqVs_range xs ys]
    simp only [List.length_cons, Nat.succ_min_succ, List.range_succ_eq_map, List.all_cons, List.all_map, Bool.and_assoc]
    congr 1
    · congr 1
      simp
def rEqT (K : PySem.W.Frag) : R2 := fun x y H Q => ∃ a b xs ys, x = .ref a ∧ y = .ref b ∧ SqT K H a xs ∧ SqT K H b ys ∧ xs.all flatV = true ∧ ys.all flatV = true ∧ Q (.bl (eqVs xs ys)) H
theorem op_eqT (hu : X.A.units < cLine) : OpR X (compareOp .Eq) (rEqT X.K) := by
  intro pins s σ H x y v u Q I rx ry h
  obtain ⟨a, b, xs, ys, rfl, rfl, ha, hb, fx, fy, q⟩ := h
  cases rx
  cases ry
  obtain ⟨its, r, pl, hz⟩ := I.tuple ha
  obtain ⟨its', r', pl', hz'⟩ := I.tuple hb
  have l1 := r.length
  have l2 := r'.length
  refine SeqAt.eq_tupleAt (e := fun j => eqV (xs.getD j .non) (ys.getD j .non)) pl pl' hu (fun j h1 h2 => ?_) ⟨.bl (eqVs xs ys), H, I, ?_, q⟩
  · have h1' : j < xs.length := by rw [l1]; simpa using h1
    have h2' : j < ys.length := by rw [l2]; simpa using h2
    obtain ⟨u1, e1, q1⟩ := r.get (i := j) (x := xs[j]) (by simp [h1'])
    obtain ⟨u2, e2, q2⟩ := r'.get (i := j) (x := ys[j]) (by simp [h2'])
    have g1 : its.toArray[j] = u1 := by
      have := e1
      rw [List.getElem?_eq_getElem (by simpa using h1)] at this
      simpa using this
    have g2 : its'.toArray[j] = u2 := by
      have := e2
      rw [List.getElem?_eq_getElem (by simpa using h2)] at this
      simpa using this
    rw [g1, g2]
    have w1 : xs.getD j .non = xs[j] := by simp [List.getD, h1']
    have w2 : ys.getD j .non = ys[j] := by simp [List.getD, h2']
    simp only [w1, w2]
    exact eqAt_V q1 q2 (List.all_eq_true.mp fx _ (List.getElem_mem _)) (List.all_eq_true.mp fy _ (List.getElem_mem _))
  · show Value.bool _ = Value.bool _
    rw [← eqVs_range, l1, l2]
    simp
end
end L2

/-! ### defs of the text and what they promise, bundled -/
namespace L2
open PySem PySem.Spec PyProof.Rows
/-- a def of the text stands at its name -/
def Fn0 (K : PySem.W.Frag) (mg : Str → Option Value) (x : Str) (st : Stmt) : Prop := ∃ f fd, Fun K x x st f fd ∧ mg x = some (.ref f)
theorem fn0_mk {K : PySem.W.Frag} {mg : Str → Option Value} {h : Heap} (X : K.In h) (G : h.Ns mainGlobals mg) {x : Str} {st : Stmt} {f : Addr} {oc : Value} {od an : Option Addr} {osl : Array (Option Value)} {kV doc pm cdv ct : Value}
    (a : PySem.W.nsIn K mainGlobals x = some (some (.ref f))) (l : K.lookup f = some ⟨oc, od, .func (PySem.W.fnOf x x (defArgs st) (defBody st) (defScope st) .none kV doc pm an cdv ct), osl⟩) (c : PySem.W.codeIn K cdv x = true) (k : PySem.W.keepIn K (.ref f) = true) : Fn0 K mg x st :=
  ⟨f, _, fun_mk l c k, PySem.W.mg_of X G a⟩
/-- a def keeps a promise: calls of it may be read by sp -/
def Cal (P : Program) (w : World) (K : PySem.W.Frag) (mg : Str → Option Value) (base : Heap) (x : Str) (ps : List Str) (k : Nat) (sp : Sp) : Prop :=
  ∃ f fd, mg x = some (.ref f) ∧ PySem.W.keepIn K (.ref f) = true ∧ Binds K fd ps [] ∧ FnOk P w K mg base CX0 k f fd ps sp
theorem cal_of {P : Program} {w : World} {K : PySem.W.Frag} {mg : Str → Option Value} {base : Heap} {x : Str} {st : Stmt} {N ps : List Str} {k : Nat} {sp : Sp} (F : Fn0 K mg x st) (S : FnScope N ps (defScope st))
    (hb : ∀ (kV doc pm : Value) (an : Option Addr) (cdv ct : Value) (us : List Value), us.length = ps.length → bindArgs (PySem.W.fnOf x x (defArgs st) (defBody st) (defScope st) .none kV doc pm an cdv ct) ⟨us, []⟩ = pure (ps.zip us))
    (len : ∀ vs H Q E, sp vs H Q E → vs.length = ps.length)
    (hbody : ∀ (f : Addr) (cdv : Value) (A : Around) (outer : List Env) (s : Shared) (H : Hp) (vs : List V) (Q : VK) (E : XK), Room k (A.deeper (envOfC x (defScope st) s.heap.objs.size f cdv)) → sp vs H Q E →
      ∃ t, PSs (cxOf CX0 P w K mg base N x (defScope st) f cdv A outer s H E).nox (defBody st) t ∧ t { nx := fun _ H' => Q .non H', rt := Q } (start N vs) H) : Cal P w K mg base x ps (k + 1) sp := by
  obtain ⟨f, fd, F, m⟩ := F
  exact ⟨f, fd, m, F.kp, F.binds hb, F.ok S len fun cdv A outer s H vs Q E => hbody f cdv A outer s H vs Q E⟩
section
variable {X : Cx} {x : Str} {ps : List Str} {k : Nat} {sp : Sp} {e : Expr} {es : List Expr} {t : TA} {p pos : Pos}
theorem pe_callC (C : Cal X.prog X.w X.K X.mg X.base x ps k sp) (hr : Room k X.A) (hg : Gl X x) (ha : PA X (e :: es) t) (hdb : (x == ("__debug__" : Str)) = false := by decide)
    (he : starEach (e :: es) X.env = (false, eval e X.env) :: starEach es X.env := by rfl) (hpl : (backTo pos (starEach es X.env)).any (·.1) = false := by rfl) : PE X (.Call (.Name x p) (e :: es) [] pos) (tCall sp [] E0 t) := by
  obtain ⟨f, fd, m, kp, b, F⟩ := C
  exact pe_call F hr hg m kp b .nil pass0 ha hdb he hpl
theorem pe_callC0 (C : Cal X.prog X.w X.K X.mg X.base x ps k sp) (hr : Room k X.A) (hg : Gl X x) (hdb : (x == ("__debug__" : Str)) = false := by decide) : PE X (.Call (.Name x p) [] [] pos) (tCall sp [] E0 tNil) := by
  obtain ⟨f, fd, m, kp, b, F⟩ := C
  exact pe_call0 F hr hg m kp b .nil pass0 hdb
theorem pe_gint {i : Int} (hm : ∃ t, X.mg x = some (.int i t)) (hg : Gl X x) (hd : (x == ("__debug__" : Str)) = false := by decide) : PE X (.Name x pos) (tC (.int i)) := by
  obtain ⟨t, hm⟩ := hm
  exact pe_glob hg hm ⟨t, rfl⟩ hd
end
theorem mg_int {K : PySem.W.Frag} {mg : Str → Option Value} {h : Heap} (X : K.In h) (G : h.Ns mainGlobals mg) {x : Str} {i : Int} {t : Tok} (a : PySem.W.nsIn K mainGlobals x = some (some (.int i t))) : ∃ t, mg x = some (.int i t) := ⟨t, PySem.W.mg_of X G a⟩
theorem Same.upd {H H' : Hp} {a : Addr} {o : HO} (e : Same H H') (h : H a = none) : Same H (upd H' a o) := fun b o' q => by
  rw [upd_ne (ne_of_none q h)]
  exact e b o' q
theorem Same.new {H : Hp} {a : Addr} {o : HO} (h : H a = none) : Same H (L2.upd H a o) := (Same.refl H).upd h
end L2


set_option Elab.async false
set_option linter.all false
set_option maxRecDepth 100000
namespace L2
open PySem PySem.Spec PyProof.Rows
/-! ### readings over the tracked heap alone -/
def rIxTH : R2 := fun x y H Q => ∃ p xs i v, x = .ref p ∧ y = .int i ∧ H p = some (.tup xs) ∧ atI xs i = some v ∧ Q v H
def rIxLH : R2 := fun x y H Q => ∃ p xs i v, x = .ref p ∧ y = .int i ∧ H p = some (.lst xs) ∧ atI xs i = some v ∧ Q v H
theorem ix_tupH {X : Cx} : IxR X rIxTH := by
  intro value slice pins s σ H x y v u Q I rx ry h hs
  obtain ⟨p, xs, i, z, e1, e2, hp, ha, q⟩ := h
  exact ix_tup value slice pins s σ H x y v u Q I rx ry ⟨p, xs, i, z, e1, e2, .inl (.inl hp), ha, q⟩ hs
theorem ix_listH {X : Cx} : IxR X rIxLH := by
  intro value slice pins s σ H x y v u Q I rx ry h hs
  obtain ⟨p, xs, i, z, e1, e2, hp, ha, q⟩ := h
  exact ix_list value slice pins s σ H x y v u Q I rx ry ⟨p, xs, i, z, e1, e2, .inl (.inl hp), ha, q⟩ hs
def rEqTH : R2 := fun x y H Q => ∃ a b xs ys, x = .ref a ∧ y = .ref b ∧ H a = some (.tup xs) ∧ H b = some (.tup ys) ∧ xs.all flatV = true ∧ ys.all flatV = true ∧ Q (.bl (eqVs xs ys)) H
theorem op_eqTH {X : Cx} (hu : X.A.units < cLine) : OpR X (compareOp .Eq) rEqTH := by
  intro pins s σ H x y v u Q I rx ry h
  obtain ⟨a, b, xs, ys, e1, e2, ha, hb, f1, f2, q⟩ := h
  exact op_eqT hu pins s σ H x y v u Q I rx ry ⟨a, b, xs, ys, e1, e2, .inl (.inl ha), .inl (.inl hb), f1, f2, q⟩
def rLenH : List V → Hp → VK → Prop := fun xs H Q => ∃ p ys, xs = [V.ref p] ∧ (H p = some (.lst ys) ∨ H p = some (.tup ys)) ∧ Q (.int ys.length) H
theorem call_lenH {X : Cx} : CallR X (.builtin "len") rLenH := by
  intro pins s σ H xs us Q I r h
  obtain ⟨p, ys, e, hp, q⟩ := h
  exact call_len_seq pins s σ H xs us Q I r ⟨p, ys, e, hp.imp (fun z => .inl (.inl z)) (fun z => .inl (.inl z)), q⟩
theorem pe_bty {X : Cx} {x : Str} {n : String} {pos : Pos} (hg : Gl X x) (hm : X.mg x = none) (hv : bootBuiltins x = some (.type n)) (hn : x ≠ "__name__" := by decide) (hd : (x == ("__debug__" : Str)) = false := by decide) : PE X (.Name x pos) (tC (.ty n)) :=
  pe_bltn hg hm hv rfl hn hd
theorem atI_0 {α : Type} {x : α} {xs : List α} : atI (x :: xs) 0 = some x := by simp [atI, ixN]
theorem atI_1 {α : Type} {x y : α} {xs : List α} : atI (x :: y :: xs) 1 = some y := by
  have h : (1 : Int) < (xs.length : Int) + 1 + 1 := by omega
  simp [atI, ixN, h]
theorem atI_2 {α : Type} {x y z : α} {xs : List α} : atI (x :: y :: z :: xs) 2 = some z := by
  have h : (2 : Int) < (xs.length : Int) + 1 + 1 + 1 := by omega
  simp [atI, ixN, h]
theorem atI_nn {α : Type} {xs : List α} {i : Int} {v : α} (h0 : 0 ≤ i) (h : xs[i.toNat]? = some v) : atI xs i = some v := by
  have hl : i.toNat < xs.length := (List.getElem?_eq_some_iff.mp h).1
  have hl' : i < xs.length := by omega
  unfold atI ixN
  rw [if_pos h0, if_pos hl']
  exact h
theorem ixN_00 (n : Nat) : ixN (n + 1) 0 = some 0 := by
  have : (0 : Int) < (n : Int) + 1 := by omega
  simp [ixN, this]
theorem while_W {c : TT} {tb : TS} {D : Ends} {σ : St} {H : Hp} (Pv : St → Hp → Prop) (μ : St → Hp → Nat) (h0 : Pv σ H)
    (hs : ∀ σ H, Pv σ H → c σ H fun b H1 => if b = true then ∃ N : St → Hp → Prop, (∀ σ' H', N σ' H' → ∃ m', m' < μ σ H ∧ m' = μ σ' H' ∧ Pv σ' H') ∧ tb { D with nx := N, ct := N, bk := D.nx } σ H1 else D.nx σ H1) : tWhile c tb D σ H :=
  ⟨fun m σ H => m = μ σ H ∧ Pv σ H, ⟨_, rfl, h0⟩, by rintro m σ H ⟨rfl, p⟩; exact hs σ H p⟩
theorem N_ok {Pv : St → Hp → Prop} {μ : St → Hp → Nat} {k : Nat} : ∀ σ' H', (Pv σ' H' ∧ μ σ' H' < k) → ∃ m', m' < k ∧ m' = μ σ' H' ∧ Pv σ' H' := fun _ _ ⟨a, b⟩ => ⟨_, b, rfl, a⟩
theorem line_le (n : Nat) (h : n ≤ 1000) : (n ≤ sizeLine) = True := eq_true (Nat.le_of_lt (small1000 h))
/-- a for behind its iterator: kept shut for the walk -/
def ForGo (J : It) (g : TG) (tb : TS) (D : Ends) (σ : St) (H : Hp) : Prop := ∃ W : Nat → Nat → St → Hp → Prop, (∃ m, W 0 m σ H) ∧ ∀ i m σ H, W i m σ H →
  (J.stop i H ∧ D.nx σ H) ∨ (J.go i H ∧ ∃ N : St → Hp → Prop, (∀ σ' H', N σ' H' → ∃ m', m' < m ∧ W (i + 1) m' σ' H') ∧ ∀ x H', J.yld i H x H' → g x σ H' fun σ2 H2 => tb { D with nx := N, ct := N, bk := D.nx } σ2 H2)
theorem tFor_eq {wi : TI} {g : TG} {tb : TS} {D : Ends} {σ : St} {H : Hp} : tFor wi g tb D σ H = wi σ H fun J H1 => ForGo J g tb D σ H1 := rfl
theorem go_range {lo : Int} {n : Nat} {g : TG} {tb : TS} {D : Ends} {σ : St} {H : Hp} (Pv : Nat → St → Hp → Prop) (h0 : Pv 0 σ H)
    (hs : ∀ i σ H, i < n → Pv i σ H → g (.int (lo + i)) σ H fun σ2 H2 => tb { D with nx := Pv (i + 1), ct := Pv (i + 1), bk := D.nx } σ2 H2) (hd : ∀ σ H, Pv n σ H → D.nx σ H) : ForGo (Itr lo n) g tb D σ H := for_range Pv h0 hs hd
theorem go_list {K : PySem.W.Frag} {a : Addr} {xs : List V} {g : TG} {tb : TS} {D : Ends} {σ : St} {H : Hp} (Pv : Nat → St → Hp → Prop) (h0 : Pv 0 σ H) (hl : ∀ i σ H, i ≤ xs.length → Pv i σ H → SqL K H a xs)
    (hs : ∀ i x σ H, xs[i]? = some x → Pv i σ H → g x σ H fun σ2 H2 => tb { D with nx := Pv (i + 1), ct := Pv (i + 1), bk := D.nx } σ2 H2) (hd : ∀ σ H, Pv xs.length σ H → D.nx σ H) : ForGo (Itl K a) g tb D σ H := for_list Pv h0 hl hs hd
/-! ### argument lists: what is asked of their shape, by one look -/
def notStar : Expr → Bool
  | .Starred .. => false
  | _ => true
theorem starEach_plain {e : Expr} {es : List Expr} {env : Env} (h : notStar e = true) : starEach (e :: es) env = (false, eval e env) :: starEach es env := by
  cases e <;> first | rfl | exact absurd (show false = true from h) Bool.false_ne_true
def plainArgs : List Expr → Bool
  | [] => true
  | e :: es => notStar e && plainArgs es
theorem backTo_plain {pos : Pos} {env : Env} : ∀ {es : List Expr}, plainArgs es = true → (backTo pos (starEach es env)).any (·.1) = false
  | [], _ => rfl
  | e :: es, h => by
    have h' : notStar e = true ∧ plainArgs es = true := by simpa [plainArgs] using h
    rw [starEach_plain h'.1]
    show (false || (backTo pos (starEach es env)).any (·.1)) = false
    rw [backTo_plain h'.2]
    rfl
def isComp : Expr → Bool
  | .ListComp .. => true
  | .SetComp .. => true
  | .DictComp .. => true
  | _ => false
theorem swaps_plain {e : Expr} {t : Option Expr} {n : Nat} {env : Env} (h : isComp e = false) : swapsWith e t n env = pure false := by
  cases e <;> first | rfl | exact absurd (show true = false from h) Bool.noConfusion
section
variable {X : Cx} {x : Str} {ps : List Str} {k : Nat} {sp : Sp} {e : Expr} {es : List Expr} {te : TE} {t : TA} {p pos : Pos} {id : String} {r : List V → Hp → VK → Prop}
theorem pa_c (ha : PE X e te) (hr : PA X es t) (hs : notStar e = true := by rfl) : PA X (e :: es) (tCons te t) := pa_cons ha hr (starEach_plain hs)
theorem pe_callD (C : Cal X.prog X.w X.K X.mg X.base x ps k sp) (hr : Room k X.A) (hg : Gl X x) (ha : PA X (e :: es) t) (hs : plainArgs (e :: es) = true := by rfl) (hdb : (x == ("__debug__" : Str)) = false := by decide) :
    PE X (.Call (.Name x p) (e :: es) [] pos) (tCall sp [] E0 t) :=
  have h' : notStar e = true ∧ plainArgs es = true := by simpa [plainArgs] using hs
  pe_callC C hr hg ha hdb (starEach_plain h'.1) (backTo_plain h'.2)
theorem pe_callE (hc : CallR X (.builtin id) r) (hg : Gl X x) (hm : X.mg x = none) (hv : bootBuiltins x = some (.builtin id)) (ha : PA X (e :: es) t) (hs : plainArgs (e :: es) = true := by rfl) (hn : x ≠ "__name__" := by decide) (hdb : (x == ("__debug__" : Str)) = false := by decide) :
    PE X (.Call (.Name x p) (e :: es) [] pos) (tCB r t) :=
  have h' : notStar e = true ∧ plainArgs es = true := by simpa [plainArgs] using hs
  pe_callB hc hg hm hv ha hn hdb (starEach_plain h'.1) (backTo_plain h'.2)
theorem ps_set1 {i : Nat} {pos' : Pos} (hN : X.N.Nodup) (hi : X.N[i]? = some x) (hx : X.env.scope.names.lookup x = some .local) (he : PE X e te) (hs : isComp e = false := by rfl) : PS X (.Assign [.Name x pos'] e pos) (tAsg te (gName i)) :=
  ps_set hN hi (.inl hx) he (swaps_plain hs) (.inr hx)
theorem pg_name1 {i : Nat} (hN : X.N.Nodup) (hi : X.N[i]? = some x) (hx : X.env.scope.names.lookup x = some .local) : PG X (.Name x pos) (gName i) := pg_name hN hi (.inl hx) (.inr hx)
theorem ps_expr1 (he : PE X e te) (hs : isComp e = false := by rfl) : PS X (.Expr e pos) (tDrop te) := ps_expr he (swaps_plain hs)
theorem pv1 (i : Nat) (hN : X.N[i]? = some x := by rfl) (hv : X.env.scope.names.lookup x = some .local := by rfl) (hd : (x == ("__debug__" : Str)) = false := by decide) (hcd : (x == ("__classdict__" : Str)) = false := by decide) : PE X (.Name x pos) (tVar i) := pe_var hN (.inl hv) hd hcd
end
def tCut (t : TS) : TS := fun D σ H => ∃ M : St → Hp → Prop, t { D with nx := M } σ H ∧ ∀ σ' H', M σ' H' → D.nx σ' H'
theorem ps_cut {X : Cx} {st : Stmt} {t : TS} (h : PS X st t) : PS X st (tCut t) := by
  intro pins s σ H D I hq
  obtain ⟨M, h1, h2⟩ := hq
  refine thn (h pins s σ H _ I h1) fun f s' q => ?_
  cases f with
  | next => obtain ⟨σ', H', I', m⟩ := q; exact ⟨σ', H', I', h2 _ _ m⟩
  | brk => exact q
  | cont => exact q
  | ret u => exact q
theorem bt_len : bootBuiltins "len" = some (.builtin "len") := by decide +kernel
theorem bt_abs : bootBuiltins "abs" = some (.builtin "abs") := by decide +kernel
theorem bt_max : bootBuiltins "max" = some (.builtin "max") := by decide +kernel
theorem bt_min : bootBuiltins "min" = some (.builtin "min") := by decide +kernel
theorem bt_isinstance : bootBuiltins "isinstance" = some (.builtin "isinstance") := by decide +kernel
theorem bt_sum : bootBuiltins "sum" = some (.builtin "sum") := by decide +kernel
theorem bt_sorted : bootBuiltins "sorted" = some (.builtin "sorted") := by decide +kernel
theorem bt_all : bootBuiltins "all" = some (.builtin "all") := by decide +kernel
theorem bt_any : bootBuiltins "any" = some (.builtin "any") := by decide +kernel
theorem bt_int : bootBuiltins "int" = some (.type "int") := by decide +kernel
theorem bt_bool : bootBuiltins "bool" = some (.type "bool") := by decide +kernel
theorem bt_tuple : bootBuiltins "tuple" = some (.type "tuple") := by decide +kernel
theorem bt_list : bootBuiltins "list" = some (.type "list") := by decide +kernel
theorem bt_str : bootBuiltins "str" = some (.type "str") := by decide +kernel
theorem bt_range : bootBuiltins "range" = some (.type "range") := by decide +kernel
theorem bt_zip : bootBuiltins "zip" = some (.type "zip") := by decide +kernel
theorem bt_enumerate : bootBuiltins "enumerate" = some (.type "enumerate") := by decide +kernel
end L2

set_option Elab.async false
set_option linter.all false
set_option maxRecDepth 100000
set_option maxHeartbeats 1000000
namespace L2
open PySem PySem.Spec PyProof.Rows
/-! ### comprehensions: the block's own cells -/
def clOf (cells : List (Str × Addr)) : List (Str × NameKind) → List (Str × Addr) → List (Str × Addr)
  | [], acc => acc
  | (n, k) :: r, acc => if k == .free then clOf cells r ((n, (cells.lookup n).getD 0) :: acc) else clOf cells r acc
theorem closure_go {env : Env} : ∀ (names : List (Str × NameKind)) (acc : List (Str × Addr)), (∀ p ∈ names, p.2 = .free → ∃ c, env.cells.lookup p.1 = some c) →
    (forIn (m := Sem) names acc fun x r => (match x with | (name, kind) => if (kind == NameKind.free) = true then do let a ← cellOf env name; pure (ForInStep.yield ((name, a) :: r)) else pure (ForInStep.yield r))) = pure (clOf env.cells names acc) := by
  intro names
  induction names with
  | nil => intro acc _; rfl
  | cons p r ih =>
    intro acc h
    obtain ⟨n, k⟩ := p
    rw [List.forIn_cons]
    by_cases hk : (k == NameKind.free) = true
    · obtain ⟨c, hc⟩ := h (n, k) List.mem_cons_self (by simpa using hk)
      have e1 : cellOf env n = pure c := by unfold cellOf; rw [hc]
      simp only [hk, if_true, e1]
      have := ih ((n, c) :: acc) fun p hp => h p (List.mem_cons_of_mem _ hp)
      show _ = pure (clOf env.cells ((n, k) :: r) acc)
      rw [clOf, if_pos hk, hc]
      exact this
    · simp only [hk]
      have := ih acc fun p hp => h p (List.mem_cons_of_mem _ hp)
      show _ = pure (clOf env.cells ((n, k) :: r) acc)
      rw [clOf, if_neg hk]
      exact this
theorem closure_is {scope : Scope} {env : Env} (h : ∀ p ∈ scope.names, p.2 = .free → ∃ c, env.cells.lookup p.1 = some c) : closureFor scope env = pure (clOf env.cells scope.names []) := by
  unfold closureFor
  exact Eq.trans (congrArg (fun z => z >>= fun s => pure s) (closure_go (env := env) scope.names [] h)) rfl
theorem clOf_mem {cells : List (Str × Addr)} : ∀ (names : List (Str × NameKind)) (acc : List (Str × Addr)), (∀ p ∈ names, p.2 = .free → ∃ c, cells.lookup p.1 = some c) → (∀ q ∈ acc, cells.lookup q.1 = some q.2) → ∀ q ∈ clOf cells names acc, cells.lookup q.1 = some q.2
  | [], acc, _, h => h
  | (n, k) :: r, acc, h1, h2 => by
    rw [clOf]
    by_cases hk : (k == NameKind.free) = true
    · rw [if_pos hk]
      refine clOf_mem r _ (fun p hp => h1 p (List.mem_cons_of_mem _ hp)) fun q hq => ?_
      rcases List.mem_cons.mp hq with rfl | hq
      · obtain ⟨c, hc⟩ := h1 (n, k) List.mem_cons_self (by simpa using hk)
        rw [hc]
        rfl
      · exact h2 q hq
    · rw [if_neg hk]
      exact clOf_mem r _ (fun p hp => h1 p (List.mem_cons_of_mem _ hp)) h2
theorem clOf_has {cells : List (Str × Addr)} {x : Str} : ∀ (names : List (Str × NameKind)) (acc : List (Str × Addr)), ((x, NameKind.free) ∈ names ∨ ∃ c, (x, c) ∈ acc) → ∃ c, (x, c) ∈ clOf cells names acc
  | [], acc, h => h.elim (fun z => absurd z (by simp)) id
  | (n, k) :: r, acc, h => by
    rw [clOf]
    by_cases hk : (k == NameKind.free) = true
    · rw [if_pos hk]
      refine clOf_has r _ ?_
      rcases h with h | ⟨c, hc⟩
      · rcases List.mem_cons.mp h with e | h
        · cases e
          exact .inr ⟨_, List.mem_cons_self⟩
        · exact .inl h
      · exact .inr ⟨c, List.mem_cons_of_mem _ hc⟩
    · rw [if_neg hk]
      refine clOf_has r _ ?_
      rcases h with h | h
      · rcases List.mem_cons.mp h with e | h
        · cases e
          exact absurd rfl hk
        · exact .inl h
      · exact .inr h
theorem lookup_some_of_mem {x : Str} {c : Addr} : ∀ {l : List (Str × Addr)}, (x, c) ∈ l → ∃ c', l.lookup x = some c'
  | (n, d) :: r, h => by
    rw [List.lookup_cons]
    cases e : x == n with
    | true => exact ⟨d, rfl⟩
    | false =>
      rcases List.mem_cons.mp h with z | h
      · cases z
        simp at e
      · exact lookup_some_of_mem h
theorem clOf_from {cells : List (Str × Addr)} {q : Str × Addr} : ∀ (names : List (Str × NameKind)) (acc : List (Str × Addr)), q ∈ clOf cells names acc → (q.1, NameKind.free) ∈ names ∨ q ∈ acc
  | [], acc, h => .inr h
  | (n, k) :: r, acc, h => by
    rw [clOf] at h
    by_cases hk : (k == NameKind.free) = true
    · rw [if_pos hk] at h
      have hk' : k = .free := by simpa using hk
      rcases clOf_from r _ h with h | h
      · exact .inl (List.mem_cons_of_mem _ h)
      · rcases List.mem_cons.mp h with rfl | h
        · exact .inl (by rw [hk']; exact List.mem_cons_self)
        · exact .inr h
    · rw [if_neg hk] at h
      exact (clOf_from r _ h).imp (List.mem_cons_of_mem _) id
theorem cellsFrom_spec {x : Str} {c : Addr} : ∀ (names : List (Str × NameKind)) (h : Heap) (acc : List (Str × Addr)), (x, c) ∈ cellsFrom h.objs.size names acc → (x, c) ∈ acc ∨ (h.objs.size ≤ c ∧ (pushCells h names).IsCell c none ∧ (x, NameKind.cell) ∈ names)
  | [], _, _, h => .inl h
  | (n, k) :: r, hp, acc, h => by
    unfold cellsFrom at h
    unfold pushCells
    by_cases hk : (k == NameKind.cell) = true
    · rw [if_pos hk] at h ⊢
      have hk' : k = .cell := by simpa using hk
      have h' : (x, c) ∈ cellsFrom (hp.push { cls := .type "cell", data := .cell none }).objs.size r ((n, hp.objs.size) :: acc) := by rw [Heap.size_push]; exact h
      rcases cellsFrom_spec r _ _ h' with h | ⟨h1, h2, h3⟩
      · rcases List.mem_cons.mp h with e | h
        · cases e
          exact .inr ⟨Nat.le_refl _, ⟨_, pushCells_keeps r _ _ _ (Heap.get?_push_size _ rfl), rfl⟩, by rw [hk']; exact List.mem_cons_self⟩
        · exact .inl h
      · rw [Heap.size_push] at h1
        exact .inr ⟨by omega, h2, List.mem_cons_of_mem _ h3⟩
    · rw [if_neg hk] at h ⊢
      exact (cellsFrom_spec r hp acc h).imp id fun ⟨h1, h2, h3⟩ => ⟨h1, h2, List.mem_cons_of_mem _ h3⟩
theorem cellsFrom_has {x : Str} : ∀ (names : List (Str × NameKind)) (n : Nat) (acc : List (Str × Addr)), ((x, NameKind.cell) ∈ names ∨ ∃ c, (x, c) ∈ acc) → ∃ c, (x, c) ∈ cellsFrom n names acc
  | [], _, acc, h => h.elim (fun z => absurd z (by simp)) id
  | (y, k) :: r, n, acc, h => by
    unfold cellsFrom
    by_cases hk : (k == NameKind.cell) = true
    · rw [if_pos hk]
      refine cellsFrom_has r _ _ ?_
      rcases h with h | ⟨c, hc⟩
      · rcases List.mem_cons.mp h with e | h
        · cases e
          exact .inr ⟨_, List.mem_cons_self⟩
        · exact .inl h
      · exact .inr ⟨c, List.mem_cons_of_mem _ hc⟩
    · rw [if_neg hk]
      refine cellsFrom_has r _ _ ?_
      rcases h with h | h
      · rcases List.mem_cons.mp h with e | h
        · cases e
          exact absurd rfl hk
        · exact .inl h
      · exact .inr h
theorem cellsFrom_inj {lo : Nat} : ∀ (names : List (Str × NameKind)) (n : Nat) (acc : List (Str × Addr)), (∀ x c, (x, c) ∈ acc → c < n) → (∀ x y c, lo ≤ c → (x, c) ∈ acc → (y, c) ∈ acc → x = y) → ∀ x y c, lo ≤ c → (x, c) ∈ cellsFrom n names acc → (y, c) ∈ cellsFrom n names acc → x = y
  | [], _, _, _, h => h
  | (z, k) :: r, n, acc, h1, h2 => by
    unfold cellsFrom
    by_cases hk : (k == NameKind.cell) = true
    · rw [if_pos hk]
      refine cellsFrom_inj r _ _ (fun x c hm => ?_) fun x y c hc hx hy => ?_
      · rcases List.mem_cons.mp hm with e | hm
        · cases e; exact Nat.lt_succ_self _
        · exact Nat.lt_succ_of_lt (h1 x c hm)
      · rcases List.mem_cons.mp hx with e | hx <;> rcases List.mem_cons.mp hy with e' | hy
        · cases e; cases e'; rfl
        · cases e; exact absurd (h1 _ _ hy) (Nat.lt_irrefl _)
        · cases e'; exact absurd (h1 _ _ hx) (Nat.lt_irrefl _)
        · exact h2 x y c hc hx hy
    · rw [if_neg hk]
      exact cellsFrom_inj r n acc h1 h2
/-- the block's context; its cells: those that it captures, then its own -/
def blkCells (scope : Scope) (env : Env) (n : Nat) : List (Str × Addr) := cellsFrom (n + 1) scope.names (clOf env.cells scope.names [])
def cxC (X : Cx) (N' : List Str) (scope : Scope) (s : Shared) (H : Hp) (ex : List Addr) : Cx :=
  { X with N := N', s₀ := s, H₀ := H, env := compEnvC scope (blkCells scope X.env s.heap.objs.size) s.heap.objs.size X.env, outer := X.stack, ex := ex, fn := fun x => decide ((x, NameKind.cell) ∈ scope.names), pn := [] }
/-- where the block's names have their values ahead of it: a place of the frame's, or none -/
def pick (σ : St) (ix : List (Option Nat)) : St := ix.map fun o => match o with | some i => (match σ[i]? with | some v => v | none => none) | none => none
/-- what is asked of the block's names (all of it may be looked at: decide) -/
structure Scp (psc : Scope) (PN N' : List Str) (ix : List (Option Nat)) (scope : Scope) : Prop where
  kind : scope.kind = .function
  names : ∀ x ∈ scope.names, x.2 = .local → scope.names.lookup x.1 = some .local
  uni : ∀ x ∈ scope.names, x.2 = .free → scope.names.lookup x.1 = some .free
  apart : ∀ x ∈ scope.names, x.2 = .cell → (x.1, NameKind.free) ∉ scope.names
  free : ∀ x ∈ scope.names, x.2 = .free → psc.names.lookup x.1 = some .cell ∨ psc.names.lookup x.1 = some .free
  len : ix.length = N'.length
  at_ : ∀ (j i : Nat) (x : Str), N'[j]? = some x → ix[j]? = some (some i) → PN[i]? = some x ∧ (x, NameKind.free) ∈ scope.names
section
variable {X : Cx} {pins : List (Addr × Obj)} {σ : St} {H : Hp} {s : Shared} {N' : List Str} {ix : List (Option Nat)} {scope : Scope} {fp : List Addr}
theorem relabel_names_free {env : Env} : ∀ {names : List (Str × NameKind)} {x : Str}, names.lookup x = some .free →
    (names.map fun (n, k) => if (k == NameKind.free && env.scope.kind == .function && env.kindOf n == some .cell) then (n, NameKind.cell) else (n, k)).lookup x = some .cell ∨
    (names.map fun (n, k) => if (k == NameKind.free && env.scope.kind == .function && env.kindOf n == some .cell) then (n, NameKind.cell) else (n, k)).lookup x = some .free
  | [], _, h => by simp at h
  | (n, k) :: r, x, h => by
    have ih := @relabel_names_free env r x
    simp only [List.map_cons]
    cases hx : x == n with
    | true =>
      simp only [List.lookup_cons, hx] at h
      cases h
      by_cases hc : (NameKind.free == NameKind.free && env.scope.kind == .function && env.kindOf n == some .cell) = true
      · rw [if_pos hc]; simp [List.lookup_cons, hx]
      · rw [if_neg hc]; simp [List.lookup_cons, hx]
    | false =>
      simp only [List.lookup_cons, hx] at h
      by_cases hc : (k == NameKind.free && env.scope.kind == .function && env.kindOf n == some .cell) = true
      · rw [if_pos hc]; simp only [List.lookup_cons, hx]; exact ih h
      · rw [if_neg hc]; simp only [List.lookup_cons, hx]; exact ih h
theorem relabel_is_free {scope : Scope} {env : Env} {x : Str} (h : scope.names.lookup x = some .free) : (relabel scope env).names.lookup x = some .cell ∨ (relabel scope env).names.lookup x = some .free := relabel_names_free h
theorem relabel_kind {scope : Scope} {env : Env} {x : Str} (h : (relabel scope env).names.lookup x = some .cell ∨ (relabel scope env).names.lookup x = some .free) : (x, NameKind.cell) ∈ scope.names ∨ (x, NameKind.free) ∈ scope.names := by
  have : ∃ k, (x, k) ∈ (relabel scope env).names ∧ (k = .cell ∨ k = .free) := by
    rcases h with h | h
    · exact ⟨_, PySem.mem_of_lookup h, .inl rfl⟩
    · exact ⟨_, PySem.mem_of_lookup h, .inr rfl⟩
  obtain ⟨k, hm, hk⟩ := this
  obtain ⟨⟨n, k'⟩, hm', e⟩ := List.mem_map.mp hm
  dsimp only at e
  split at e
  · rename_i hc
    cases e
    have : k' = .free := by simp at hc; exact hc.1.1
    rw [this] at hm'
    exact .inr hm'
  · cases e
    rcases hk with rfl | rfl
    · exact .inl hm'
    · exact .inr hm'
/-- the block begins: its frame stands at the heap's end -/
theorem inv_comp (I : Inv X pins σ H s) (S : Scp X.env.scope X.N N' ix scope) (hf : ∀ b ∈ fp, FpOk X pins H b) (hfl : ∀ b ∈ fp, b < s.heap.objs.size) (t' : Nat) :
    Inv (cxC X N' scope s H fp) [] (pick σ ix) H { s with heap := pushCells (s.heap.push { cls := .type "dict", data := .dict #[] }) scope.names, toks := t' } := by
  have hn : (pushCells (s.heap.push { cls := .type "dict", data := .dict #[] }) scope.names).Ns s.heap.objs.size fun _ => none := (Heap.Ns.new s.heap (.type "dict")).keeps (pushCells_keeps _ _)
  have hk : ∀ b o, s.heap.get? b = some o → (pushCells (s.heap.push { cls := .type "dict", data := .dict #[] }) scope.names).get? b = some o := fun b o e => pushCells_keeps _ _ b o (Heap.get?_push_of_some _ e)
  have hfr : ∀ p ∈ scope.names, p.2 = NameKind.free → ∃ c, X.env.cells.lookup p.1 = some c := fun p hp e => I.ok.has p.1 (S.free p hp e)
  have clm : ∀ q ∈ clOf X.env.cells scope.names [], X.env.cells.lookup q.1 = some q.2 := clOf_mem scope.names [] hfr (by simp)
  have spec : ∀ x c, (blkCells scope X.env s.heap.objs.size).lookup x = some c → (X.env.cells.lookup x = some c ∧ (x, NameKind.free) ∈ scope.names) ∨
      (s.heap.objs.size < c ∧ (pushCells (s.heap.push { cls := .type "dict", data := .dict #[] }) scope.names).IsCell c none ∧ (x, NameKind.cell) ∈ scope.names) := fun x c e => by
    have hm : (x, c) ∈ cellsFrom (s.heap.push { cls := .type "dict", data := .dict #[] }).objs.size scope.names (clOf X.env.cells scope.names []) := by rw [Heap.size_push]; exact PySem.mem_of_lookup e
    rcases cellsFrom_spec scope.names _ _ hm with h | ⟨h1, h2, h3⟩
    · exact .inl ⟨clm _ h, (clOf_from scope.names [] h).elim id (fun z => absurd z (by simp))⟩
    · rw [Heap.size_push] at h1
      exact .inr ⟨h1, h2, h3⟩
  have hasC : ∀ x, ((relabel scope X.env).names.lookup x = some .cell ∨ (relabel scope X.env).names.lookup x = some .free) → ∃ c, (blkCells scope X.env s.heap.objs.size).lookup x = some c := fun x hx => by
    have : ∃ c, (x, c) ∈ blkCells scope X.env s.heap.objs.size := cellsFrom_has scope.names _ _ ((relabel_kind hx).imp id fun z => clOf_has scope.names [] (.inl z))
    obtain ⟨c, hc⟩ := this
    exact lookup_some_of_mem hc
  have cold : ∀ x c, X.env.cells.lookup x = some c → c < s.heap.objs.size := fun x c e => let ⟨v, q⟩ := I.cell x c e; q.lt
  refine ⟨⟨I.ok.mod, S.kind, I.ok.glob, I.ok.blt, Nat.le_refl _, fun x y c e1 e2 => ?_, hasC, fun x c z e => ?_, I.ok.hd, I.ok.frames, .inl rfl,
    fun b hb => ⟨Nat.ne_of_lt (hfl b hb), fun x c e => ?_⟩, I.bs, Nat.le_trans I.ok.bsz I.sz, fun b o e hb => ?_, fun b hb z => ?_, I.stack, I.stkFree⟩,
    rfl, I.bare, Un.kept hk, ⟨_, hn, fun j x v e1 e2 e3 => ?_⟩, fun x c e => ?_, I.hok.fresh (Nat.le_refl _), fun x c e => ?_, fun p hp => absurd (show p ∈ ([] : List (Addr × Obj)) from hp) (by simp), I.hok.kept hk, ?_⟩
  · by_cases hc : c < s.heap.objs.size + 1
    · rcases spec x c e1 with ⟨q1, _⟩ | ⟨q1, _⟩
      · rcases spec y c e2 with ⟨q2, _⟩ | ⟨q2, _⟩
        · exact I.ok.inj x y c q1 q2
        · exact absurd q2 (Nat.not_lt.mpr (Nat.le_of_lt_succ hc))
      · exact absurd q1 (Nat.not_lt.mpr (Nat.le_of_lt_succ hc))
    · exact cellsFrom_inj (lo := s.heap.objs.size + 1) scope.names _ _ (fun x c hm => Nat.lt_succ_of_lt (cold x c (clm _ hm))) (fun x y c hc hx _ => absurd (cold x c (clm _ hx)) (Nat.not_lt.mpr (Nat.le_trans (Nat.le_succ _) hc))) x y c (Nat.not_lt.mp hc) (PySem.mem_of_lookup e1) (PySem.mem_of_lookup e2)
  · have z' : (x, NameKind.cell) ∈ scope.names := of_decide_eq_true z
    rcases spec x c e with ⟨_, q⟩ | ⟨q, _⟩
    · exact absurd q (S.apart _ z' rfl)
    · exact Nat.le_of_lt q
  · rcases spec x c e with ⟨q, _⟩ | ⟨q, _⟩
    · exact (hf b hb).2.2.2.2.1 x c q
    · exact fun z => absurd (hfl b hb) (Nat.not_lt.mpr (z ▸ Nat.le_of_lt q))
  · exact (hf b hb).2.2.2.1.elim (fun z => I.ok.noex b o e z) fun z => absurd (Nat.lt_of_lt_of_le (Heap.lt_size e) I.ok.bsz) (Nat.not_lt.mpr z)
  · have hb2 := hf b hb
    rcases List.mem_cons.mp (I.stkSub b z) with q | q
    · exact hb2.2.1 q
    · exact hb2.2.2.1 q
  · have e4 : ∃ i, ix[j]? = some (some i) ∧ σ[i]? = some (some v) := by
      have e2' : (pick σ ix)[j]? = some (some v) := e2
      unfold pick at e2'
      rw [List.getElem?_map] at e2'
      cases q : ix[j]? with
      | none => rw [q] at e2'; cases e2'
      | some o =>
        rw [q] at e2'
        cases o with
        | none => cases e2'
        | some i =>
          refine ⟨i, rfl, ?_⟩
          cases z : σ[i]? with
          | none => simp [z] at e2'
          | some y => simp [z] at e2'; rw [e2']
    obtain ⟨i, e4, e5⟩ := e4
    obtain ⟨a1, a2⟩ := S.at_ j i x e1 e4
    have a3 := S.free _ a2 rfl
    obtain ⟨m0, hn0, hl0⟩ := I.loc
    obtain ⟨u, r, l⟩ := hl0 i x v a1 e5 (.inr a3)
    refine ⟨u, r, ?_⟩
    rcases l with ⟨k1, _⟩ | ⟨k1, c, hcl, hce⟩
    · have k1' : X.env.scope.names.lookup x = some .local := k1
      rcases a3 with z | z <;> (rw [k1'] at z; cases z)
    · -- the name is captured here
      have e3' : (relabel scope X.env).names.lookup x = some .local ∨ (relabel scope X.env).names.lookup x = some .cell ∨ (relabel scope X.env).names.lookup x = some .free := e3
      have k3 := relabel_is_free (env := X.env) (S.uni _ a2 rfl)
      obtain ⟨c', hc'⟩ := hasC x k3
      rcases spec x c' hc' with ⟨q, _⟩ | ⟨_, _, q⟩
      · rw [hcl] at q
        cases q
        exact .inr ⟨k3, c, hc', hce.keeps hk⟩
      · exact absurd a2 (S.apart _ q rfl)
  · rcases spec x c e with ⟨q, _⟩ | ⟨q, q2, _⟩
    · obtain ⟨v, q'⟩ := I.cell x c q
      exact ⟨v, q'.keeps hk⟩
    · exact ⟨none, q2⟩
  · rcases spec x c e with ⟨q, _⟩ | ⟨q, _⟩
    · exact I.freeC x c q
    · exact I.hok.fresh (Nat.le_of_lt q)
  · show (pick σ ix).length = N'.length
    unfold pick
    rw [List.length_map]
    exact S.len
end
section
variable {prog : Program} {w : World} {A : Around} {R : Result → Shared → Prop} {s : Shared}
/-- the tests of a clause -/
def testsOf (ifs : List Expr) (env : Env) : Sem Bool := forIn ifs true fun c r => if r = true then do let ok ← isTrue c env (eval c env); pure (ForInStep.yield ok) else pure (ForInStep.yield r)
theorem compLoop_any {elt target iter : Expr} {ifs : List Expr} {scope : Scope} {pos : Pos} {it acc : Value} {env : Env} (I : Nat → Shared → Prop)
    (turn : ∀ n s, I n s → wpAny (model prog w) A (pyNext it) (fun r s₁ => match r with
      | none => R (.ok .next) s₁
      | some v => wpAny (model prog w) A (letOwnedTupleGo target it v) (fun _ s₁' => wpAny (model prog w) A (assign target env v) (fun _ s₂ => wpAny (model prog w) A (testsOf ifs env) (fun ok s₃ =>
          if ok = true then wpAny (model prog w) A (eval elt env) (fun x s₄ => wpAny (model prog w) A (call (.builtin "list.append") [acc, x]) (fun _ s₅ => ∃ m, m < n ∧ I m s₅) (fun _ _ => False) s₄) (fun _ _ => False) s₃
          else ∃ m, m < n ∧ I m s₃) (fun _ _ => False) s₂) (fun _ _ => False) s₁') (fun _ _ => False) s₁) (fun _ _ => False) s)
    (n : Nat) (h : I n s) : codeAny (model prog w) A (.compLoop (.ListComp elt [⟨target, iter, ifs, 0⟩] scope pos) 0 it acc env) R s := by
  refine codeAny_loop rfl I (fun n s hI => ?_) n h
  show wpAny _ _ ((compTurn (.ListComp elt [⟨target, iter, ifs, 0⟩] scope pos) 0 it acc env).onRaise (fun x => do noteFrame x env; theTreesLotGoes x)) _ _ s
  refine wpAny_noted ?_
  rw [compTurn_list]
  refine wpAny_bind (wpAny_standAt (wpAny_bind (wpAny_mono (turn n s hI) (fun r s₁ h₁ => ?_) fun _ _ h' => h'.elim)))
  cases r with
  | none => exact wpAny_pure h₁
  | some v =>
    refine wpAny_bind (wpAny_mono h₁ (fun _ s₁' h₁' => ?_) fun _ _ h' => h'.elim)
    refine wpAny_bind (wpAny_mono h₁' (fun _ s₂ h₂ => wpAny_bind (wpAny_mono h₂ (fun ok s₃ h₃ => ?_) fun _ _ h' => h'.elim)) fun _ _ h' => h'.elim)
    cases ok with
    | false => exact wpAny_pure ⟨rfl, h₃⟩
    | true =>
      exact wpAny_bind (wpAny_bind (wpAny_mono h₃ (fun x s₄ h₄ => wpAny_bind (wpAny_mono h₄ (fun _ s₅ h₅ => wpAny_pure (wpAny_pure ⟨rfl, h₅⟩)) fun _ _ h' => h'.elim)) fun _ _ h' => h'.elim))
end
theorem newEnv_comp {M : Model} {A : Around} {E : Value → Shared → Prop} {s : Shared} {scope : Scope} {globals : Addr} {cl : List (Str × Addr)} {qual : Str} {env : Env} {Q : Env → Shared → Prop}
    (hQ : Q { scope := scope, locals := s.heap.objs.size, globals := globals, cells := cellsFrom (s.heap.objs.size + 1) scope.names cl, qual := qual, func := none, code := env.code, frame := env.frame, builtins := env.builtins } { s with heap := pushCells (s.heap.push { cls := .type "dict", data := .dict #[] }) scope.names }) :
    wpAny M A (newFunctionEnv scope globals cl [] qual none .none (some env)) Q E s := by
  simp only [newFunctionEnv, Option.isSome_some, if_true]
  refine wpAny_bind (wpAny_alloc ?_)
  refine wpAny_bind (wpAny_layCells _ (fun name kind cells => by cases hkc : kind == NameKind.cell <;> simp [hkc]) _ _ _ _ ?_)
  rw [show ({ s with heap := s.heap.push { cls := .type "dict", data := .dict #[] } } : Shared).heap.objs.size = s.heap.objs.size + 1 from Heap.size_push ..]
  exact wpAny_bind (wpAny_pure (wpAny_pure hQ))
/-- the tests of a clause, read -/
def PF (X : Cx) (ifs : List Expr) (t : TT) : Prop :=
  ∀ (pins : List (Addr × Obj)) (s : Shared) (σ : St) (H : Hp) (Q : Bool → Hp → Prop), Inv X pins σ H s → t σ H Q → wpAny (model X.prog X.w) X.A (testsOf ifs X.env) (TP X pins σ Q) X.xe s
def tYes : TT := fun _ H Q => Q true H
theorem pf_nil {X : Cx} : PF X [] tYes := fun _ _ _ H _ I h => wpAny_tests_nil ⟨H, I, h⟩
theorem pf_one {X : Cx} {c : Expr} {t : TT} (h : PT X c t) : PF X [c] t := fun pins s σ H Q I q => wpAny_tests_one (h pins s σ H Q I q)
/-- [elt for tg in iter if ..]: W the invariant over the block's names and the heap, by the turn and a measure; D the new list -/
def CompGo (J : It) (g : TG) (tt : TT) (te : TE) (σ : St) (H : Hp) (Q : VK) : Prop := ∀ D, H D = none → ∃ W : Nat → Nat → St → Hp → Prop, (∃ m, W 0 m σ (upd H D (.lst []))) ∧ ∀ i m σ H, W i m σ H →
  (J.stop i H ∧ Q (.ref D) H) ∨ (J.go i H ∧ ∃ N : St → Hp → Prop, (∀ σ' H', N σ' H' → ∃ m', m' < m ∧ W (i + 1) m' σ' H') ∧ ∀ x H', J.yld i H x H' → g x σ H' fun σ2 H2 => tt σ2 H2 fun b H3 =>
    if b = true then te σ2 H3 fun v H4 => ∃ xs, H4 D = some (.lst xs) ∧ xs.length < sizeLine ∧ N σ2 (upd H4 D (.lst (xs ++ [v]))) else N σ2 H3)
def tComp (ix : List (Option Nat)) (wi : TI) (g : TG) (tt : TT) (te : TE) : TE := fun σ H Q => wi σ H fun J H1 => CompGo J g tt te (pick σ ix) H1 Q
section
variable {X : Cx} {N' : List Str} {ix : List (Option Nat)} {scope : Scope} {tg iter elt : Expr} {ifs : List Expr} {wi : TI} {g : TG} {tt : TT} {te : TE} {pos : Pos}
theorem comp_core (hc : X.calm = true) (hxe : X.xe = fun _ _ => False) (S : Scp X.env.scope X.N N' ix scope) (hi : PI X tg iter wi) (hg : ∀ s H ex, PG (cxC X N' scope s H ex) tg g) (ht : ∀ s H ex, PF (cxC X N' scope s H ex) ifs tt) (he : ∀ s H ex, PE (cxC X N' scope s H ex) elt te)
    {pins : List (Addr × Obj)} {s : Shared} {σ : St} {H : Hp} {Q : VK} (I : Inv X pins σ H s) (h : tComp ix wi g tt te σ H Q) {Post : Value → Addr → Result → Shared → Prop}
    (fin' : ∀ (D C : Addr) (H' : Hp) (s' : Shared), Inv X pins σ H' s' → FpOk X pins H' C → (∃ m, s'.heap.Ns C m) → Q (.ref D) H' → Post (.ref D) C (.ok .next) s') :
    wpAny (model X.prog X.w) X.A (eval iter X.env) (fun x s₁ => wpAny (model X.prog X.w) X.A (pyIter x) (fun it s₂ => wpAny (model X.prog X.w) X.A (newList []) (fun acc s₃ =>
      wpAny (model X.prog X.w) X.A (newFunctionEnv scope X.env.globals (clOf X.env.cells scope.names []) [] X.env.qual none .none (some X.env)) (fun cenv s₄ =>
        codeAny (model X.prog X.w) X.A (.compStart (.ListComp elt [⟨tg, iter, ifs, 0⟩] scope pos) 0 it acc { cenv with scope := relabel scope X.env }) (Post acc cenv.locals) s₄) X.xe s₃) X.xe s₂) X.xe s₁) X.xe s := by
  refine thn (hi pins s σ H _ I h) fun v s1 h1 => thn h1 fun itv s2 h2 => ?_
  obtain ⟨it, fp, tn, J, H2, e, I2, T, st2, f2, go⟩ := h2
  subst e
  refine wpAny_newObj_type ?_
  have hD : H2 s2.heap.objs.size = none := I2.hok.fresh (Nat.le_refl _)
  have I3 : Inv X pins σ (upd H2 s2.heap.objs.size (.lst [])) { s2 with heap := s2.heap.push { cls := .type "list", dict := none, data := .seq ([] : List Value).toArray } } :=
    I2.laid (t' := s2.toks) (fun b u e => Heap.get?_push_of_some _ e) (Nat.le_refl _) ⟨Nat.zero_le _, [], 0, .nil, Heap.get?_push_size _ rfl⟩
  obtain ⟨W, ⟨m0, w0⟩, turn⟩ := go s2.heap.objs.size hD
  have fpl : ∀ b ∈ fp, b < s2.heap.objs.size := fun b hb => let ⟨o, e, _⟩ := T.obj _ _ st2 b hb; Heap.lt_size e
  have tF : ∀ {α : Type} {t : Sem α} {Q' : α → Shared → Prop} {s' : Shared}, wpAny (model X.prog X.w) X.A t Q' X.xe s' → wpAny (model X.prog X.w) X.A t Q' (fun _ _ => False) s' := fun hw => hxe ▸ hw
  generalize hH3 : upd H2 s2.heap.objs.size (.lst []) = H3 at I3 w0
  generalize hs3 : ({ s2 with heap := s2.heap.push { cls := .type "list", dict := none, data := .seq ([] : List Value).toArray } } : Shared) = s3 at I3 ⊢
  have h23 : ∀ b o, s2.heap.get? b = some o → s3.heap.get? b = some o := fun b o e => by rw [← hs3]; exact Heap.get?_push_of_some _ e
  have sz3 : s2.heap.objs.size ≤ s3.heap.objs.size := by rw [← hs3]; show _ ≤ (s2.heap.push _).objs.size; rw [Heap.size_push]; exact Nat.le_succ _
  have fpl3 : ∀ b ∈ fp, b < s3.heap.objs.size := fun b hb => Nat.lt_of_lt_of_le (fpl b hb) sz3
  have f3 : ∀ b ∈ fp, FpOk X pins H3 b := fun b hb => ⟨by rw [← hH3, upd_ne (Nat.ne_of_lt (fpl b hb))]; exact (f2 b hb).1, (f2 b hb).2⟩
  refine newEnv_comp ?_
  generalize hh1 : pushCells (s3.heap.push { cls := .type "dict", data := .dict #[] }) scope.names = h1
  have hk : ∀ b o, s3.heap.get? b = some o → h1.get? b = some o := fun b o e => by rw [← hh1]; exact pushCells_keeps _ _ b o (Heap.get?_push_of_some _ e)
  have I4 : Inv (cxC X N' scope s3 H3 fp) [] (pick σ ix) H3 { s3 with heap := h1 } := by rw [← hh1]; exact inv_comp I3 S f3 fpl3 s3.toks
  have st4 : tn 0 h1 := T.keep _ _ _ st2 fun b hb o e => hk b o (h23 b o e)
  have fin : ∀ {σ' : St} {H' : Hp} {s' : Shared}, Inv (cxC X N' scope s3 H3 fp) [] σ' H' s' → Q (.ref s2.heap.objs.size) H' → Post (.ref s2.heap.objs.size) s3.heap.objs.size (.ok .next) s' := fun {σ' H' s'} J q => by
    obtain ⟨m, hn, _⟩ := J.loc
    have K1 : Inv X pins σ H' s' := I3.call' J.os J.base J.hok J.bare fun b hb => ⟨(f3 b hb).2.2.2.1, (f3 b hb).2.1, (f3 b hb).2.2.2.2.1, (f3 b hb).2.2.2.2.2⟩
    exact fin' _ _ H' s' K1 (I3.fpOk (b := s3.heap.objs.size) (Nat.le_refl _) (show H' s3.heap.objs.size = none from J.free)) ⟨m, hn⟩ q
  have loop : codeAny (model X.prog X.w) X.A (.compLoop (.ListComp elt [⟨tg, iter, ifs, 0⟩] scope pos) 0 (.ref it) (.ref s2.heap.objs.size) (compEnvC scope (blkCells scope X.env s3.heap.objs.size) s3.heap.objs.size X.env)) (Post (.ref s2.heap.objs.size) s3.heap.objs.size) { s3 with heap := h1 } := by
    refine compLoop_any (fun n s' => ∃ i σ' H', Inv (cxC X N' scope s3 H3 fp) [] σ' H' s' ∧ tn i s'.heap ∧ (∀ b ∈ fp, H' b = none) ∧ W i n σ' H') ?_ m0 ⟨0, _, H3, I4, st4, fun b hb => (f3 b hb).1, w0⟩
    rintro n s5 ⟨i, σ5, H5, I5, st5, fr5, w5⟩
    have stat : ∀ {H' : Hp}, (∀ b ∈ fp, H' b = none) → ∀ b ∈ fp, FpOk (cxC X N' scope s3 H3 fp) [] H' b := fun hn b hb => ⟨hn b hb, (I5.ok.exf b hb).1, I5.ok.exfs b hb, .inl hb, (I5.ok.exf b hb).2, fun p hp => absurd (show p ∈ ([] : List (Addr × Obj)) from hp) (by simp)⟩
    rcases turn i n σ5 H5 w5 with ⟨stop, qn⟩ | ⟨go, N, hN, step⟩
    · refine thn (tF (T.done (cxC X N' scope s3 H3 fp) rfl rfl rfl hc i [] s5 σ5 H5 X.xe I5 (stat fr5) st5 stop)) fun r s6 ⟨hr, I6⟩ => ?_
      subst hr
      exact fin I6 qn
    · refine thn (tF (T.item (cxC X N' scope s3 H3 fp) rfl rfl rfl hc i [] s5 σ5 H5 X.xe I5 (stat fr5) st5 go)) fun r s6 ⟨u, hr, h6⟩ => ?_
      subst hr
      refine thn (tF h6) fun _ s7 ⟨x, H7, I7, r7, y7, st7, fr7⟩ => ?_
      have I7' := I7.pinned (stat fr7) (T.obj _ _ st7)
      have again : ∀ {σ' : St} {H' : Hp} {s' : Shared}, Inv (cxC X N' scope s3 H3 fp) ([] ++ pinsAt fp s7.heap) σ' H' s' → N σ' H' → ∃ m, m < n ∧ ∃ i σ' H', Inv (cxC X N' scope s3 H3 fp) [] σ' H' s' ∧ tn i s'.heap ∧ (∀ b ∈ fp, H' b = none) ∧ W i m σ' H' := fun {σ' H' s'} J n10 => by
        obtain ⟨m', hm, w10⟩ := hN σ' H' n10
        refine ⟨m', hm, i + 1, σ', H', J.unpinned, T.keep _ _ _ st7 fun b hb o e => (J.pin (b, o) (List.mem_append_right _ (List.mem_append_right _ (mem_pinsAt hb e)))).1, fun b hb => ?_, w10⟩
        obtain ⟨o, e, d⟩ := T.obj _ _ st7 b hb
        exact (J.pin (b, o) (List.mem_append_right _ (List.mem_append_right _ (mem_pinsAt hb e)))).2.1
      refine thn (tF (hg s3 H3 fp _ s7 σ5 H7 x u _ I7' r7 (step x H7 y7))) fun _ s8 ⟨σ8, H8, I8, q8⟩ => ?_
      refine thn (tF (ht s3 H3 fp _ s8 σ8 H8 _ I8 q8)) fun ok s8' ⟨H8', I8', q8'⟩ => ?_
      cases ok with
      | false => exact again I8' (by simpa using q8')
      | true =>
        rw [if_pos rfl] at q8' ⊢
        refine thn (tF (he s3 H3 fp _ s8' σ8 H8' _ I8' q8')) fun v s9 ⟨y, H9, I9, r9, xs, hl9, hz9, n9⟩ => ?_
        exact thn (tF (mt_append (X := cxC X N' scope s3 H3 fp) _ s9 σ8 H9 (.ref s2.heap.objs.size) [y] (.ref s2.heap.objs.size) [v] (fun _ H' => N σ8 H') I9 rfl (.cons r9 .nil) ⟨s2.heap.objs.size, xs, y, rfl, rfl, hl9, hz9, n9⟩)) fun _ s10 ⟨_, H10, I10, _, n10⟩ => again I10 n10
  exact codeAny_compStart_list loop (T.self _ 0 _ _ _ st4 loop)
/-- a comprehension as a value -/
theorem pe_comp (hc : X.calm = true) (hxe : X.xe = fun _ _ => False) (S : Scp X.env.scope X.N N' ix scope) (hi : PI X tg iter wi) (hg : ∀ s H ex, PG (cxC X N' scope s H ex) tg g) (ht : ∀ s H ex, PF (cxC X N' scope s H ex) ifs tt) (he : ∀ s H ex, PE (cxC X N' scope s H ex) elt te)
    (hs : ∀ x, foldedSetIterable iter X.env x = pure x := by intro _; rfl) : PE X (.ListComp elt [⟨tg, iter, ifs, 0⟩] scope pos) (tComp ix wi g tt te) := by
  intro pins s σ H Q I h
  rw [eval_ListComp]
  refine wpAny_comprehension_free (use := none) rfl hs (closure_is fun p hp e => I.ok.has p.1 (S.free p hp e)) S.kind S.names (comp_core hc hxe S hi hg ht he I h fun D C H' s' K1 F ⟨m, hn⟩ q => ?_)
  refine ⟨m, hn, fun h' sb => ?_⟩
  obtain ⟨g0, g1, g2, g3, g4, g5⟩ := F
  exact ⟨.ref D, H', K1.turned (t' := s'.toks) (fun b o hb e => sb.extBut b o hb e) g0 g1 g3 g4 g5, rfl, q⟩
/-- name = a comprehension (the model stores the name ahead of letting the block's go) -/
theorem ps_comp {i : Nat} {y : Str} {py spos : Pos} (hc : X.calm = true) (hxe : X.xe = fun _ _ => False) (hN : X.N.Nodup) (hy : X.N[i]? = some y) (hl : X.env.scope.names.lookup y = some .local)
    (hsw : swapsWith (.ListComp elt [⟨tg, iter, ifs, 0⟩] scope pos) (some (.Name y py)) spos.line X.env = pure true)
    (S : Scp X.env.scope X.N N' ix scope) (hi : PI X tg iter wi) (hg : ∀ s H ex, PG (cxC X N' scope s H ex) tg g) (ht : ∀ s H ex, PF (cxC X N' scope s H ex) ifs tt) (he : ∀ s H ex, PE (cxC X N' scope s H ex) elt te)
    (hs : ∀ x, foldedSetIterable iter X.env x = pure x := by intro _; rfl) : PS X (.Assign [.Name y py] (.ListComp elt [⟨tg, iter, ifs, 0⟩] scope pos) spos) (tAsg (tComp ix wi g tt te) (gName i)) := by
  intro pins s σ H D I h
  rw [exec_Assign_Name_used _ _ _ _ hsw]
  refine wpAny_bind (wpAny_standAt (wpAny_bind ?_))
  show wpAny _ X.A (do let _ ← comprehension (.ListComp elt [⟨tg, iter, ifs, 0⟩] scope pos) scope X.env _ (newList []) false (eval iter X.env) (some (assign (.Name y py) X.env))) _ _ s
  refine wpAny_bind (wpAny_mono (wpAny_comprehension_free (use := some (assign (.Name y py) X.env)) (Q := fun _ s' => SP X pins D .next s') rfl hs (closure_is fun p hp e => I.ok.has p.1 (S.free p hp e)) S.kind S.names
    (comp_core hc hxe S hi hg ht he I h fun L C H' s' K1 F ⟨m, hn⟩ q => ?_)) (fun _ s' hq => wpAny_pure (wpAny_pure hq)) fun _ _ e => e)
  show wpAny _ X.A (assign (.Name y py) X.env (.ref L)) _ _ _
  obtain ⟨g0, g1, g2, g3, g4, g5⟩ := F
  refine wpAny_assign_Name (store_ok2 K1 hN hy (.inl hl) (v := .ref L) rfl (fun s2 I2 ⟨a, sb, ha⟩ => ?_) (.inr hl))
  have hCa : C ≠ a := by
    rcases ha with rfl | ha
    · exact g1
    · exact fun z => g4 _ _ ha z.symm
  refine ⟨m, hn.sameBut sb hCa, fun h' sb' => ?_⟩
  exact ⟨_, H', I2.turned (t' := s2.toks) (fun b o hb e => sb'.extBut b o hb e) g0 g1 g3 g4 g5, q⟩
end
/-! ### the names of a block, looked at -/
def relS (scope psc : Scope) : Scope :=
  { scope with names := scope.names.map fun (n, k) => if (k == .free && psc.kind == .function && psc.names.lookup n == some .cell) then (n, .cell) else (n, k) }
theorem relabel_relS (scope : Scope) (env : Env) : relabel scope env = relS scope env.scope := rfl
def scpB (psc : Scope) (PN N' : List Str) (ix : List (Option Nat)) (scope : Scope) : Bool :=
  scope.kind == .function &&
  scope.names.all (fun x => x.2 != .local || scope.names.lookup x.1 == some .local) &&
  scope.names.all (fun x => x.2 != .free || scope.names.lookup x.1 == some .free) &&
  scope.names.all (fun x => x.2 != .cell || !scope.names.contains (x.1, NameKind.free)) &&
  scope.names.all (fun x => x.2 != .free || (psc.names.lookup x.1 == some .cell || psc.names.lookup x.1 == some .free)) &&
  ix.length == N'.length &&
  (List.range N'.length).all (fun j => match ix[j]?, N'[j]? with | some (some i), some x => PN[i]? == some x && scope.names.contains (x, NameKind.free) | _, _ => true)
theorem scp_of {psc : Scope} {PN N' : List Str} {ix : List (Option Nat)} {scope : Scope} (h : scpB psc PN N' ix scope = true) : Scp psc PN N' ix scope := by
  unfold scpB at h
  simp only [Bool.and_eq_true, List.all_eq_true, beq_iff_eq, Bool.or_eq_true, bne_iff_ne, ne_eq, List.contains_iff_mem, Bool.not_eq_true', List.mem_range] at h
  obtain ⟨⟨⟨⟨⟨⟨h1, h2⟩, h3⟩, h4⟩, h5⟩, h6⟩, h7⟩ := h
  refine ⟨h1, fun x hx e => (h2 x hx).resolve_left fun z => z e, fun x hx e => (h3 x hx).resolve_left fun z => z e, fun x hx e hm => ?_, fun x hx e => (h5 x hx).resolve_left fun z => z e, h6, fun j i x e1 e2 => ?_⟩
  · have := (h4 x hx).resolve_left fun z => z e
    rw [List.contains_iff_mem.mpr hm] at this
    cases this
  · have hj : j < N'.length := (List.getElem?_eq_some_iff.mp e1).1
    have := h7 j hj
    rw [e1, e2] at this
    simp only [Bool.and_eq_true, beq_iff_eq, List.contains_iff_mem] at this
    exact this
section
variable {X : Cx} {x : Str} {pos : Pos} {i : Nat} {e : Expr} {te : TE}
theorem pvc (i : Nat) (hN : X.N[i]? = some x := by rfl) (hv : X.env.scope.names.lookup x = some .cell := by rfl) (hd : (x == ("__debug__" : Str)) = false := by decide) (hcd : (x == ("__classdict__" : Str)) = false := by decide) : PE X (.Name x pos) (tVar i) := pe_var hN (.inr (.inl hv)) hd hcd
theorem ps_setc {pos' : Pos} (hN : X.N.Nodup) (hi : X.N[i]? = some x) (hx : X.env.scope.names.lookup x = some .cell) (hf : X.fn x = true) (he : PE X e te) (hs : swapsWith e (some (.Name x pos')) pos.line X.env = pure false) : PS X (.Assign [.Name x pos'] e pos) (tAsg te (gName i)) :=
  ps_set hN hi (.inr hx) he hs (.inl hf)
theorem pg_namec (hN : X.N.Nodup) (hi : X.N[i]? = some x) (hx : X.env.scope.names.lookup x = some .cell) (hf : X.fn x = true) : PG X (.Name x pos) (gName i) := pg_name hN hi (.inr hx) (.inl hf)
end
end L2

set_option Elab.async false
set_option linter.all false
set_option maxRecDepth 100000
set_option maxHeartbeats 1000000
namespace L2
open PySem PySem.Spec PyProof.Rows
theorem pi_listK {X : Cx} {K : PySem.W.Frag} {tg l : Expr} {tl : TE} (hK : X.K = K) (hl : PE X l tl) : PI X tg l (iList K tl) := hK ▸ pi_list hl
theorem pi_tupK {X : Cx} {K : PySem.W.Frag} {tg l : Expr} {tl : TE} (hK : X.K = K) (hl : PE X l tl) : PI X tg l (iTup K tl) := hK ▸ pi_tup hl
theorem ix_listK {X : Cx} {K : PySem.W.Frag} (hK : X.K = K) : IxR X (rIxL K) := hK ▸ ix_list
/-! ### data: what a value is worth, lists and tuples within it -/
inductive Dt where
  | non | bl (b : Bool) | int (i : Int) | str (x : Str) | tup (xs : List Dt) | lst (xs : List Dt)
mutual
def Rep (H : Hp) : V → Dt → Prop
  | v, .non => v = .non
  | v, .bl b => v = .bl b
  | v, .int i => v = .int i
  | v, .str x => v = .str x
  | v, .tup ds => ∃ p xs, v = .ref p ∧ H p = some (.tup xs) ∧ Reps H xs ds
  | v, .lst ds => ∃ p xs, v = .ref p ∧ H p = some (.lst xs) ∧ Reps H xs ds
def Reps (H : Hp) : List V → List Dt → Prop
  | xs, [] => xs = []
  | xs, d :: ds => ∃ x r, xs = x :: r ∧ Rep H x d ∧ Reps H r ds
end
mutual
theorem Rep.mono {H H' : Hp} (e : Same H H') : ∀ {v : V} (d : Dt), Rep H v d → Rep H' v d
  | v, .non, h => h
  | v, .bl b, h => h
  | v, .int i, h => h
  | v, .str x, h => h
  | v, .tup ds, ⟨p, xs, h1, h2, h3⟩ => ⟨p, xs, h1, e _ _ h2, Reps.mono e ds h3⟩
  | v, .lst ds, ⟨p, xs, h1, h2, h3⟩ => ⟨p, xs, h1, e _ _ h2, Reps.mono e ds h3⟩
theorem Reps.mono {H H' : Hp} (e : Same H H') : ∀ {xs : List V} (ds : List Dt), Reps H xs ds → Reps H' xs ds
  | xs, [], h => h
  | xs, d :: ds, ⟨x, r, h1, h2, h3⟩ => ⟨x, r, h1, Rep.mono e d h2, Reps.mono e ds h3⟩
end
mutual
theorem Rep.inj {H : Hp} : ∀ {v : V} (d e : Dt), Rep H v d → Rep H v e → d = e
  | v, .non, e, h, h' => by
    cases h
    cases e <;> first | rfl | (simp [Rep] at h')
  | v, .bl b, e, h, h' => by
    cases h
    cases e <;> simp [Rep] at h' <;> simp [h']
  | v, .int i, e, h, h' => by
    cases h
    cases e <;> simp [Rep] at h' <;> simp [h']
  | v, .str x, e, h, h' => by
    cases h
    cases e <;> simp [Rep] at h' <;> simp [h']
  | v, .tup ds, e, ⟨p, xs, h1, h2, h3⟩, h' => by
    subst h1
    cases e with
    | tup es =>
      obtain ⟨p', xs', g1, g2, g3⟩ := h'
      cases g1
      rw [h2] at g2
      cases g2
      rw [Reps.inj ds es h3 g3]
    | lst es =>
      obtain ⟨p', xs', g1, g2, g3⟩ := h'
      cases g1
      rw [h2] at g2
      cases g2
    | _ => simp [Rep] at h'
  | v, .lst ds, e, ⟨p, xs, h1, h2, h3⟩, h' => by
    subst h1
    cases e with
    | tup es =>
      obtain ⟨p', xs', g1, g2, g3⟩ := h'
      cases g1
      rw [h2] at g2
      cases g2
    | lst es =>
      obtain ⟨p', xs', g1, g2, g3⟩ := h'
      cases g1
      rw [h2] at g2
      cases g2
      rw [Reps.inj ds es h3 g3]
    | _ => simp [Rep] at h'
theorem Reps.inj {H : Hp} : ∀ {xs : List V} (ds es : List Dt), Reps H xs ds → Reps H xs es → ds = es
  | xs, [], es, h, h' => by
    cases h
    cases es with
    | nil => rfl
    | cons e es => obtain ⟨x, r, g, _⟩ := h'; cases g
  | xs, d :: ds, es, ⟨x, r, h1, h2, h3⟩, h' => by
    subst h1
    cases es with
    | nil => cases h'
    | cons e es =>
      obtain ⟨x', r', g1, g2, g3⟩ := h'
      cases g1
      rw [Rep.inj d e h2 g2, Reps.inj ds es h3 g3]
end
theorem Reps.length {H : Hp} : ∀ {xs : List V} {ds : List Dt}, Reps H xs ds → xs.length = ds.length
  | xs, [], h => by cases h; rfl
  | xs, d :: ds, ⟨x, r, h1, h2, h3⟩ => by subst h1; simp [Reps.length h3]
theorem Reps.get {H : Hp} : ∀ {xs : List V} {ds : List Dt} {i : Nat} {d : Dt}, Reps H xs ds → ds[i]? = some d → ∃ x, xs[i]? = some x ∧ Rep H x d
  | xs, [], i, d, h, e => by simp at e
  | xs, d' :: ds, 0, d, ⟨x, r, h1, h2, h3⟩, e => by
    subst h1
    simp at e
    subst e
    exact ⟨x, rfl, h2⟩
  | xs, d' :: ds, i + 1, d, ⟨x, r, h1, h2, h3⟩, e => by
    subst h1
    obtain ⟨y, hy, hr⟩ := Reps.get (i := i) (d := d) h3 (by simpa using e)
    exact ⟨y, by simpa using hy, hr⟩
theorem Reps.append {H : Hp} : ∀ {xs : List V} {ds : List Dt} {ys : List V} {es : List Dt}, Reps H xs ds → Reps H ys es → Reps H (xs ++ ys) (ds ++ es)
  | xs, [], ys, es, h, g => by cases h; exact g
  | xs, d :: ds, ys, es, ⟨x, r, h1, h2, h3⟩, g => by subst h1; exact ⟨x, r ++ ys, rfl, h2, Reps.append h3 g⟩
/-! ### == by data -/
mutual
/-- what == tells of two data of one shape -/
def deq : Dt → Dt → Option Bool
  | .non, .non => some true
  | .bl a, .bl b => some (a == b)
  | .int a, .int b => some (a == b)
  | .str a, .str b => some (a == b)
  | .tup xs, .tup ys => deqs xs ys
  | .lst xs, .lst ys => if xs.length = ys.length then deqs xs ys else some false
  | _, _ => none
/-- item by item; of unlike lengths false -/
def deqs : List Dt → List Dt → Option Bool
  | [], [] => some true
  | x :: xs, y :: ys => match deq x y, deqs xs ys with
    | some a, some b => some (a && b)
    | _, _ => none
  | _, _ => some false
end
mutual
def dep : Dt → Nat
  | .tup ds => deps ds + 1
  | .lst ds => deps ds + 1
  | _ => 0
def deps : List Dt → Nat
  | [] => 0
  | d :: ds => max (dep d) (deps ds)
end
def eAt (ds es : List Dt) (j : Nat) : Bool := match ds[j]?, es[j]? with
  | some d, some e => (deq d e).getD false
  | _, _ => false
theorem deqs_range : ∀ (ds es : List Dt) (b : Bool), deqs ds es = some b → ((List.range (min ds.length es.length)).all (eAt ds es) && ds.length == es.length) = b
  | [], [], b, h => by cases h; rfl
  | [], _ :: _, b, h => by cases h; simp
  | _ :: _, [], b, h => by cases h; simp
  | d :: ds, e :: es, b, h => by
    rw [deqs] at h
    cases h1 : deq d e with
    | none => rw [h1] at h; cases h
    | some a =>
      cases h2 : deqs ds es with
      | none => rw [h1, h2] at h; cases h
      | some c =>
        rw [h1, h2] at h
        cases h
        rw [← deqs_range ds es c h2]
        simp only [List.length_cons, Nat.succ_min_succ, List.range_succ_eq_map, List.all_cons, List.all_map, Bool.and_assoc]
        congr 1
        · simp [eAt, h1]
        · congr 1
          simp
mutual
theorem deq_self : ∀ (d : Dt) (b : Bool), deq d d = some b → b = true
  | .non, b, h => by cases h; rfl
  | .bl a, b, h => by simp [deq] at h; exact h
  | .int a, b, h => by simp [deq] at h; exact h
  | .str a, b, h => by simp [deq] at h; exact h
  | .tup xs, b, h => deqs_self xs b h
  | .lst xs, b, h => by
    rw [deq, if_pos rfl] at h
    exact deqs_self xs b h
theorem deqs_self : ∀ (ds : List Dt) (b : Bool), deqs ds ds = some b → b = true
  | [], b, h => by cases h; rfl
  | d :: ds, b, h => by
    rw [deqs] at h
    cases h1 : deq d d with
    | none => rw [h1] at h; cases h
    | some a =>
      cases h2 : deqs ds ds with
      | none => rw [h1, h2] at h; cases h
      | some c =>
        rw [h1, h2] at h
        cases h
        rw [deq_self d a h1, deqs_self ds c h2]
        rfl
end
section
variable {X : Cx} {pins : List (Addr × Obj)} {σ : St} {H : Hp} {s : Shared}
mutual
theorem eqAt_D (I : Inv X pins σ H s) : ∀ (d e : Dt) {A : Around} {x y : V} {u v : Value} {b : Bool}, Rep H x d → Rep H y e → RelV x u → RelV y v → deq d e = some b → A.units + dep d < cLine → SeqAt.EqAt A s u v b
  | .non, e, A, x, y, u, v, b, hx, hy, rx, ry, hb, hu => by
    cases e <;> first | (cases hb; cases hx; cases hy; cases rx; cases ry; exact SeqAt.EqAt.same _) | (simp [deq] at hb)
  | .bl a, e, A, x, y, u, v, b, hx, hy, rx, ry, hb, hu => by
    cases e <;> first | (cases hb; cases hx; cases hy; cases rx; cases ry; exact SeqAt.EqAt.bool_bool _ _) | (simp [deq] at hb)
  | .int a, e, A, x, y, u, v, b, hx, hy, rx, ry, hb, hu => by
    cases e <;> first | (cases hb; cases hx; cases hy; obtain ⟨t, rfl⟩ := rx; obtain ⟨t', rfl⟩ := ry; exact SeqAt.EqAt.int_int _ _ _ _) | (simp [deq] at hb)
  | .str a, e, A, x, y, u, v, b, hx, hy, rx, ry, hb, hu => by
    cases e <;> first | (cases hb; cases hx; cases hy; obtain ⟨t, rfl⟩ := rx; obtain ⟨t', rfl⟩ := ry; exact SeqAt.EqAt.str_str _ _ _ _) | (simp [deq] at hb)
  | .tup ds, e, A, x, y, u, v, b, hx, hy, rx, ry, hb, hu => by
    cases e with
    | tup es =>
      obtain ⟨p, xs, e1, hp, hr⟩ := id hx
      obtain ⟨q, ys, e2, hq, hs⟩ := id hy
      subst e1 e2
      cases rx
      cases ry
      by_cases hpq : p = q
      · subst hpq
        have := Rep.inj _ _ hx hy
        cases this
        rw [deq_self _ b hb]
        exact SeqAt.EqAt.same _
      · obtain ⟨its, r1, pl1, _⟩ := I.tuple (xs := xs) (.inl (.inl hp))
        obtain ⟨its', r2, pl2, _⟩ := I.tuple (xs := ys) (.inl (.inl hq))
        have l1 := r1.length
        have l2 := r2.length
        have g1 := hr.length
        have g2 := hs.length
        have hu' : A.in1.units + deps ds < cLine := by
          have : A.units + (deps ds + 1) < cLine := hu
          rw [PySem.Around.in1_units]; omega
        have hb' : deqs ds es = some b := hb
        rw [← deqs_range ds es b hb']
        have := SeqAt.RcAt.tuples (e := eAt ds es) (A := A) (s := s) pl1 pl2 (Nat.lt_of_le_of_lt (Nat.le_add_right _ _) hu) (fun j h1 h2 => by
          have := eqAt_Ds I ds es hr hs r1 r2 hb' hu' j (by simpa using h1) (by simpa using h2)
          simpa using this)
        simp only [List.size_toArray, ← l1, ← l2, g1, g2] at this
        exact SeqAt.EqAt.of_refs hpq this
    | _ => simp [deq] at hb
  | .lst ds, e, A, x, y, u, v, b, hx, hy, rx, ry, hb, hu => by
    cases e with
    | lst es =>
      obtain ⟨p, xs, e1, hp, hr⟩ := id hx
      obtain ⟨q, ys, e2, hq, hs⟩ := id hy
      subst e1 e2
      cases rx
      cases ry
      by_cases hpq : p = q
      · subst hpq
        have := Rep.inj _ _ hx hy
        cases this
        rw [deq_self _ b hb]
        exact SeqAt.EqAt.same _
      · obtain ⟨its, r1, pl1, _⟩ := I.list (xs := xs) (.inl (.inl hp))
        obtain ⟨its', r2, pl2, _⟩ := I.list (xs := ys) (.inl (.inl hq))
        have l1 := r1.length
        have l2 := r2.length
        have g1 := hr.length
        have g2 := hs.length
        have hu0 : A.units < cLine := Nat.lt_of_le_of_lt (Nat.le_add_right _ _) hu
        have hu' : A.in1.units + deps ds < cLine := by
          have : A.units + (deps ds + 1) < cLine := hu
          rw [PySem.Around.in1_units]; omega
        rw [deq] at hb
        by_cases hl : ds.length = es.length
        · rw [if_pos hl] at hb
          rw [← deqs_range ds es b hb]
          have := SeqAt.RcAt.lists (e := eAt ds es) (A := A) (s := s) pl1.isList pl2.isList (by simp only [List.size_toArray]; omega) hu0 (fun j h1 h2 => by
            have := eqAt_Ds I ds es hr hs r1 r2 hb hu' j (by simpa using h1) (by simpa using h2)
            simpa using this)
          simp only [List.size_toArray, ← l1, g1] at this
          refine SeqAt.EqAt.of_refs hpq ?_
          have e3 : min ds.length es.length = ds.length := by omega
          rw [e3, hl]
          simpa [hl] using this
        · rw [if_neg hl] at hb
          cases hb
          exact SeqAt.EqAt.of_refs hpq (SeqAt.RcAt.lists_lengths pl1.isList pl2.isList (by simp only [List.size_toArray, bne_iff_ne, ne_eq]; omega) hu0)
    | _ => simp [deq] at hb
theorem eqAt_Ds (I : Inv X pins σ H s) : ∀ (ds es : List Dt) {A : Around} {xs ys : List V} {us vs : List Value} {b : Bool}, Reps H xs ds → Reps H ys es → Vals xs us → Vals ys vs → deqs ds es = some b → A.units + deps ds < cLine →
    ∀ (j : Nat) (h1 : j < us.length) (h2 : j < vs.length), SeqAt.EqAt A s us[j] vs[j] (eAt ds es j)
  | [], es, A, xs, ys, us, vs, b, hx, hy, rx, ry, hb, hu, j, h1, h2 => by
    cases hx
    cases rx
    exact absurd h1 (Nat.not_lt_zero _)
  | d :: ds, es, A, xs, ys, us, vs, b, ⟨x, r, e1, hd, hr⟩, hy, rx, ry, hb, hu, j, h1, h2 => by
    subst e1
    cases es with
    | nil =>
      cases hy
      cases ry
      exact absurd h2 (Nat.not_lt_zero _)
    | cons e es =>
      obtain ⟨y, r', e2, he, hs⟩ := hy
      subst e2
      cases rx with
      | cons rx rxs =>
        cases ry with
        | cons ry rys =>
          rw [deqs] at hb
          cases g1 : deq d e with
          | none => rw [g1] at hb; cases hb
          | some a =>
            cases g2 : deqs ds es with
            | none => rw [g1, g2] at hb; cases hb
            | some c =>
              have hm : A.units + max (dep d) (deps ds) < cLine := hu
              cases j with
              | zero =>
                have := eqAt_D I d e (A := A) hd he rx ry g1 (by omega)
                simpa [eAt, g1] using this
              | succ j =>
                have := eqAt_Ds I ds es (A := A) hr hs rxs rys g2 (by omega) j (by simpa using h1) (by simpa using h2)
                simpa [eAt] using this
end
/-- == of two lists, of two tuples, by data -/
def rEqD : R2 := fun x y H Q => ∃ p q d e b, x = .ref p ∧ y = .ref q ∧ Rep H x d ∧ Rep H y e ∧ deq d e = some b ∧ dep d ≤ 60 ∧ Q (.bl b) H
theorem op_eqD (hu : X.A.units + 64 < cLine) : OpR X (compareOp .Eq) rEqD := by
  intro pins s σ H x y v u Q I rx ry h
  obtain ⟨p, q, d, e, b, e1, e2, hx, hy, hb, hd, k⟩ := h
  subst e1 e2
  cases rx
  cases ry
  have fin : EP X pins σ Q (.bool b) s := ⟨.bl b, H, I, rfl, k⟩
  cases d with
  | tup ds =>
    cases e with
    | tup es =>
      obtain ⟨_, xs, z, hp, hr⟩ := hx
      cases z
      obtain ⟨_, ys, z, hq, hs⟩ := hy
      cases z
      obtain ⟨its, r1, pl1, _⟩ := I.tuple (xs := xs) (.inl (.inl hp))
      obtain ⟨its', r2, pl2, _⟩ := I.tuple (xs := ys) (.inl (.inl hq))
      have l1 := r1.length
      have l2 := r2.length
      have g1 := hr.length
      have g2 := hs.length
      have hd' : deps ds + 1 ≤ 60 := hd
      have hu' : X.A.in1.units + deps ds < cLine := by rw [PySem.Around.in1_units]; omega
      have hb' : deqs ds es = some b := hb
      refine SeqAt.eq_tupleAt (e := eAt ds es) pl1 pl2 (by omega) (fun j h1 h2 => by
        have := eqAt_Ds I ds es hr hs r1 r2 hb' hu' j (by simpa using h1) (by simpa using h2)
        simpa using this) ?_
      simp only [List.size_toArray, ← l1, ← l2, g1, g2]
      rw [deqs_range ds es b hb']
      exact fin
    | _ => simp [deq] at hb
  | lst ds =>
    cases e with
    | lst es =>
      obtain ⟨_, xs, z, hp, hr⟩ := hx
      cases z
      obtain ⟨_, ys, z, hq, hs⟩ := hy
      cases z
      obtain ⟨its, r1, pl1, _⟩ := I.list (xs := xs) (.inl (.inl hp))
      obtain ⟨its', r2, pl2, _⟩ := I.list (xs := ys) (.inl (.inl hq))
      have l1 := r1.length
      have l2 := r2.length
      have g1 := hr.length
      have g2 := hs.length
      have hd' : deps ds + 1 ≤ 60 := hd
      have hu' : X.A.in1.units + deps ds < cLine := by rw [PySem.Around.in1_units]; omega
      rw [deq] at hb
      by_cases hl : ds.length = es.length
      · rw [if_pos hl] at hb
        refine SeqAt.eq_listAt (e := eAt ds es) pl1.isList pl2.isList (by simp only [List.size_toArray]; omega) (by omega) (fun j h1 h2 => by
          have := eqAt_Ds I ds es hr hs r1 r2 hb hu' j (by simpa using h1) (by simpa using h2)
          simpa using this) ?_
        have e3 := deqs_range ds es b hb
        have e4 : min ds.length es.length = ds.length := by omega
        rw [e4, hl] at e3
        simp only [beq_self_eq_true, Bool.and_true] at e3
        simp only [List.size_toArray, ← l1, g1, hl, e3]
        exact fin
      · rw [if_neg hl] at hb
        cases hb
        exact SeqAt.eq_list_lengthsAt pl1.isList pl2.isList (by simp only [List.size_toArray, bne_iff_ne, ne_eq]; omega) (by omega) fin
    | _ => simp [deq] at hb
  | _ => simp [Rep] at hx
/-- != of two lists, of two tuples, by data -/
def rNeD : R2 := fun x y H Q => ∃ p q d e b, x = .ref p ∧ y = .ref q ∧ Rep H x d ∧ Rep H y e ∧ deq d e = some b ∧ dep d ≤ 60 ∧ Q (.bl (!b)) H
theorem op_neD (hu : X.A.units + 64 < cLine) : OpR X (compareOp .NotEq) rNeD := by
  intro pins s σ H x y v u Q I rx ry h
  obtain ⟨p, q, d, e, b, e1, e2, hx, hy, hb, hd, k⟩ := h
  subst e1 e2
  cases rx
  cases ry
  have fin : EP X pins σ Q (.bool (!b)) s := ⟨.bl (!b), H, I, rfl, k⟩
  cases d with
  | tup ds =>
    cases e with
    | tup es =>
      obtain ⟨_, xs, z, hp, hr⟩ := hx
      cases z
      obtain ⟨_, ys, z, hq, hs⟩ := hy
      cases z
      obtain ⟨its, r1, pl1, _⟩ := I.tuple (xs := xs) (.inl (.inl hp))
      obtain ⟨its', r2, pl2, _⟩ := I.tuple (xs := ys) (.inl (.inl hq))
      have l1 := r1.length
      have l2 := r2.length
      have g1 := hr.length
      have g2 := hs.length
      have hd' : deps ds + 1 ≤ 60 := hd
      have hu' : X.A.in1.units + deps ds < cLine := by rw [PySem.Around.in1_units]; omega
      have hb' : deqs ds es = some b := hb
      refine SeqAt.RcNeAt.tuples (e := eAt ds es) pl1 pl2 (by omega) (fun j h1 h2 => by
        have := eqAt_Ds I ds es hr hs r1 r2 hb' hu' j (by simpa using h1) (by simpa using h2)
        simpa using this) _ _ _ _ ?_
      simp only [List.size_toArray, ← l1, ← l2, g1, g2]
      rw [deqs_range ds es b hb']
      exact fin
    | _ => simp [deq] at hb
  | lst ds =>
    cases e with
    | lst es =>
      obtain ⟨_, xs, z, hp, hr⟩ := hx
      cases z
      obtain ⟨_, ys, z, hq, hs⟩ := hy
      cases z
      obtain ⟨its, r1, pl1, _⟩ := I.list (xs := xs) (.inl (.inl hp))
      obtain ⟨its', r2, pl2, _⟩ := I.list (xs := ys) (.inl (.inl hq))
      have l1 := r1.length
      have l2 := r2.length
      have g1 := hr.length
      have g2 := hs.length
      have hd' : deps ds + 1 ≤ 60 := hd
      have hu' : X.A.in1.units + deps ds < cLine := by rw [PySem.Around.in1_units]; omega
      rw [deq] at hb
      by_cases hl : ds.length = es.length
      · rw [if_pos hl] at hb
        refine SeqAt.RcNeAt.lists (e := eAt ds es) pl1.isList pl2.isList (by simp only [List.size_toArray]; omega) (by omega) (fun j h1 h2 => by
          have := eqAt_Ds I ds es hr hs r1 r2 hb hu' j (by simpa using h1) (by simpa using h2)
          simpa using this) _ _ _ _ ?_
        have e3 := deqs_range ds es b hb
        have e4 : min ds.length es.length = ds.length := by omega
        rw [e4, hl] at e3
        simp only [beq_self_eq_true, Bool.and_true] at e3
        simp only [List.size_toArray, ← l1, g1, hl, e3]
        exact fin
      · rw [if_neg hl] at hb
        cases hb
        exact SeqAt.RcNeAt.lists_lengths pl1.isList pl2.isList (by simp only [List.size_toArray, bne_iff_ne, ne_eq]; omega) (by omega) _ _ _ _ fin
    | _ => simp [deq] at hb
  | _ => simp [Rep] at hx
end
end L2

set_option Elab.async false
set_option linter.all false
set_option maxRecDepth 100000
set_option maxHeartbeats 1000000
namespace L2
open PySem PySem.Spec PyProof.Rows
section
variable {X : Cx} {pins : List (Addr × Obj)} {σ : St} {H : Hp} {s : Shared} {h' : Heap}
/-- untracked records of ours have turned -/
theorem Inv.turnedL {t' : Nat} {ch : List Addr} (I : Inv X pins σ H s) (k : ∀ b o, b ∉ ch → s.heap.get? b = some o → h'.get? b = some o) (hf : ∀ b ∈ ch, FpOk X pins H b) : Inv X pins σ H { s with heap := h', toks := t' } := by
  have nit : ∀ b u, H b = some u → b ∉ ch := fun b u e z => by rw [(hf b z).1] at e; cases e
  refine I.step (g' := s.gens) (d' := s.drawn) (ch := ch) (fun b hb => ?_) (fun b o _ _ hc e _ => k b o hc e) (fun b o _ _ hc e _ => ⟨o.slots, k b o hc e⟩) (fun _ _ _ _ n => n)
    (fun b o hc e => ⟨o, k b o hc e⟩) (fun _ _ e => e) (fun _ _ _ e => e) (fun b ps e => ⟨#[], by rw [e]; simp⟩) (fun m hm => ?_) (fun b u e => ?_) I.bare
  · obtain ⟨g0, g1, g2, g3, g4, g5⟩ := hf b hb
    exact ⟨g3, g1, g4, g5⟩
  · obtain ⟨o, es, ep, ho, r⟩ := hm
    exact ⟨o, es, ep, k _ o (fun z => (hf _ z).2.1 rfl) ho, r⟩
  · refine (I.hok b u e).stay (fun c v hc q => k c v ?_ q) (fun _ q => q) fun _ _ q => q
    rcases hc with z | z
    · rw [z]; exact nit b u e
    · exact nit c _ z
end
/-- pairs of two lists -/
def Itz (K : PySem.W.Frag) (a b : Addr) : It :=
  ⟨fun i H => ∃ xs ys x y, SqL K H a xs ∧ SqL K H b ys ∧ xs[i]? = some x ∧ ys[i]? = some y,
   fun i H v H' => ∃ T x y, v = .ref T ∧ H T = none ∧ H' = upd H T (.tup [x, y]) ∧ (∀ xs, SqL K H a xs → xs[i]? = some x) ∧ (∀ ys, SqL K H b ys → ys[i]? = some y),
   fun i H => ∃ xs ys, SqL K H a xs ∧ SqL K H b ys ∧ (xs.length ≤ i ∨ ys.length ≤ i)⟩
def ZipAt (z TI TO i1 i2 l1 l2 : Addr) (i : Nat) (h : Heap) : Prop := IsZip h z TI TO .none ∧ IsPair h TI (.ref i1) (.ref i2) ∧ (∃ a b, IsPair h TO a b) ∧ h.IsListIter i1 l1 i ∧ h.IsListIter i2 l2 i
theorem turn_zip {P : Program} {w : World} {K : PySem.W.Frag} {elts : List Expr} {kt : Nat} {tpos : Pos} {z TI TO i1 i2 l1 l2 : Addr} (D : ZipApart z TI TO i1 i2 l1 l2) :
    Turn P w K (.Tuple elts kt tpos) (Itz K l1 l2) [z, TI, TO, i1, i2] z (ZipAt z TI TO i1 i2 l1 l2) where
  mem := by simp
  obj := fun i h st b hb => by
    obtain ⟨s1, s2, ⟨a, c, s3⟩, ⟨o4, s4, c4, d4⟩, ⟨o5, s5, c5, d5⟩⟩ := st
    simp only [List.mem_cons, List.not_mem_nil, or_false] at hb
    rcases hb with rfl | rfl | rfl | rfl | rfl
    · exact ⟨_, s1, fun v e => by cases (show Data.fields _ = Data.cell v from e)⟩
    · exact ⟨_, s2, fun v e => by cases (show Data.seq _ _ = Data.cell v from e)⟩
    · exact ⟨_, s3, fun v e => by cases (show Data.seq _ _ = Data.cell v from e)⟩
    · exact ⟨o4, s4, fun v e => by rw [d4] at e; cases e⟩
    · exact ⟨o5, s5, fun v e => by rw [d5] at e; cases e⟩
  keep := fun i h h' st k => by
    obtain ⟨s1, s2, ⟨a, c, s3⟩, s4, s5⟩ := st
    exact ⟨k z (by simp) _ s1, k TI (by simp) _ s2, ⟨a, c, k TO (by simp) _ s3⟩, s4.at fun o e => k i1 (by simp) o e, s5.at fun o e => k i2 (by simp) o e⟩
  item := by
    intro X hP hw hK hc i pins s σ H E I hf st hg
    subst hP hw hK
    obtain ⟨xs, ys, x, y, hq1, hq2, hx, hy⟩ := hg
    obtain ⟨its1, rv1, p1, z1⟩ := I.list hq1
    obtain ⟨its2, rv2, p2, z2⟩ := I.list hq2
    obtain ⟨u1, hu1, ru1⟩ := rv1.get hx
    obtain ⟨u2, hu2, ru2⟩ := rv2.get hy
    obtain ⟨s1, s2, ⟨a, c, s3⟩, s4, s5⟩ := id st
    refine wpAny_pyNext_zip_item D s1 s2 s3 s4 s5 p1.isList p2.isList (x := u1) (y := u2) (by simpa using hu1) (by simpa using hu2) fun h' g1 g2 g3 g4 g5 g6 g7 => ?_
    refine ⟨_, rfl, wpAny_letOwnedTupleGo_zip g1 fun h'' k1 k2 => ?_⟩
    have lt : ∀ b ∈ [z, TI, TO, i1, i2], b < s.heap.objs.size := fun b hb => by
      simp only [List.mem_cons, List.not_mem_nil, or_false] at hb
      rcases hb with rfl | rfl | rfl | rfl | rfl
      · exact Heap.lt_size s1
      · exact Heap.lt_size s2
      · exact Heap.lt_size s3
      · obtain ⟨o, e, _⟩ := s4; exact Heap.lt_size e
      · obtain ⟨o, e, _⟩ := s5; exact Heap.lt_size e
    have hT : H s.heap.objs.size = none := I.hok.fresh (Nat.le_refl _)
    have I1 : Inv X pins σ (upd H s.heap.objs.size (.tup [x, y])) { s with heap := s.heap.push { cls := .type "tuple", data := .seq #[u1, u2] } } :=
      I.laid (t' := s.toks) (fun b u e => Heap.get?_push_of_some _ e) (Nat.le_refl _) ⟨by show 2 ≤ sizeLine; decide, [u1, u2], .cons ru1 (.cons ru2 .nil), ⟨_, Heap.get?_push_size _ rfl, rfl, _, rfl⟩⟩
    have f1 : ∀ b ∈ [z, TI, TO, i1, i2], FpOk X pins (upd H s.heap.objs.size (.tup [x, y])) b := fun b hb => ⟨by rw [upd_ne (Nat.ne_of_lt (lt b hb))]; exact (hf b hb).1, (hf b hb).2⟩
    have I2 : Inv X pins σ (upd H s.heap.objs.size (.tup [x, y])) { s with heap := h'' } := by
      refine Inv.turnedL (s := { s with heap := s.heap.push { cls := .type "tuple", data := .seq #[u1, u2] } }) (ch := [z, TI, TO, i1, i2]) (t' := s.toks) I1 (fun b o hb e => ?_) f1
      simp only [List.mem_cons, List.not_mem_nil, or_false, not_or] at hb
      refine k2.extBut b o hb.1 ?_
      by_cases hbT : b = s.heap.objs.size
      · subst hbT
        have e' : (s.heap.push { cls := .type "tuple", data := .seq #[u1, u2] }).get? s.heap.objs.size = some o := e
        rw [Heap.get?_push_size _ rfl] at e'
        cases e'
        exact g5
      · have hb2 : s.heap.get? b = some o := by
          have e' : (s.heap.push { cls := .type "tuple", data := .seq #[u1, u2] }).get? b = some o := e
          exact (Heap.get?_push_ne _ _ _ hbT).symm.trans e'
        exact g7 b o hb.1 hb.2.2.1 hb.2.2.2.1 hb.2.2.2.2 hb2
    refine ⟨.ref s.heap.objs.size, _, I2, rfl, ⟨_, x, y, rfl, hT, rfl, fun xs' h' => by rw [I.list_inj h' hq1]; exact hx, fun ys' h' => by rw [I.list_inj h' hq2]; exact hy⟩, ?_, fun b hb => (f1 b hb).1⟩
    refine ⟨k1, ?_, ?_, ?_, ?_⟩
    · exact k2.extBut _ _ D.TIz (g7 _ _ D.TIz D.TITO D.TIi1 D.TIi2 s2)
    · exact ⟨u1, u2, k2.extBut _ _ D.TOz g2⟩
    · exact g3.at fun o e => k2.extBut _ _ D.i1z e
    · exact g4.at fun o e => k2.extBut _ _ D.i2z e
  done := by
    intro X hP hw hK hc i pins s σ H E I hf st hg
    subst hP hw hK
    obtain ⟨xs, ys, hq1, hq2, he⟩ := hg
    obtain ⟨its1, rv1, p1, z1⟩ := I.list hq1
    obtain ⟨its2, rv2, p2, z2⟩ := I.list hq2
    obtain ⟨s1, s2, ⟨a, c, s3⟩, s4, s5⟩ := id st
    have l1 := rv1.length
    have l2 := rv2.length
    refine wpAny_pyNext_zip_end (I.ok.hd hc) D s1 s2 s3 s4 s5 p1.isList p2.isList (by
      rcases he with he | he
      · exact .inl (by simp; omega)
      · exact .inr (by simp; omega)) fun h' k => ⟨rfl, ?_⟩
    refine Inv.turnedL (ch := [z, TI, TO, i1, i2]) (t' := s.toks) I (fun b o hb e => ?_) hf
    simp only [List.mem_cons, List.not_mem_nil, or_false, not_or] at hb
    exact k b o hb.1 hb.2.2.1 hb.2.2.2.1 hb.2.2.2.2 e
  self := fun _ _ _ _ _ st h => wpAny_pyIter_zip st.1 h
def iZip (K : PySem.W.Frag) (ta : TA) : TI := fun σ H R => ta σ H fun vs H1 => ∃ a b, vs = [.ref a, .ref b] ∧ (∃ xs, SqL K H1 a xs) ∧ (∃ ys, SqL K H1 b ys) ∧ R (Itz K a b) H1
section
variable {X : Cx} {elts : List Expr} {kt : Nat} {tpos : Pos}
theorem pi_zip {K : PySem.W.Frag} {a b : Expr} {ta : TA} {p pos : Pos} (hK : X.K = K) (hg : Gl X "zip") (hm : X.mg "zip" = none) (ha : PA X [a, b] ta) (hs : plainArgs [a, b] = true := by rfl) : PI X (.Tuple elts kt tpos) (.Call (.Name "zip" p) [a, b] [] pos) (iZip K ta) := by
  subst hK
  intro pins s σ H R I h
  have h' : notStar a = true ∧ plainArgs [b] = true := by simpa [plainArgs] using hs
  refine Call_ (ld_blt I hg hm bt_zip (PyProof.Rows.callWith_type1 (thn (ha pos pins s σ H _ I h) fun us s1 ⟨vs, H1, I1, r1, q1⟩ => ?_) (starEach_plain h'.1) (backTo_plain h'.2)))
  obtain ⟨l1, l2, e, ⟨xs, hx⟩, ⟨ys, hy⟩, q⟩ := q1
  subst e
  obtain ⟨u1, u2, rfl, e1, e2⟩ := vals2 r1
  cases e1
  cases e2
  obtain ⟨its1, rv1, p1, z1⟩ := I1.list hx
  obtain ⟨its2, rv2, p2, z2⟩ := I1.list hy
  have hl1 : l1 < s1.heap.objs.size := by obtain ⟨o, e, _⟩ := p1.isList; exact Heap.lt_size e
  have hl2 : l2 < s1.heap.objs.size := by obtain ⟨o, e, _⟩ := p2.isList; exact Heap.lt_size e
  refine call_zip_2 p1.isList p2.isList fun h' g1 g2 g3 g4 g5 g6 g7 => ?_
  have I2 : Inv X pins σ H1 { s1 with heap := h' } := I1.kept (t' := s1.toks) g7
  refine wpAny_pyIter_zip g1 ⟨_, [s1.heap.objs.size + 4, s1.heap.objs.size + 2, s1.heap.objs.size + 3, s1.heap.objs.size, s1.heap.objs.size + 1], _, Itz X.K l1 l2, H1, rfl, I2, turn_zip (zipApart_new hl1 hl2), ⟨g1, g2, ⟨_, _, g3⟩, g4, g5⟩, fun b hb => ?_, q⟩
  have hb' : s1.heap.objs.size ≤ b := by
    simp only [List.mem_cons, List.not_mem_nil, or_false] at hb
    rcases hb with rfl | rfl | rfl | rfl | rfl <;> first | exact Nat.le_add_right _ _ | exact Nat.le_refl _
  exact I1.fpOk hb' (I1.hok.fresh hb')
end
theorem ints_of_vals : ∀ {ns : List Int} {us : List Value}, Vals (ns.map V.int) us → IntsAre us ns
  | [], us, r => by rw [List.map_nil] at r; cases r; exact .nil
  | n :: ns, us, r => by
    rw [List.map_cons] at r
    cases r with
    | cons a b =>
      obtain ⟨t, rfl⟩ := a
      exact .cons n t (ints_of_vals b)
def rSum (K : PySem.W.Frag) : List V → Hp → VK → Prop := fun xs H Q => ∃ (p : Addr) (ns : List Int), xs = [V.ref p] ∧ SqL K H p (ns.map V.int) ∧ Q (.int ns.sum) H
theorem call_sum {X : Cx} {K : PySem.W.Frag} (hK : X.K = K) (hc : X.calm = true) : CallR X (.builtin "sum") (rSum K) := by
  subst hK
  intro pins s σ H xs us Q I r h
  obtain ⟨p, ns, rfl, hq, q⟩ := h
  obtain ⟨u, rfl, e⟩ := vals1 r
  cases e
  obtain ⟨its, rv, pl, hz⟩ := I.list hq
  have hi := ints_of_vals rv
  obtain ⟨zs, e⟩ := (hi.allInts : AllInts its.toArray).items
  refine sum_intListG (xs := zs) (I.ok.hd hc) (e ▸ pl.isList) fun h' tk t' hk => ⟨.int ns.sum, H, I.kept hk, ⟨t', ?_⟩, q⟩
  have e2 : numsOf (intItems zs).toList = ns := by rw [← e]; exact hi.numsOf
  rw [nums_intItems] at e2
  rw [preSum_eq, List.take_of_length_le (by simp), e2]
/-- list(xs) -/
def rListH : List V → Hp → VK → Prop := fun xs H Q => ∃ p ys, xs = [V.ref p] ∧ (H p = some (.lst ys) ∨ H p = some (.tup ys)) ∧ ∀ l, H l = none → Q (.ref l) (upd H l (.lst ys))
theorem call_listH {X : Cx} : CallR X (.type "list") rListH := by
  intro pins s σ H xs us Q I r h
  obtain ⟨p, ys, e, hp, q⟩ := h
  exact call_list_of pins s σ H xs us Q I r ⟨p, ys, e, hp.imp (fun z => .inl (.inl z)) (fun z => .inl (.inl z)), q⟩
theorem pe_callT {X : Cx} {x : Str} {e : Expr} {es : List Expr} {t : TA} {p pos : Pos} {n : String} {r : List V → Hp → VK → Prop} (hc : CallR X (.type n) r) (hg : Gl X x) (hm : X.mg x = none) (hv : bootBuiltins x = some (.type n)) (ha : PA X (e :: es) t) (hs : plainArgs (e :: es) = true := by rfl) (hn : x ≠ "__name__" := by decide) (hdb : (x == ("__debug__" : Str)) = false := by decide) :
    PE X (.Call (.Name x p) (e :: es) [] pos) (tCB r t) :=
  have h' : notStar e = true ∧ plainArgs es = true := by simpa [plainArgs] using hs
  pe_callTy hc hg hm hv ha hn hdb (starEach_plain h'.1) (backTo_plain h'.2)
end L2

/-! fractions in lowest terms, as plain numbers -/
set_option linter.all false
namespace RimM
/-- the fraction t by b in lowest terms (b not 0) -/
def nf (t b : Int) : Int × Int := if b < 0 then (t / -(Int.gcd t b : Int), b / -(Int.gcd t b : Int)) else (t / (Int.gcd t b : Int), b / (Int.gcd t b : Int))
theorem gpos {t b : Int} (hb : b ≠ 0) : 0 < (Int.gcd t b : Int) := by
  have := Int.gcd_pos_of_ne_zero_right t hb
  omega
theorem nf_neg {t b : Int} (h : b < 0) : nf t b = nf (-t) (-b) := by
  have e : Int.gcd (-t) (-b) = Int.gcd t b := by rw [Int.gcd_neg, Int.neg_gcd]
  unfold nf
  rw [if_pos h, if_neg (by omega), e, Int.ediv_neg, Int.ediv_neg, Int.neg_ediv_of_dvd (Int.gcd_dvd_left ..), Int.neg_ediv_of_dvd (Int.gcd_dvd_right ..)]
theorem nf_pos {t b : Int} (h : 0 < b) : nf t b = (t / (Int.gcd t b : Int), b / (Int.gcd t b : Int)) := by
  unfold nf
  rw [if_neg (by omega)]
structure Low (p : Int × Int) : Prop where
  pos : 0 < p.2
  co : Int.gcd p.1 p.2 = 1
theorem nf_low {t b : Int} (hb : b ≠ 0) : Low (nf t b) ∧ t * (nf t b).2 = (nf t b).1 * b := by
  have key : ∀ {t b : Int}, 0 < b → Low (nf t b) ∧ t * (nf t b).2 = (nf t b).1 * b := fun {t b} h => by
    have g := gpos (t := t) (b := b) (by omega)
    rw [nf_pos h]
    refine ⟨⟨Int.ediv_pos_of_pos_of_dvd h (Int.le_of_lt g) (Int.gcd_dvd_right ..), Int.gcd_ediv_gcd_ediv_gcd (by omega)⟩, ?_⟩
    show t * (b / (Int.gcd t b : Int)) = t / (Int.gcd t b : Int) * b
    obtain ⟨x, hx⟩ := Int.gcd_dvd_left (a := t) (b := b)
    obtain ⟨y, hy⟩ := Int.gcd_dvd_right (a := t) (b := b)
    have e1 : t / (Int.gcd t b : Int) = x := by
      conv => lhs; arg 1; rw [hx]
      exact Int.mul_ediv_cancel_left _ (by omega)
    have e2 : b / (Int.gcd t b : Int) = y := by
      conv => lhs; arg 1; rw [hy]
      exact Int.mul_ediv_cancel_left _ (by omega)
    rw [e1, e2]
    conv => lhs; arg 1; rw [hx]
    conv => rhs; arg 2; rw [hy]
    rw [Int.mul_assoc, Int.mul_left_comm]
  rcases Int.lt_or_lt_of_ne hb with h | h
  · rw [nf_neg h]
    obtain ⟨a, e⟩ := key (t := -t) (b := -b) (by omega)
    refine ⟨a, ?_⟩
    rw [Int.neg_mul, Int.mul_neg] at e
    omega
  · exact key h
theorem dvd_co {k n m : Int} (h : k ∣ n * m) (g : Int.gcd k n = 1) : k ∣ m := by
  have := Int.dvd_gcd_mul_iff_dvd_mul.mpr h
  rw [g] at this
  simpa using this
/-- two fractions in lowest terms that are one number are one -/
theorem low_eq {p q : Int × Int} (hp : Low p) (hq : Low q) (h : p.1 * q.2 = q.1 * p.2) : p = q := by
  have d1 : p.2 ∣ q.2 := by
    have : p.2 ∣ p.1 * q.2 := ⟨q.1, by rw [h, Int.mul_comm]⟩
    exact dvd_co this (by rw [Int.gcd_comm]; exact hp.co)
  have d2 : q.2 ∣ p.2 := by
    have : q.2 ∣ q.1 * p.2 := ⟨p.1, by rw [← h, Int.mul_comm]⟩
    exact dvd_co this (by rw [Int.gcd_comm]; exact hq.co)
  have e : p.2 = q.2 := Int.dvd_antisymm (Int.le_of_lt hp.pos) (Int.le_of_lt hq.pos) d1 d2
  have e1 : p.1 = q.1 := by
    rw [e] at h
    exact Int.eq_of_mul_eq_mul_right (by have := hq.pos; omega) h
  exact Prod.ext e1 e
theorem nf_eq {t b t' b' : Int} (hb : b ≠ 0) (hb' : b' ≠ 0) (h : t * b' = t' * b) : nf t b = nf t' b' := by
  obtain ⟨l, e⟩ := nf_low (t := t) hb
  obtain ⟨l', e'⟩ := nf_low (t := t') hb'
  refine low_eq l l' ?_
  have : ((nf t b).1 * (nf t' b').2) * (b * b') = ((nf t' b').1 * (nf t b).2) * (b * b') := by
    calc ((nf t b).1 * (nf t' b').2) * (b * b') = ((nf t b).1 * b) * ((nf t' b').2 * b') := by ac_rfl
      _ = (t * (nf t b).2) * ((nf t' b').2 * b') := by rw [e]
      _ = (t * b') * ((nf t b).2 * (nf t' b').2) := by ac_rfl
      _ = (t' * b) * ((nf t b).2 * (nf t' b').2) := by rw [h]
      _ = (t' * (nf t' b').2) * ((nf t b).2 * b) := by ac_rfl
      _ = ((nf t' b').1 * b') * ((nf t b).2 * b) := by rw [e']
      _ = ((nf t' b').1 * (nf t b).2) * (b * b') := by ac_rfl
  exact Int.eq_of_mul_eq_mul_right (Int.mul_ne_zero hb hb') this
theorem nf_of_low {p : Int × Int} (h : Low p) : nf p.1 p.2 = p := by
  rw [nf_pos h.pos, h.co]
  simp
end RimM

set_option Elab.async false
set_option linter.all false
set_option maxRecDepth 100000
set_option maxHeartbeats 1000000
namespace L2
open PySem PySem.Spec PyProof.Rows
/-- the part of H that is not in B -/
def newH (B H : Hp) : Hp := fun b => match B b with | some _ => none | none => H b
/-- .. and is not at D -/
def cutH (B : Hp) (D : Addr) (H : Hp) : Hp := fun b => if b = D then none else newH B H b
theorem newH_of {B H : Hp} {b : Addr} {o : HO} (h : newH B H b = some o) : B b = none ∧ H b = some o := by
  unfold newH at h
  cases e : B b with
  | some z => rw [e] at h; cases h
  | none => rw [e] at h; exact ⟨rfl, h⟩
theorem newH_at {B H : Hp} {b : Addr} (h : B b = none) : newH B H b = H b := by
  unfold newH
  rw [h]
theorem cutH_of {B H : Hp} {D b : Addr} {o : HO} (h : cutH B D H b = some o) : b ≠ D ∧ B b = none ∧ H b = some o := by
  unfold cutH at h
  by_cases e : b = D
  · rw [if_pos e] at h; cases h
  · rw [if_neg e] at h; exact ⟨e, newH_of h⟩
theorem cutH_at {B H : Hp} {D b : Addr} (e : b ≠ D) (h : B b = none) : cutH B D H b = H b := by
  unfold cutH
  rw [if_neg e, newH_at h]
theorem newH_same {B H : Hp} : Same (newH B H) H := fun b o h => (newH_of h).2
theorem cutH_same {B H : Hp} {D : Addr} : Same (cutH B D H) H := fun b o h => (cutH_of h).2.2
theorem cutH_new {B H : Hp} {D : Addr} : Same (cutH B D H) (newH B H) := fun b o h => by
  obtain ⟨h1, h2, h3⟩ := cutH_of h
  rw [newH_at h2]; exact h3
theorem cutH_mono {B H H' : Hp} {D : Addr} (e : Same H H') : Same (cutH B D H) (cutH B D H') := fun b o h => by
  obtain ⟨h1, h2, h3⟩ := cutH_of h
  rw [cutH_at h1 h2]; exact e _ _ h3
theorem newH_mono {B H H' : Hp} (e : Same H H') : Same (newH B H) (newH B H') := fun b o h => by
  obtain ⟨h1, h2⟩ := newH_of h
  rw [newH_at h1]; exact e _ _ h2
theorem newH_less {B B' H : Hp} (e : Same B B') : Same (newH B' H) (newH B H) := fun b o h => by
  obtain ⟨h1, h2⟩ := newH_of h
  rw [newH_at (e.free h1)]; exact h2
theorem cutH_upd {B H : Hp} {D : Addr} {o : HO} : cutH B D (upd H D o) = cutH B D H := by
  funext b
  unfold cutH newH
  by_cases e : b = D
  · rw [if_pos e, if_pos e]
  · rw [if_neg e, if_neg e, upd_ne e]
/-- what is new behind a call keeps clear of what was there ahead of it -/
theorem new_cut {B H H3 : Hp} {D : Addr} (hB : Same B H) (hD : ∃ o, H D = some o) : Same (newH H H3) (cutH B D H3) := fun b o h => by
  obtain ⟨h1, h2⟩ := newH_of h
  obtain ⟨z, hz⟩ := hD
  rw [cutH_at (ne_of_none hz h1).symm (hB.free h1)]
  exact h2
/-- what was there ahead of the list's making keeps clear of it -/
theorem old_cut {H H3 : Hp} {D : Addr} (hs : Same H H3) (hD : H D = none) : Same H (cutH (fun _ => none) D H3) := fun b o h => by
  rw [cutH_at (ne_of_none h hD) rfl]
  exact hs _ _ h
theorem newH_none {H : Hp} : newH (fun _ => none) H = H := rfl
/-- a comprehension that only makes new things -/
theorem comp_any {J : It} {g : TG} {te : TE} {σ : St} {H : Hp} {Q : VK} (n : Nat) (B : Hp) (Pσ : St → Prop) (ds : List Dt) (hB : Same B H) (h0 : Pσ σ) (hlen : ds.length = n) (hz : n ≤ 1000)
    (hgo : ∀ i H', i < n → Same H H' → J.go i H') (hst : ∀ H', Same H H' → J.stop n H')
    (hs : ∀ D i x d σ' H' H'', H D = none → (∃ o, H' D = some o) → Same H H' → i < n → ds[i]? = some d → J.yld i H' x H'' → Pσ σ' → ∀ R : St → V → Hp → Prop,
      (∀ σ2 v H3, Pσ σ2 → Same H' H3 → Rep (cutH B D H3) v d → R σ2 v H3) → g x σ' H'' fun σ2 H2 => te σ2 H2 fun v H3 => R σ2 v H3)
    (hd : ∀ D H', H D = none → Same H H' → Rep (newH B H') (.ref D) (.lst ds) → Q (.ref D) H') : CompGo J g tYes te σ H Q := by
  intro D hD
  have hBD : B D = none := hB.free hD
  refine ⟨fun i m σ' H' => m = n - i ∧ i ≤ n ∧ Pσ σ' ∧ Same H H' ∧ ∃ ys, H' D = some (.lst ys) ∧ Reps (cutH B D H') ys (ds.take i) ∧ ys.length = i, ⟨n, by simp, Nat.zero_le _, h0, Same.new hD, [], upd_same, rfl, rfl⟩, ?_⟩
  rintro i m σ' H' ⟨rfl, hi, hp, hs', ys, hys, hr, hl⟩
  by_cases hlt : i < n
  · refine .inr ⟨hgo i H' hlt hs', fun σ2 H2 => Pσ σ2 ∧ Same H H2 ∧ ∃ ys, H2 D = some (.lst ys) ∧ Reps (cutH B D H2) ys (ds.take (i + 1)) ∧ ys.length = i + 1, fun σ2 H2 ⟨a, b, c⟩ => ⟨n - (i + 1), by omega, rfl, hlt, a, b, c⟩, fun x H'' hy => ?_⟩
    have hdi : ds[i]? = some ds[i] := by simp [hlen, hlt]
    simp only [tYes, if_true]
    refine hs D i x ds[i] σ' H' H'' hD ⟨_, hys⟩ hs' hlt hdi hy hp _ fun σ2 v H3 hp2 s3 hv => ?_
    refine ⟨ys, s3 _ _ hys, by rw [hl]; exact small1000 (by omega), hp2, (hs'.trans s3).upd hD, ys ++ [v], upd_same, ?_, by simp [hl]⟩
    rw [cutH_upd]
    have e : ds.take (i + 1) = ds.take i ++ [ds[i]] := by rw [List.take_succ, hdi]; rfl
    rw [e]
    exact (Reps.mono (cutH_mono s3) _ hr).append ⟨v, [], rfl, hv, rfl⟩
  · have e : i = n := by omega
    subst e
    refine .inl ⟨hst H' hs', hd D H' hD hs' ⟨D, ys, rfl, ?_, ?_⟩⟩
    · rw [newH_at hBD]; exact hys
    · rw [List.take_of_length_le (by omega)] at hr
      exact Reps.mono cutH_new _ hr
theorem Reps.of_get {H : Hp} {xs : List V} {ds : List Dt} {i : Nat} {x : V} (h : Reps H xs ds) (e : xs[i]? = some x) : ∃ d, ds[i]? = some d ∧ Rep H x d := by
  have hi : i < xs.length := (List.getElem?_eq_some_iff.mp e).1
  have hi' : i < ds.length := by rw [← h.length]; exact hi
  obtain ⟨y, hy, hr⟩ := h.get (i := i) (d := ds[i]) (by simp [hi'])
  rw [e] at hy
  cases hy
  exact ⟨ds[i], by simp [hi'], hr⟩
theorem pg_tupK {X : Cx} {K : PySem.W.Frag} {es : List Expr} {k : Nat} {t : TGs} {n : Nat} {pos : Pos} (hK : X.K = K) (hc : X.calm = true) (h : PGs X es t)
    (hn : (assignEach es X.env).length = n := by rfl) (hst : (assignEach es X.env).findIdx? (·.1) = none := by rfl) : PG X (.Tuple es k pos) (gTup K n t) := hK ▸ pg_tup hc h hn hst
/-- nothing but what stands at D -/
def onlyH (D : Addr) (o : HO) : Hp := fun b => if b = D then some o else none
theorem only_same {H : Hp} {D : Addr} {o : HO} (h : H D = some o) : Same (onlyH D o) H := fun b z e => by
  unfold onlyH at e
  by_cases q : b = D
  · rw [if_pos q] at e; cases e; rw [q]; exact h
  · rw [if_neg q] at e; cases e
theorem new_only {H : Hp} {D : Addr} {o : HO} : Same (newH (onlyH D o) H) (cutH (fun _ => none) D H) := fun b z e => by
  obtain ⟨h1, h2⟩ := newH_of e
  have hb : b ≠ D := fun q => by
    unfold onlyH at h1
    rw [if_pos q] at h1; cases h1
  rw [cutH_at hb rfl]; exact h2
theorem old_only {H H3 : Hp} {D D2 : Addr} {o : HO} (hs : Same H H3) (h1 : H D = none) (h2 : H D2 = none) : Same H (cutH (onlyH D o) D2 H3) := fun b z e => by
  rw [cutH_at (ne_of_none e h2) (by unfold onlyH; rw [if_neg (ne_of_none e h1)])]
  exact hs _ _ e
end L2

set_option Elab.async false
set_option linter.all false
set_option maxRecDepth 100000
namespace L2
open PySem PySem.Spec PyProof.Rows

/-! ### exceptions that leave a def -/
/-- the flying exception: its object, its class; all that was there stands in B, frames and the exception's own parts left out -/
def CXR (P : Program) (w : World) : CXT := fun outer H s E e s' =>
  ∃ (ea : Addr) (C a0 : Value) (B : Heap) (H' : Hp), e = .ref ea ∧ s'.os = s.os ∧ AllBare s'.gens ∧ Un (frs outer) [] H H' s.heap s'.heap ∧ HOk P w H' s'.heap ∧
    Heap.FlyingW B outer ea C a0 s'.heap ∧ s.heap.get? ea = none ∧ (∀ b o, s.heap.get? b = some o → b ∉ frs outer → ∃ u, B.get? b = some u) ∧ (∀ b o, H' b = some o → ∃ u, B.get? b = some u) ∧ E C none H'
theorem ObjOk.obj {P : Program} {w : World} {H : Hp} {h : Heap} {a : Addr} {o : HO} (x : ObjOk P w H h a o) : ∃ u, h.get? a = some u := by
  cases o with
  | lst xs => obtain ⟨_, _, _, _, e⟩ := x; exact ⟨_, e⟩
  | tup xs => obtain ⟨_, _, _, ob, e, _⟩ := x; exact ⟨_, e⟩
  | dK kvs => obtain ⟨_, _, _, _, o, _, _, e, _⟩ := x; exact ⟨_, e⟩
  | dT kvs => obtain ⟨_, _, _, _, o, _, _, e, _⟩ := x; exact ⟨_, e⟩
  | set S n => obtain ⟨o, _, _, _, e, _⟩ := x; exact ⟨_, e⟩
  | ins C dx fs => obtain ⟨_, _, _, e, _⟩ := x; exact ⟨_, e⟩
  | own y => exact x
  | xd fs => obtain ⟨_, ⟨_, _, _, e, _⟩, _⟩ := x; exact ⟨_, e⟩
  | rng lo hi => obtain ⟨_, _, _, e⟩ := x; exact ⟨_, e⟩
  | frz ob u => obtain ⟨e, _⟩ := x; exact ⟨_, e⟩
  | tbl ps => exact ⟨_, show h.get? a = some _ from x⟩
  | met f y => exact ⟨_, show h.get? a = some _ from x⟩
  | ext φ => obtain ⟨_, e, _⟩ := x; exact e
/-- the heap goes on, what stands in B stays -/
theorem un_moved {P : Program} {w : World} {l : List Env} {H H' : Hp} {h h1 h2 B : Heap} (u : Un (frs l) [] H H' h h1) (hok : HOk P w H' h1) (s1 : B.StaysIn h1) (s2 : B.StaysIn h2) (ff : h1.FunFrames B l) (sm : h1.UpToSlots h2)
    (b1 : ∀ b o, h.get? b = some o → b ∉ frs l → ∃ u, B.get? b = some u) (b2 : ∀ b o, H' b = some o → ∃ u, B.get? b = some u) : Un (frs l) [] H H' h h2 ∧ HOk P w H' h2 := by
  have same : ∀ {b o}, (∃ v, B.get? b = some v) → h1.get? b = some o → h2.get? b = some o := fun {b o} ⟨v, e⟩ q => by
    have := s1 b v e
    rw [q] at this
    cases this
    exact s2 b _ e
  refine ⟨⟨fun b o q n hb hx => same (b1 b o q hb) (u.keep b o q n hb hx), fun b o q n hb hx => ?_, u.free, fun b o q hx => ?_, u.tups, u.frzs, u.tbls⟩, fun a o e => ?_⟩
  · obtain ⟨sl, e⟩ := u.slot b o q n hb hx
    obtain ⟨_, ob, e2, nf⟩ := ff.mem hb
    rw [e] at e2
    cases e2
    obtain ⟨sl', e3⟩ := sm b _ e nf
    exact ⟨sl', e3⟩
  · by_cases hb : b ∈ frs l
    · obtain ⟨_, ob, e2, nf⟩ := ff.mem hb
      obtain ⟨sl', e3⟩ := sm b _ e2 nf
      exact ⟨_, e3⟩
    · obtain ⟨v, e⟩ := b1 b o q hb
      exact ⟨v, s2 b v e⟩
  · refine (hok a o e).stay (fun b v hb q => same ?_ q) (fun _ q => q) fun _ _ q => q
    rcases hb with rfl | hb
    · exact b2 _ _ e
    · exact b2 _ _ hb

/-- a class of the text that is an exception, straight or not under ValueError -/
structure ExC (K : PySem.W.Frag) (C : Addr) : Prop where
  obj : ∀ {h : Heap}, K.In h → ∃ bm N nm q bs hdct sn sub ab col dd k0 k1 k2 k3 k5 mN, h.get? C = some (excClassObj nm q C N bs bm hdct sn sub ab col dd k0 k1 k2 k3 k5 "ValueError.__new__") ∧ h.Ns N mN ∧ mN "__init__" = none ∧
    OwnTail h [.type "ValueError", .type "Exception", .type "BaseException", .type "object"] bm
theorem exC_of {K : PySem.W.Frag} {C : Addr} (q : PySem.W.excIn K C [.type "ValueError", .type "Exception", .type "BaseException", .type "object"] "ValueError.__new__" = true) : ExC K C := by
  refine ⟨fun {h} XI => ?_⟩
  unfold PySem.W.excIn at q
  split at q
  · rename_i dd cd sl ho
    split at q
    · rename_i C' bm k0 k1 k2 k3 n k5 hm hs
      simp only [Bool.and_eq_true, beq_iff_eq, Bool.not_eq_true'] at q
      obtain ⟨⟨⟨⟨⟨q1, q2⟩, q3⟩, q4⟩, q5⟩, q6⟩ := q
      subst q1 q2
      obtain ⟨nm, bs, mro, ns, qn, hd, sn, sub, ab, col, del⟩ := cd
      dsimp only at hm q3 q5 q6
      subst hm q3
      have hsl : sl = #[k0, k1, k2, k3, some (.builtin "ValueError.__new__"), k5] := by
        obtain ⟨l⟩ := sl
        exact congrArg Array.mk hs
      subst hsl
      exact ⟨bm, ns, nm, qn, bs, hd, sn, sub, ab, col, dd, k0, k1, k2, k3, k5, _, XI _ _ ho, .of_isNs (PySem.W.isNs_of_in XI q5), PySem.W.nsMap_none_of_in XI q5 q6, PySem.W.tail_of_in XI q4⟩
    · cases q
  · cases q

theorem evalArgs_of {M : Model} {A : Around} {EE : Value → Shared → Prop} {s : Shared} {env : Env} {fv : Value} {e₀ : Expr} {rest : List Expr} {cpos : Pos} {Q : Args → Shared → Prop} (he : starEach (e₀ :: rest) env = (false, eval e₀ env) :: starEach rest env)
    (h : wpAny M A (spliced (backTo cpos (starEach (e₀ :: rest) env))) (fun vs s' => Q ⟨vs, []⟩ s') EE s) : wpAny M A (evalArgs fv true (backTo cpos (starEach (e₀ :: rest) env)) []) Q EE s := by
  rw [he] at h ⊢
  exact Calls.evalArgs_plain h
def tRaise (C : Addr) (E : XK) (ta : TA) : TS := fun _ σ H => ta σ H fun vs H1 => vs.length ≤ sizeLine ∧ E (.ref C) none H1
section
variable {P : Program} {w : World} {K : PySem.W.Frag} {mg : Str → Option Value} {base : Heap} {N : List Str} {qual : Str} {scope : Scope} {f : Addr} {cd : Value} {A : Around} {outer : List Env} {s₀ : Shared} {H₀ : Hp} {E : XK}
/-- raise C(e, ..) in a def's body -/
theorem ps_raise {x : Str} {C : Addr} {np cpos pos : Pos} {e₀ : Expr} {rest : List Expr} {ta : TA} (OC : ExC K C) (hm : mg x = some (.ref C)) (hh : A.handled = none) (hg : Gl (cxOf (CXR P w) P w K mg base N qual scope f cd A outer s₀ H₀ E) x)
    (ha : PA (cxOf (CXR P w) P w K mg base N qual scope f cd A outer s₀ H₀ E) (e₀ :: rest) ta) (hd : (x == ("__debug__" : Str)) = false := by decide)
    (he : starEach (e₀ :: rest) (envOfC qual scope s₀.heap.objs.size f cd) = (false, eval e₀ (envOfC qual scope s₀.heap.objs.size f cd)) :: starEach rest (envOfC qual scope s₀.heap.objs.size f cd) := by rfl)
    (hpl : (backTo cpos (starEach rest (envOfC qual scope s₀.heap.objs.size f cd))).any (·.1) = false := by rfl) :
    PS (cxOf (CXR P w) P w K mg base N qual scope f cd A outer s₀ H₀ E) (.Raise (some (.Call (.Name x np) (e₀ :: rest) [] cpos)) none pos) (tRaise C E ta) := by
  intro pins s σ H D I h
  obtain ⟨bm, Nn, nm, q, bs, hdct, sn, sub, ab, col, dd, k0, k1, k2, k3, k5, mN, hC, hN, hni, TL⟩ := OC.obj I.mod.kin
  refine wpAny_Raise_call_subT (C := C) (nm := nm) (q := q) (N := Nn) (bs := bs) (bm := bm) (hdct := hdct) (sn := sn) (sub := sub) (ab := ab) (col := col) (dd := dd) (k0 := k0) (k1 := k1) (k2 := k2) (k3 := k3) (k5 := k5)
    F.excBase_ValueError (mN := mN) (TL.hasType F.excBase_ValueError.hasBase) hh ?_ hni (ld_glob I hg hm ⟨rfl, ?_⟩ hd)
  · show (backTo cpos (starEach (e₀ :: rest) (envOfC qual scope s₀.heap.objs.size f cd))).any (·.1) = false
    rw [he]
    exact hpl
  have z := ha cpos pins s σ H _ I h
  refine evalArgs_of he (thn z fun us s2 ⟨vs, H1, I1, r, hz, hE⟩ => ⟨rfl, by rw [← r.length]; exact hz, I1.bk _ _ hC, hN.keeps I1.bk, TL.keeps I1.bk, fun h' e hx => ?_⟩)
  have hin : ∀ env ∈ (envOfC qual scope s₀.heap.objs.size f cd :: outer), ∀ b, env.frame = some b → b ∈ frs (envOfC qual scope s₀.heap.objs.size f cd :: outer) := fun env he b hb => List.mem_filterMap.mpr ⟨env, he, hb⟩
  have stk : s2.heap.FunFrames base (envOfC qual scope s₀.heap.objs.size f cd :: outer) := I1.stack
  have hl := PySem.W.funFrames_hide stk hin
  refine wpAny_leaves_madeW (base := PySem.W.hideAll s2.heap (frs (envOfC qual scope s₀.heap.objs.size f cd :: outer))) I1.ok.frames rfl (fun b o q => PySem.W.of_hideAll _ q) hl hx fun h'' t x1 x2 x3 x4 => ?_
  have b2 : ∀ b o, H1 b = some o → ∃ u, (PySem.W.hideAll s2.heap (frs (envOfC qual scope s₀.heap.objs.size f cd :: outer))).get? b = some u := fun b o e => by
    obtain ⟨u, hu⟩ := (I1.hok b o e).obj
    refine ⟨u, PySem.W.hideAll_get _ hu fun z => ?_⟩
    rw [I1.stkFree b z] at e
    cases e
  have b1 : ∀ b o, s₀.heap.get? b = some o → b ∉ frs outer → ∃ u, (PySem.W.hideAll s2.heap (frs (envOfC qual scope s₀.heap.objs.size f cd :: outer))).get? b = some u := fun b o e nb => by
    obtain ⟨u, hu⟩ := I1.base.there b o e (fun z => nomatch z)
    refine ⟨u, PySem.W.hideAll_get _ hu fun z => ?_⟩
    rcases List.mem_cons.mp (I1.stkSub b z) with z | z
    · exact absurd z (Nat.ne_of_lt (Nat.lt_of_lt_of_le (Heap.lt_size e) I1.ok.above))
    · exact nb z
  obtain ⟨un, ok⟩ := un_moved (l := outer) I1.base I1.hok (fun b o q => PySem.W.of_hideAll _ q) x1.1 hl.2.2 ((Heap.UpToSlots.of_keeps hx.keeps).trans x4) b1 b2
  refine ⟨e, .ref C, .ref t, _, H1, rfl, I1.os, I1.bare, un, ok, x1, ?_, b1, b2, hE⟩
  cases q : s₀.heap.get? e with
  | none => rfl
  | some o =>
    obtain ⟨u, hu⟩ := I1.base.there e o q (fun z => nomatch z)
    rw [hx.new] at hu
    cases hu
/-- an exception passes through a def's body -/
theorem passR : Passes (CXR P w) (cxOf (CXR P w) P w K mg base N qual scope f cd A outer s₀ H₀ E) E := by
  intro pins σ H s e s' I ⟨ea, C, a0, B, H', e0, os, bare, un, hok, fl, new, b1, b2, hE⟩
  subst e0
  refine wpAny_leaves_onW (base := B) I.ok.frames rfl fl fun h'' x1 x2 => ?_
  obtain ⟨un2, ok2⟩ := un_moved (l := envOfC qual scope s₀.heap.objs.size f cd :: outer) un hok fl.1 x1.1 fl.2.2.1 x2 b1 b2
  have J := I.call (h' := h'') (g' := s'.gens) (d' := s'.drawn) (t' := s'.toks) (ch := []) un2 ok2 bare (fun b z => nomatch z)
  refine ⟨ea, C, a0, B, H', rfl, os.trans I.os, bare, J.base, ok2, x1, ?_, fun b o e nb => ?_, b2, hE⟩
  · cases q : s₀.heap.get? ea with
    | none => rfl
    | some o =>
      obtain ⟨u, hu⟩ := I.base.there ea o q (fun z => nomatch z)
      rw [new] at hu
      cases hu
  · obtain ⟨u, hu⟩ := I.base.there b o e (fun z => nomatch z)
    refine b1 b u hu fun z => ?_
    rcases List.mem_cons.mp (I.stkSub b z) with z | z
    · exact absurd z (Nat.ne_of_lt (Nat.lt_of_lt_of_le (Heap.lt_size e) I.ok.above))
    · exact nb z
end
/-- a def keeps a promise, exceptions among its ends -/
def CalR (P : Program) (w : World) (K : PySem.W.Frag) (mg : Str → Option Value) (base : Heap) (x : Str) (ps : List Str) (k : Nat) (sp : Sp) : Prop :=
  ∃ f fd, mg x = some (.ref f) ∧ PySem.W.keepIn K (.ref f) = true ∧ Binds K fd ps [] ∧ FnOk P w K mg base (CXR P w) k f fd ps sp
theorem calR_of {P : Program} {w : World} {K : PySem.W.Frag} {mg : Str → Option Value} {base : Heap} {x : Str} {st : Stmt} {N ps : List Str} {k : Nat} {sp : Sp} (F : Fn0 K mg x st) (S : FnScope N ps (defScope st))
    (hb : ∀ (kV doc pm : Value) (an : Option Addr) (cdv ct : Value) (us : List Value), us.length = ps.length → bindArgs (PySem.W.fnOf x x (defArgs st) (defBody st) (defScope st) .none kV doc pm an cdv ct) ⟨us, []⟩ = pure (ps.zip us))
    (len : ∀ vs H Q E, sp vs H Q E → vs.length = ps.length)
    (hbody : ∀ (f : Addr) (cdv : Value) (A : Around) (outer : List Env) (s : Shared) (H : Hp) (vs : List V) (Q : VK) (E : XK), Room k (A.deeper (envOfC x (defScope st) s.heap.objs.size f cdv)) → sp vs H Q E →
      ∃ t, PSs (cxOf (CXR P w) P w K mg base N x (defScope st) f cdv A outer s H E) (defBody st) t ∧ t { nx := fun _ H' => Q .non H', rt := Q } (start N vs) H) : CalR P w K mg base x ps (k + 1) sp := by
  obtain ⟨f, fd, F, m⟩ := F
  refine ⟨f, fd, m, F.kp, F.binds hb, ?_⟩
  obtain ⟨oc, od, kV, doc, pm, an, cdv, ct, osl, rfl, lk, hcd⟩ := F.ex
  exact fn_of lk hcd S len fun A outer s H vs Q E hr hsp => hbody f cdv A outer s H vs Q E hr hsp

/-! ### an except suite -/
abbrev Cx.suite (X : Cx) (e : Value) : Cx := { X with A := X.A.mark (some e), calm := false, xe := fun _ _ => False }
section
variable {X : Cx} {pins : List (Addr × Obj)} {σ : List (Option V)} {H : Hp} {s : Shared}
theorem Inv.suite (I : Inv X pins σ H s) (e : Value) : Inv (X.suite e) pins σ H s :=
  ⟨⟨I.ok.mod, I.ok.kind, I.ok.glob, I.ok.blt, I.ok.above, I.ok.inj, I.ok.has, I.ok.cab, (fun z => nomatch z), I.ok.frames, I.ok.stk, I.ok.exf, I.ok.bs, I.ok.bsz, I.ok.noex, I.ok.exfs, I.ok.funs, I.ok.frf⟩, I.os, I.bare, I.base, I.loc, I.cell, I.free, I.freeC, I.pin, I.hok, I.len⟩
theorem Inv.unsuite {e : Value} (J : Inv (X.suite e) pins σ H s) (ok : X.Ok) : Inv X pins σ H s := ⟨ok, J.os, J.bare, J.base, J.loc, J.cell, J.free, J.freeC, J.pin, J.hok, J.len⟩
/-- an exception's object, once it is caught -/
def exO (C : Value) (a : Addr) : HO := .ext fun h => ∃ o, h.get? a = some o ∧ o.cls = C
theorem un_exc {P : Program} {w : World} {fs : List Addr} {H H' : Hp} {h h2 : Heap} {ea : Addr} {C : Value} (u : Un fs [] H H' h h2) (hok : HOk P w H' h2) (new : h.get? ea = none) (hn : H' ea = none) (hob : ∃ o, h2.get? ea = some o ∧ o.cls = C) :
    Un fs [] H (upd H' ea (exO C ea)) h h2 ∧ HOk P w (upd H' ea (exO C ea)) h2 := by
  have ne : ∀ {b o}, H' b = some o → b ≠ ea := fun {b o} q z => by rw [z, hn] at q; cases q
  have ne' : ∀ {b o}, h.get? b = some o → b ≠ ea := fun {b o} q z => by rw [z, new] at q; cases q
  refine ⟨⟨u.keep, u.slot, fun b o q n hx => ?_, u.there, fun b xs q => ?_, fun b o v q => ?_, fun b ps q => ?_⟩, fun b o q => ?_⟩
  · rw [upd_ne (ne' q)]; exact u.free b o q n hx
  · have z := u.tups b xs q
    rw [upd_ne (ne z)]; exact z
  · have z := u.frzs b o v q
    rw [upd_ne (ne z)]; exact z
  · obtain ⟨m, z⟩ := u.tbls b ps q
    exact ⟨m, by rw [upd_ne (ne z)]; exact z⟩
  · by_cases e : b = ea
    · subst e
      rw [upd_same] at q
      cases q
      obtain ⟨ob, e1, e2⟩ := hob
      exact ⟨⟨ob, e1, e2⟩, ⟨ob, e1⟩, fun h1 h2 ⟨o, a, c⟩ k => ⟨o, k o a, c⟩⟩
    · rw [upd_ne e] at q
      exact (hok b o q).stay (fun _ _ _ z => z) (fun c z => by rw [upd_ne (ne z)]; exact z) fun c xs z => by rw [upd_ne (ne z)]; exact z
/-- behind the suite the exception's name goes -/
theorem goes_ok {M : Model} {A : Around} {EE : Value → Shared → Prop} {n : Str} {pos : Pos} {i : Nat} {Q : Unit → Shared → Prop} (I : Inv X pins σ H s) (hN : X.N.Nodup) (hi : X.N[i]? = some n) (hk : X.env.scope.names.lookup n = some .local)
    (h : ∀ s', Inv X pins (σ.set i none) H s' → Q () s') : wpAny M A (do bindName X.env n .none; unbindBehindTheSuite X.env n pos) Q EE s := by
  obtain ⟨m, hn, hl⟩ := id I.loc
  have hcls : (X.env.scope.kind == .class || (X.env.scope.kind == .module && X.env.locals != X.env.globals)) = false := by rw [I.ok.kind]; rfl
  have hiσ : i < σ.length := by rw [I.len]; exact (List.getElem?_eq_some_iff.mp hi).1
  have cne := I.cne
  refine wpAny_nameGoes_keeps hk hn hcls fun h' v hn' hs => ?_
  obtain ⟨oL, _, _, hoL, _⟩ := id hn
  have old : ∀ {b o}, X.s₀.heap.get? b = some o → h'.get? b = s.heap.get? b := fun {b o} e => hs.2 b (Nat.ne_of_lt (Nat.lt_of_lt_of_le (Heap.lt_size e) I.ok.above))
  refine h _ ⟨I.ok, I.os, I.bare, ⟨fun b o e n hb hx => (old e).trans (I.base.keep b o e n hb hx), fun b o e n hb hx => ?_, I.base.free, fun b o e hx => ?_, I.base.tups, I.base.frzs, I.base.tbls⟩, ⟨_, hn', fun j y v' e1 e2 e3 => ?_⟩, fun y c e => ?_, I.free, I.freeC, fun p hp => ?_, fun b ob e => ?_, by simpa using I.len⟩
  · obtain ⟨sl, e1⟩ := I.base.slot b o e n hb hx
    exact ⟨sl, (old e).trans e1⟩
  · obtain ⟨o', e1⟩ := I.base.there b o e hx
    exact ⟨o', (old e).trans e1⟩
  · by_cases hj : j = i
    · subst hj
      rw [List.getElem?_set_self hiσ] at e2
      cases e2
    · rw [List.getElem?_set_ne (Ne.symm hj)] at e2
      obtain ⟨u', r', q⟩ := hl j y v' e1 e2 e3
      refine ⟨u', r', ?_⟩
      rcases q with ⟨k, e⟩ | ⟨k, c, e, z⟩
      · refine .inl ⟨k, ?_⟩
        have : y ≠ n := fun e => hj (nodup_ix hN e1 (e ▸ hi))
        simp [this, e]
      · exact .inr ⟨k, c, e, z.sameBut hs (cne y c e)⟩
  · obtain ⟨w', z⟩ := I.cell y c e
    exact ⟨w', z.sameBut hs (cne y c e)⟩
  · obtain ⟨e, n, ne, nf, d⟩ := I.pin p hp
    exact ⟨(hs.2 p.1 ne).trans e, n, ne, nf, d⟩
  · refine (I.hok b ob e).stay (fun c w' hc q => (hs.2 c ?_).trans q) (fun _ q => q) fun _ _ q => q
    intro z
    have z2 := I.free
    rw [← z] at z2
    rcases hc with hc | hc
    · rw [hc, e] at z2; cases z2
    · rw [hc] at z2; cases z2
end
/-- what a handler's class must be -/
structure HnC (K : PySem.W.Frag) (C : Addr) : Prop where
  ty : PySem.W.typeIn K (.ref C) = some (.type "type")
  cl : (PySem.W.clsIn K C).isSome = true
  ex : PySem.W.mroIn K C (.type "BaseException") = some true
theorem looks_isType {K : PySem.W.Frag} {M : Model} {h : Heap} {C : Addr} (X : K.In h) (e : (PySem.W.clsIn K C).isSome = true) : PySem.W.Looks M h (isType (.ref C)) true := by
  unfold PySem.W.clsIn at e
  split at e
  · rename_i ho
    intro A' Q' E' s' k q
    unfold isType loadHead
    exact wpAny_bind (wpAny_loadPart (k _ _ (X _ _ ho)) (wpAny_pure q))
  · cases e
theorem exc_matches {K : PySem.W.Frag} {prog : Program} {w : World} {A : Around} {EE : Value → Shared → Prop} {s : Shared} {ea C Py : Addr} {Q : Bool → Shared → Prop} (X : K.In s.heap) (HC : HnC K Py) (hsub : PySem.W.mroIn K C (.ref Py) = some true)
    (ho : ∃ o, s.heap.get? ea = some o ∧ o.cls = .ref C) (h : Q true s) : wpAny (model prog w) A (excMatches (.ref ea) (.ref Py)) Q EE s := by
  obtain ⟨hh, g, d, t, os⟩ := s
  obtain ⟨ob, ho, hc⟩ := ho
  have L1 := PySem.W.looks_typeIn (M := model prog w) X HC.ty
  have L2 := looks_isType (M := model prog w) X HC.cl
  have L3 := PySem.W.looks_mroIn (M := model prog w) X HC.ex
  have L4 : PySem.W.Looks (model prog w) hh (typeOf (.ref ea)) (.ref C) := hc ▸ (PySem.W.Looks.ld ho).andThen .now
  have L5 := PySem.W.looks_mroIn (M := model prog w) X hsub
  have L6 : PySem.W.Looks (model prog w) hh (isSubtype (.type "type") (.type "tuple")) false := PySem.W.Looks.of_pure tc_notTuple
  unfold excMatches isInstance isExcClass
  repeat lk
  exact h

def Ends.unb (D : Ends) (i : Nat) : Ends := { nx := fun σ H => D.nx (σ.set i none) H, rt := D.rt, bk := fun σ H => D.bk (σ.set i none) H, ct := fun σ H => D.ct (σ.set i none) H }
/-- try: f(..) (which raises); except P as n: suite -/
def tTry (K : PySem.W.Frag) (Py : Addr) (sp : Sp) (ta : TA) (i : Nat) (ts : TS) : TS := fun D σ H => ta σ H fun vs H1 => sp vs H1 (fun _ _ => False) fun c _ H2 =>
  ∃ C, c = .ref C ∧ PySem.W.mroIn K C (.ref Py) = some true ∧ ∀ ea, H2 ea = none → ts (D.unb i) (σ.set i (some (.ref ea))) (upd H2 ea (exO (.ref C) ea))
/-- a call that raises, whatever is wanted of exceptions -/
theorem run_raises {X : Cx} {x : Str} {ps : List Str} {k : Nat} {sp : Sp} {E : XK} {e₀ : Expr} {es : List Expr} {ta : TA} {p cpos : Pos} {pins : List (Addr × Obj)} {σ : St} {H : Hp} {s : Shared} {EE : Value → Shared → Prop} {Q : Value → Shared → Prop}
    (C : CalR X.prog X.w X.K X.mg X.base x ps k sp) (hr : Room k X.A) (hg : Gl X x) (ha : PA (X.wish EE) (e₀ :: es) ta) (I : Inv X pins σ H s) (h : ta σ H fun vs H1 => sp vs H1 (fun _ _ => False) E)
    (hE : ∀ H1 s1 e s', Inv X pins σ H1 s1 → CXR X.prog X.w X.stack H1 s1 E e s' → EE e s') (hdb : (x == ("__debug__" : Str)) = false) (he : starEach (e₀ :: es) X.env = (false, eval e₀ X.env) :: starEach es X.env) (hpl : (backTo cpos (starEach es X.env)).any (·.1) = false) :
    wpAny (model X.prog X.w) X.A (eval (.Call (.Name x p) (e₀ :: es) [] cpos) X.env) Q EE s := by
  obtain ⟨f, fd, hm, hkp, hb, F⟩ := C
  refine wpAny_Call_Name_kw (ld_glob I hg hm ?_ hdb)
  refine PySem.W.callWith_K (h₀ := X.base) I.ok.mod.kin hkp ?_ he hpl
  have z := ha cpos pins s σ H _ (I.wish EE) h
  refine thn z fun us s1 z1 => ?_
  obtain ⟨vs, H1, I1, r, q⟩ := z1
  refine ⟨I1.kIn, ?_⟩
  replace I1 : Inv X pins σ H1 s1 := I1.unwish
  have r2 : Vals (vs ++ []) (us ++ []) := r.append .nil
  have q2 : sp (vs ++ []) H1 (fun _ _ => False) E := by rw [List.append_nil]; exact q
  have hl : (us ++ []).length = ps.length := by rw [← r2.length]; exact F.len _ _ _ _ q2
  refine wpAny_call (codeAny_mono (F.run X.A X.stack s1 H1 ⟨us, []⟩ (us ++ []) (vs ++ []) _ _ hr I1.env0 (hb s1 us I1.kIn hl) r2 q2) fun res s' hq => ?_)
  cases res with
  | ok fl =>
    cases fl with
    | ret u => obtain ⟨_, _, _, _, _, _, _, z⟩ := hq; exact z.elim
    | next => exact False.elim hq
    | brk => exact False.elim hq
    | cont => exact False.elim hq
  | error e => exact hE H1 s1 e s' I1 hq
theorem ps_try {X : Cx} {x y n : Str} {ps : List Str} {k i : Nat} {sp : Sp} {e₀ : Expr} {es : List Expr} {ta : TA} {more suite : List Stmt} {b₀ : Stmt} {ts : TS} {p cpos epos np hpos pos : Pos} {Py : Addr}
    (C : CalR X.prog X.w X.K X.mg X.base x ps k sp) (hr : Room k X.A) (hg : Gl X x) (hst : X.stack = X.env :: X.outer) (hfr : X.env.frame = some X.env.locals) (hy : X.mg y = some (.ref Py)) (HC : HnC X.K Py) (hgy : Gl X y)
    (hN : X.N.Nodup) (hi : X.N[i]? = some n) (hn : X.env.scope.names.lookup n = some .local) (ha : ∀ EE, PA (X.wish EE) (e₀ :: es) ta) (hs : ∀ e, PSs (X.suite e) (b₀ :: suite) ts)
    (hdb : (x == ("__debug__" : Str)) = false := by decide) (hdy : (y == ("__debug__" : Str)) = false := by decide) (hsw : swapsWith (.Call (.Name x p) (e₀ :: es) [] cpos) none epos.line X.env = pure false := by rfl)
    (he : starEach (e₀ :: es) X.env = (false, eval e₀ X.env) :: starEach es X.env := by rfl) (hpl : (backTo cpos (starEach es X.env)).any (·.1) = false := by rfl) :
    PS X (.Try (.Expr (.Call (.Name x p) (e₀ :: es) [] cpos) epos :: more) [.ExceptHandler (some (.Name y np)) (some n) (b₀ :: suite) hpos] [] [] pos) (tTry X.K Py sp ta i ts) := by
  intro pins s σ H D I h
  refine wpAny_Try_except (wpAny_execs_cons (wpAny_Expr_any (run_raises C hr hg (ha _) I h ?_ hdb he hpl) I.quiet hsw))
  intro H1 s1 e s' I1 hq
  · obtain ⟨ea, C0, a0, B, H', rfl, os, bare, un, hok, fl, new, b1, b2, C, rfl, hsub, hts⟩ := hq
    have fl' : Heap.FlyingW B (X.env :: X.outer) ea (.ref C) a0 s'.heap := hst ▸ fl
    have hn' : H' ea = none := by
      cases z : H' ea with
      | none => rfl
      | some o =>
        obtain ⟨u, hu⟩ := b2 ea o z
        rw [fl.2.1] at hu
        cases hu
    refine wpAny_looks_onW (L := X.env.locals) (by rw [I.ok.frames, hst]) hfr fl' fun h₄ hd₄ sm₄ => ?_
    refine wpAny_landsW hd₄ fun h₅ fl₅ sm₅ => ?_
    obtain ⟨un5, ok5⟩ := un_moved un hok fl.1 fl₅.1 fl.2.2.1 (sm₄.trans sm₅) b1 b2
    have I5 : Inv X pins σ H' { s' with heap := h₅ } := I1.call' (s' := { s' with heap := h₅ }) os un5 ok5 bare (fun b z => nomatch z)
    refine wpAny_handleBy_cons (codeAny_handlers_test ?_) (by intro q; cases q)
    refine ld_glob (X := X.suite (.ref ea)) (I5.suite _) hgy hy ?_ hdy
    refine exc_matches (K := X.K) I5.kIn HC hsub fl₅.there ?_
    refine codeAny_handlers_suite_as ?_
    refine lands_againW fl₅ fun h₆ fl₆ sm₆ => ?_
    obtain ⟨un6, ok6⟩ := un_moved un hok fl.1 fl₆.1 fl.2.2.1 ((sm₄.trans sm₅).trans sm₆) b1 b2
    obtain ⟨un7, ok7⟩ := un_exc un6 ok6 new hn' fl₆.there
    have I7 : Inv X pins σ (upd H' ea (exO (.ref C) ea)) { s' with heap := h₆ } := I1.call' (s' := { s' with heap := h₆ }) os un7 ok7 bare (fun b z => nomatch z)
    refine store_ok (X := X.suite (.ref ea)) (I7.suite _) hN hi (.inl hn) (v := .ref ea) rfl (fun s₈ I8 => ?_) (.inr hn)
    refine wpAny_mono (hs (.ref ea) pins s₈ _ _ (D.unb i) I8 (hts ea hn')) (fun fw s₉ q => ?_) fun _ _ z => z.elim
    show wpAny _ _ (do bindName X.env n .none; unbindBehindTheSuite X.env n hpos) _ _ s₉
    cases fw with
    | next => obtain ⟨σ', H9, J, d⟩ := q; exact goes_ok (J.unsuite I.ok) hN hi hn fun s' J' => ⟨_, _, J', d⟩
    | brk => obtain ⟨σ', H9, J, d⟩ := q; exact goes_ok (J.unsuite I.ok) hN hi hn fun s' J' => ⟨_, _, J', d⟩
    | cont => obtain ⟨σ', H9, J, d⟩ := q; exact goes_ok (J.unsuite I.ok) hN hi hn fun s' J' => ⟨_, _, J', d⟩
    | ret u => obtain ⟨v, σ', H9, J, rv, d⟩ := q; exact goes_ok (J.unsuite I.ok) hN hi hn fun s' J' => ⟨v, _, _, J', rv, d⟩

/-! ### a def that is called within an except suite -/
abbrev calmed (A : Around) : Around := { A with handled := none }
structure FnOkH (P : Program) (w : World) (K : PySem.W.Frag) (mg : Str → Option Value) (base : Heap) (k : Nat) (f : Addr) (fd : FuncData) (ps : List Str) (sp : Sp) : Prop where
  len : ∀ vs H Q E, sp vs H Q E → vs.length = ps.length
  run : ∀ (A : Around) (outer : List Env) (s : Shared) (H : Hp) (args : Args) (us : List Value) (vs : List V) (Q : VK) (E : XK), Room k (calmed A) → Env0 P w K mg base A outer s H → BindsTo s fd args (ps.zip us) → Vals vs us → sp vs H Q E →
    codeAny (model P w) A (.call (.ref f) args) (CR CX0 outer P w H s Q E) s
abbrev cxOfH (P : Program) (w : World) (K : PySem.W.Frag) (mg : Str → Option Value) (base : Heap) (N : List Str) (qual : Str) (scope : Scope) (f : Addr) (cd : Value) (A : Around) (outer : List Env) (s : Shared) (H : Hp) (E : XK) : Cx :=
  { cxOf CX0 P w K mg base N qual scope f cd A outer s H E with calm := false, xe := fun _ _ => False }
theorem fnH_of {P : Program} {w : World} {K : PySem.W.Frag} {mg : Str → Option Value} {base : Heap} {k : Nat} {f : Addr} {name qual : Str} {params : Arguments} {body : List Stmt} {scope : Scope} {dV kV doc pm cdv ct oc : Value} {an od : Option Addr}
    {osl : Array (Option Value)} {N ps : List Str} {sp : Sp} (lk : K.lookup f = some ⟨oc, od, .func (PySem.W.fnOf name qual params body scope dV kV doc pm an cdv ct), osl⟩) (hcd : PySem.W.codeIn K cdv qual = true) (S : FnScope N ps scope)
    (len : ∀ vs H Q E, sp vs H Q E → vs.length = ps.length)
    (hbody : ∀ (A : Around) (outer : List Env) (s : Shared) (H : Hp) (vs : List V) (Q : VK) (E : XK), Room k (calmed (A.deeper (envOfC qual scope s.heap.objs.size f cdv))) → sp vs H Q E →
      ∃ t, PSs (cxOfH P w K mg base N qual scope f cdv A outer s H E) body t ∧ t { nx := fun _ H' => Q .non H', rt := Q } (start N vs) H) :
    FnOkH P w K mg base (k + 1) f (PySem.W.fnOf name qual params body scope dV kV doc pm an cdv ct) ps sp := by
  refine ⟨len, fun A outer s H args us vs Q E hr e0 hb r hsp => ?_⟩
  have hl := len _ _ _ _ hsp
  have KX : K.In s.heap := e0.mod.kin.keeps fun b o e => (e0.bs b o e).1
  have lim : s.heap.NoLimit := e0.mod.nolimit.keeps fun b o e => (e0.bs b o e).1
  have hkind : ∀ y ∈ ps.zip us, scope.names.lookup y.1 = some .local ∨ (scope.names.lookup y.1 = some .cell ∧ ((cellsFrom (s.heap.objs.size + 1) scope.names []).lookup y.1).isSome = true) := fun ⟨n, v⟩ hy => by
    rcases S.par n (List.of_mem_zip hy).1 with q | q
    · exact .inl q
    · exact .inr ⟨q, PySem.W.cellsFrom_some _ _ _ (.inl q)⟩
  refine codeAny_call_function hr.depth (KX _ _ lk) rfl S.co S.gen rfl (PySem.W.codeRec_of KX hcd) (hb _ _ _ _ ?_)
  refine wpAny_newFunctionEnv_cells S.kind hkind fun env he s1 x => ?_
  subst he
  refine ⟨lim.keeps x.toInCall.keep, codeAny_func ?_⟩
  obtain ⟨t, ht, hq⟩ := hbody A outer s H vs Q E (hr.deeper _) hsp
  have I0 : Inv (cxOf CX0 P w K mg base N qual scope f cdv (calmed A) outer s H E) [] (start N vs) H s1 := inv_start S rfl ⟨e0.frames, e0.mod, e0.bs, e0.bsz, e0.funs, e0.frf, e0.hok, e0.bare⟩ hl r x
  have I : Inv (cxOfH P w K mg base N qual scope f cdv A outer s H E) [] (start N vs) H s1 :=
    ⟨⟨I0.ok.mod, I0.ok.kind, I0.ok.glob, I0.ok.blt, I0.ok.above, I0.ok.inj, I0.ok.has, I0.ok.cab, (fun z => nomatch z), I0.ok.frames, I0.ok.stk, I0.ok.exf, I0.ok.bs, I0.ok.bsz, I0.ok.noex, I0.ok.exfs, I0.ok.funs, I0.ok.frf⟩, I0.os, I0.bare, I0.base, I0.loc, I0.cell, I0.free, I0.freeC, I0.pin, I0.hok, I0.len⟩
  refine wpAny_mono (ht [] s1 (start N vs) H _ I hq) (fun fl s' hs => ?_) fun e s' hs => hs.elim
  have fin : ∀ {σ' : St} {H' : Hp} {v : V} {u : Value}, Inv (cxOfH P w K mg base N qual scope f cdv A outer s H E) [] σ' H' s' → RelV v u → Q v H' → CE outer P w H s Q u s' :=
    fun {σ' H' v u} J rv q => ⟨v, H', J.os, J.bare, J.base, J.hok, rv, q⟩
  cases fl with
  | ret u =>
    obtain ⟨v, σ', H', J, rv, q⟩ := hs
    exact fin J rv q
  | next =>
    obtain ⟨σ', H', J, q⟩ := hs
    exact fin (v := V.non) (u := Value.none) J rfl q
  | brk =>
    obtain ⟨_, _, _, q⟩ := hs
    exact False.elim q
  | cont =>
    obtain ⟨_, _, _, q⟩ := hs
    exact False.elim q
def CalH (P : Program) (w : World) (K : PySem.W.Frag) (mg : Str → Option Value) (base : Heap) (x : Str) (ps : List Str) (k : Nat) (sp : Sp) : Prop :=
  ∃ f fd, mg x = some (.ref f) ∧ PySem.W.keepIn K (.ref f) = true ∧ Binds K fd ps [] ∧ FnOkH P w K mg base k f fd ps sp
theorem calH_of {P : Program} {w : World} {K : PySem.W.Frag} {mg : Str → Option Value} {base : Heap} {x : Str} {st : Stmt} {N ps : List Str} {k : Nat} {sp : Sp} (F : Fn0 K mg x st) (S : FnScope N ps (defScope st))
    (hb : ∀ (kV doc pm : Value) (an : Option Addr) (cdv ct : Value) (us : List Value), us.length = ps.length → bindArgs (PySem.W.fnOf x x (defArgs st) (defBody st) (defScope st) .none kV doc pm an cdv ct) ⟨us, []⟩ = pure (ps.zip us))
    (len : ∀ vs H Q E, sp vs H Q E → vs.length = ps.length)
    (hbody : ∀ (f : Addr) (cdv : Value) (A : Around) (outer : List Env) (s : Shared) (H : Hp) (vs : List V) (Q : VK) (E : XK), Room k (calmed (A.deeper (envOfC x (defScope st) s.heap.objs.size f cdv))) → sp vs H Q E →
      ∃ t, PSs (cxOfH P w K mg base N x (defScope st) f cdv A outer s H E) (defBody st) t ∧ t { nx := fun _ H' => Q .non H', rt := Q } (start N vs) H) : CalH P w K mg base x ps (k + 1) sp := by
  obtain ⟨f, fd, F, m⟩ := F
  refine ⟨f, fd, m, F.kp, F.binds hb, ?_⟩
  obtain ⟨oc, od, kV, doc, pm, an, cdv, ct, osl, rfl, lk, hcd⟩ := F.ex
  exact fnH_of lk hcd S len fun A outer s H vs Q E hr hsp => hbody f cdv A outer s H vs Q E hr hsp
theorem pe_callH {X : Cx} {x : Str} {ps : List Str} {k : Nat} {sp : Sp} {e : Expr} {es : List Expr} {t : TA} {p pos : Pos} (C : CalH X.prog X.w X.K X.mg X.base x ps k sp) (hr : Room k (calmed X.A)) (hg : Gl X x) (ha : PA X (e :: es) t) (hdb : (x == ("__debug__" : Str)) = false := by decide)
    (he : starEach (e :: es) X.env = (false, eval e X.env) :: starEach es X.env := by rfl) (hpl : (backTo pos (starEach es X.env)).any (·.1) = false := by rfl) : PE X (.Call (.Name x p) (e :: es) [] pos) (tCall sp [] E0 t) := by
  intro pins s σ H Q I h
  obtain ⟨f, fd, hm, hkp, hb, F⟩ := C
  refine wpAny_Call_Name_kw (ld_glob I hg hm ?_ hdb)
  refine PySem.W.callWith_K (h₀ := X.base) I.ok.mod.kin hkp (thn (ha pos pins s σ H _ I h) fun us s1 ⟨vs, H1, I1, r, q⟩ => ⟨I1.kIn, ?_⟩) he hpl
  have r2 : Vals (vs ++ []) (us ++ []) := r.append .nil
  have hl : (us ++ []).length = ps.length := by rw [← r2.length]; exact F.len _ _ _ _ q
  refine wpAny_call (codeAny_mono (F.run X.A X.stack s1 H1 ⟨us, []⟩ (us ++ []) (vs ++ []) _ _ hr I1.env0 (hb s1 us I1.kIn hl) r2 q) fun res s' hq => ?_)
  cases res with
  | error e => exact False.elim hq
  | ok fl =>
    cases fl with
    | ret u => exact I1.after hq
    | next => exact False.elim hq
    | brk => exact False.elim hq
    | cont => exact False.elim hq
end L2

set_option Elab.async false
set_option linter.all false
set_option maxRecDepth 100000
namespace L2
open PySem PySem.Spec PyProof.Rows
theorem bt_ValueError : bootBuiltins "ValueError" = some (.type "ValueError") := by decide +kernel
theorem Room.suite {k : Nat} {A : Around} {h : Option Value} (r : Room k A) : Room k (calmed (A.mark h)) := ⟨rfl, r.dp, r.un⟩
section
variable {X : Cx} {x : Str} {ps : List Str} {k : Nat} {sp : Sp} {e : Expr} {es : List Expr} {t : TA} {p pos : Pos} {E : XK}
theorem pe_callR (C : CalR X.prog X.w X.K X.mg X.base x ps k sp) (hr : Room k X.A) (hx : Passes (CXR X.prog X.w) X E) (hg : Gl X x) (ha : PA X (e :: es) t) (hs : plainArgs (e :: es) = true := by rfl) (hdb : (x == ("__debug__" : Str)) = false := by decide) :
    PE X (.Call (.Name x p) (e :: es) [] pos) (tCall sp [] E t) := by
  obtain ⟨f, fd, m, kp, b, F⟩ := C
  have h' : notStar e = true ∧ plainArgs es = true := by simpa [plainArgs] using hs
  exact pe_call F hr hg m kp b .nil hx ha hdb (starEach_plain h'.1) (backTo_plain h'.2)
end
/-! ### isinstance of an exception that was caught -/
/-- what must stand of its class, so that its __class__ is found -/
structure KitE (K : PySem.W.Frag) (C : Addr) : Prop where
  cl : (PySem.W.clsIn K C).isSome = true
  ga : PySem.W.findIn K (.ref C) "__getattribute__" = some (some (.builtin "BaseException.__getattribute__"))
  gh : PySem.W.findIn K (.ref C) "__getattr__" = some none
  at_ : PySem.W.findIn K (.ref C) "__class__" = some (some (.builtin "object.__class__"))
  get : PySem.W.specialIn K (.builtin "object.__class__") "__get__" = some (some (.builtin "getset_descriptor.__get__"))
  set : PySem.W.takesIn K (.builtin "object.__class__") = some true
  obj : PySem.W.mroIn K C (.type "object") = some true
  exc : PySem.W.mroIn K C (.type "BaseException") = some true
def ObjC (x : Addr) (D : Value) (h : Heap) : Prop := ∃ o, h.get? x = some o ∧ o.cls = D
theorem ObjC.ty {x : Addr} {D : Value} {M : Model} {h : Heap} (p : ObjC x D h) : PySem.W.Looks M h (typeOf (.ref x)) D := by
  obtain ⟨o, h1, h2⟩ := p
  exact h2 ▸ (PySem.W.Looks.ld h1).andThen .now
theorem gs_class {K : PySem.W.Frag} {prog : Program} {w : World} {A : Around} {R : Result → Shared → Prop} {s : Shared} {x D : Addr} {tp : Value} (KE : KitE K D) (X : K.In s.heap) (p : ObjC x (.ref D) s.heap) (h : R (.ok (.ret (.ref D))) s) :
    codeAny (model prog w) A (.call (.builtin "getset_descriptor.__get__") ⟨[.builtin "object.__class__", .ref x, tp], []⟩) R s := by
  obtain ⟨hp, gs, dr, tks, oss⟩ := s
  have T0 := p.ty (M := model prog w)
  have T6 := PySem.W.looks_mroIn (M := model prog w) X KE.obj
  refine codeAny_call_builtin PySem.W.KF.slot_gs.plain PySem.W.KF.entry_gs (PySem.W.KF.slot_gs.check _ _ _ _ _ _ _ _ PySem.W.KF.type_class (PySem.W.KF.args_gs _ _ _) ?_)
  unfold Builtin.«getset_descriptor.__get__» Builtin.Getset_descriptor.descrGet
  rw [PySem.W.dga_obj]
  refine wpAny_bind (wpAny_pure ?_)
  unfold Builtin.Getset_descriptor.descrGetter Builtin.Getset_descriptor.descrCheckInstance Builtin.Getset_descriptor.descrNameAndClass isInstance
  simp only [PySem.W.KF.owner_class]
  repeat lk
  refine ⟨Code.quiet_builtin _ (by decide +kernel), codeAny_builtin PySem.W.KF.entry_class ?_⟩
  unfold Builtin.«object.__class__»
  unfold shownTypeOf
  repeat lk
  exact h
theorem ga_class {K : PySem.W.Frag} {prog : Program} {w : World} {A : Around} {R : Result → Shared → Prop} {s : Shared} {x D : Addr} {tk : Tok} (KE : KitE K D) (X : K.In s.heap) (p : ObjC x (.ref D) s.heap) (h : R (.ok (.ret (.ref D))) s) :
    codeAny (model prog w) A (.call (.builtin "BaseException.__getattribute__") ⟨[.ref x, .str "__class__" tk], []⟩) R s := by
  obtain ⟨hp, gs, dr, tks, oss⟩ := s
  have T0 := p.ty (M := model prog w)
  have T3 := PySem.W.looks_findIn (M := model prog w) X KE.at_
  have T4 := PySem.W.looks_specialIn (M := model prog w) X KE.get
  have T5 := PySem.W.looks_takesIn (M := model prog w) X KE.set
  have T7 := PySem.W.looks_mroIn (M := model prog w) X KE.exc
  have kd : builtinKind "BaseException.__getattribute__" = some .slot := by decide +kernel
  have spl : splitId "BaseException.__getattribute__" = some ("BaseException", "__getattribute__") := by decide +kernel
  have ha := F.args_bexc_ga (.ref x) (.str "__class__" tk)
  refine codeAny_call_builtin F.excAttr_ValueError.ga.plain F.entry_bexc_ga ?_
  simp only [checkBuiltinCall, kd, spl]
  unfold isInstance
  repeat (first | with_reducible refine wpAny_call (gs_class KE X p ?_) | lk)
  exact h
theorem exc_class {K : PySem.W.Frag} {prog : Program} {w : World} {A : Around} {EE : Value → Shared → Prop} {s : Shared} {x D : Addr} {Q : Option Value → Shared → Prop} (KE : KitE K D) (X : K.In s.heap) (p : ObjC x (.ref D) s.heap) (h : Q (some (.ref D)) { s with toks := s.toks + 1 }) :
    wpAny (model prog w) A (getAttr? (.ref x) "__class__") Q EE s := by
  obtain ⟨hp, gs, dr, tks, oss⟩ := s
  have T0 := p.ty (M := model prog w)
  have T1 := PySem.W.looks_findIn (M := model prog w) X KE.ga
  have T2 := PySem.W.looks_findIn (M := model prog w) X KE.gh
  have f3 := F.excAttr_ValueError.ga.bind (.ref x)
  have f5 : (Value.builtin "BaseException.__getattribute__" == Value.builtin "object.__getattribute__") = false := by decide +kernel
  have f4 : ¬ (onTheHeap (Value.ref D) && Value.builtin "BaseException.__getattribute__" == Value.builtin "object.__getattribute__") = true := by rw [f5, Bool.and_false]; exact Bool.false_ne_true
  unfold getAttr? getAttrBy? getAttrBy
  refine wpAny_bind (wpAny_mkText (wpAny_bind (wpAny_attempt ?_)))
  refine wpAny_holding (wpAny_bind (T0.at (wpAny_bind (T1.at ?_))))
  dsimp only
  rw [if_neg f4]
  unfold getAttrByItsOwn
  refine wpAny_bind ?_
  show wpAny _ _ (typeLookup (Value.ref D) "__getattr__") _ _ _
  refine T2.at ?_
  refine wpAny_bind (wpAny_attempt (wpAny_holding ?_))
  show wpAny _ _ (boundAndCalled _ _ _) _ _ _
  unfold boundAndCalled
  rw [f3]
  refine wpAny_bind (wpAny_pure ?_)
  refine wpAny_call (ga_class KE X p ?_)
  refine wpAny_pure ?_
  exact wpAny_pure h
theorem kitx_exc {K : PySem.W.Frag} {x D : Addr} (KE : KitE K D) : PySem.W.KitX K (.ref x) (.ref D) (ObjC x (.ref D)) where
  ty := fun _ _ _ p => p.ty
  it := fun _ _ X _ => looks_isType X KE.cl
  ne := fun h tp dd its n sl X htp => by
    refine Bool.eq_false_iff.mpr fun q => ?_
    have e : D = tp := Value.ref.inj (beq_iff_eq.mp q)
    subst e
    have c := KE.cl
    unfold PySem.W.clsIn at c
    split at c
    · rename_i ho
      have z := (X _ _ ho).symm.trans htp
      cases z
    · cases c
  ca := fun X p k => exc_class KE X p k
def rIsiX (K : PySem.W.Frag) : List V → Hp → VK → Prop := fun xs H Q => ∃ (ea C : Addr) (c : V) (b : Bool), xs = [.ref ea, c] ∧ H ea = some (exO (.ref C) ea) ∧ KitE K C ∧
  ((∃ T, c = .ty T ∧ PySem.W.kitOne K (.ref C) (.type T) = some b) ∨ (∃ D, c = .ref D ∧ PySem.W.kitOne K (.ref C) (.ref D) = some b) ∨ ∃ (tp : Addr) (ys : List Addr), c = .ref tp ∧ H tp = some (.tup (ys.map V.ref)) ∧ PySem.W.kitAny K (.ref C) (ys.map Value.ref) = some b) ∧ Q (.bl b) H
theorem vals_refs : ∀ {ys : List Addr} {us : List Value}, Vals (ys.map V.ref) us → us = ys.map Value.ref
  | [], _, .nil => rfl
  | y :: ys, _, .cons r q => by
    cases (show _ = Value.ref y from r)
    rw [vals_refs q]
    rfl
theorem call_isiX {X : Cx} {K : PySem.W.Frag} (hK : X.K = K) : CallR X (.builtin "isinstance") (rIsiX K) := by
  subst hK
  intro pins s σ H xs us Q I r h
  obtain ⟨ea, C, c, b, rfl, he, KE, hc, q⟩ := h
  obtain ⟨u, w', rfl, rx, ry⟩ := vals2 r
  cases (show u = Value.ref ea from rx)
  have ob : ObjC ea (.ref C) s.heap := (I.hok ea _ he).1
  have fin : ∀ tk, EP X pins σ Q (.bool b) { s with toks := tk } := fun tk => ⟨.bl b, H, I.tok tk, rfl, q⟩
  rcases hc with ⟨T, rfl, e⟩ | ⟨D, rfl, e⟩ | ⟨tp, ys, rfl, ht, e⟩
  · cases (show w' = Value.type T from ry)
    exact PySem.W.kia_one (kitx_exc KE) I.kIn ob e (by intro z; cases z) fin
  · cases (show w' = Value.ref D from ry)
    exact PySem.W.kia_one (kitx_exc KE) I.kIn ob e (by intro z; cases z) fin
  · cases (show w' = Value.ref tp from ry)
    obtain ⟨its, rr, ⟨⟨c0, dd, dt, sl⟩, ho, hc, n, hd⟩, hz⟩ := I.tuple (xs := ys.map V.ref) (.inl (.inl ht))
    dsimp only at hc hd
    subst hc hd
    rw [vals_refs rr] at ho
    exact PySem.W.kia_tup (kitx_exc KE) I.kIn ob ho e (by intro z; cases z) fin
/-! ### a, b, c = e, f, g; tuples put together -/
def tPar3 (i j k : Nat) (ta : TA) : TS := fun D σ H => ta σ H fun vs H1 => ∃ v w y, vs = [v, w, y] ∧ D.nx (((σ.set i (some v)).set j (some w)).set k (some y)) H1
theorem ps_par3 {X : Cx} {i j k : Nat} {x y z : Str} {a b c : Expr} {ta : TA} {px py pz pt pos : Pos} {kt k2 pt2} (hc : X.calm = true) (hN : X.N.Nodup) (hi : X.N[i]? = some x) (hj : X.N[j]? = some y) (hk : X.N[k]? = some z) (hij : i ≠ j) (hik : i ≠ k) (hjk : j ≠ k)
    (hx : X.env.scope.names.lookup x = some .local) (hy : X.env.scope.names.lookup y = some .local) (hz : X.env.scope.names.lookup z = some .local) (ha : PA X [a, b, c] ta)
    (hw : swappedStores [.Tuple [.Name x px, .Name y py, .Name z pz] kt pt] (.Tuple [a, b, c] k2 pt2) X.env = pure (some [x, y, z]))
    (hs : swapsWithSole [.Tuple [.Name x px, .Name y py, .Name z pz] kt pt] (.Tuple [a, b, c] k2 pt2) pos.line X.env = pure false := by rfl) :
    PS X (.Assign [.Tuple [.Name x px, .Name y py, .Name z pz] kt pt] (.Tuple [a, b, c] k2 pt2) pos) (tPar3 i j k ta) := by
  intro pins s σ H D I h
  rw [exec_Assign_arm]
  refine wpAny_bind (wpAny_standAt ?_)
  rw [hs]
  refine wpAny_bind (wpAny_pure ?_)
  rw [if_neg (by decide)]
  refine wpAny_bind (Tuple_ (thn (ha _ pins s σ H _ I h) fun us s1 ⟨vs, H1, I1, r1, q1⟩ => ?_))
  obtain ⟨v, w, t, e1, q1⟩ := q1
  subst e1
  obtain ⟨u1, u2, u3, rfl, rv, rw', rt⟩ : ∃ u1 u2 u3, us = [u1, u2, u3] ∧ RelV v u1 ∧ RelV w u2 ∧ RelV t u3 := by
    cases r1 with
    | cons p q =>
      cases q with
      | cons p' q' =>
        cases q' with
        | cons p'' q'' =>
          cases q''
          exact ⟨_, _, _, rfl, p, p', p''⟩
  refine wpAny_newObj_type ?_ (by show 3 ≤ sizeLine; decide)
  have I2 : Inv X pins σ H1 { s1 with heap := s1.heap.push { cls := .type "tuple", data := .seq [u1, u2, u3].toArray } } := I1.kept (t' := s1.toks) fun b o e => Heap.get?_push_of_some _ e
  rw [hw]
  refine wpAny_bind (wpAny_pure ?_)
  show wpAny (model X.prog X.w) X.A (do rule "assign.swapped-stores"; let items ← unpackItems (.ref s1.heap.objs.size) 3 none; assignInOrder [fun v => bindName X.env z v, fun v => bindName X.env y v, fun v => bindName X.env x v] items.reverse; pure Flow.next) _ _ _
  refine wpAny_bind (wpAny_rule (wpAny_bind (unpackItems_tuple (items := #[u1, u2, u3]) (I.ok.hd hc) (IsTup.new s1.heap _) fun h' hx' => ?_)))
  have I3 := I2.kept (h' := h') (t' := s1.toks) fun b o e => hx' b o (Nat.ne_of_lt (Heap.lt_size e)) e
  show wpAny _ _ (assignInOrder [fun v => bindName X.env z v, fun v => bindName X.env y v, fun v => bindName X.env x v] [u3, u2, u1] >>= fun _ => pure Flow.next) _ _ _
  refine wpAny_bind (assignInOrder_cons (wpAny_bindName (store_ok I3 hN hk (.inl hz) rt (fun s2 I4 => ?_) (.inr hz))))
  refine assignInOrder_cons (wpAny_bindName (store_ok I4 hN hj (.inl hy) rw' (fun s3 I5 => ?_) (.inr hy)))
  refine assignInOrder_cons (wpAny_bindName (store_ok I5 hN hi (.inl hx) rv (fun s4 I6 => assignInOrder_nil (wpAny_pure ?_)) (.inr hx)))
  have e : ((σ.set k (some t)).set j (some w)).set i (some v) = ((σ.set i (some v)).set j (some w)).set k (some t) := by
    rw [List.set_comm _ _ (Ne.symm hjk), List.set_comm _ _ (Ne.symm hik), List.set_comm _ _ (Ne.symm hij)]
  rw [e] at I6
  exact ⟨_, H1, I6, q1⟩
def rCatTK (K : PySem.W.Frag) : R2 := rCatT K
theorem op_catTK {X : Cx} {K : PySem.W.Frag} (hK : X.K = K) : OpR X (binaryOp .Add) (rCatTK K) := by subst hK; exact op_catT
end L2

set_option Elab.async false
set_option linter.all false
set_option maxRecDepth 100000
namespace L2
open PySem PySem.Spec PyProof.Rows
/-! ### range(a, b, -1) -/
def Itd (hi : Int) (n : Nat) : It := ⟨fun i _ => i < n, fun i H x H' => H' = H ∧ x = .int (hi - i), fun i _ => n ≤ i⟩
theorem turn_rangeD {P : Program} {w : World} {K : PySem.W.Frag} {tg : Expr} (it : Addr) (hi : Int) (n : Nat) : Turn P w K tg (Itd hi n) [it] it (fun i h => IsRangeIter h it (hi + (i : Nat) * (-1)) ((n : Int) - (i : Nat)) (-1)) where
  mem := by simp
  obj := fun i h st b hb => by
    have e : b = it := by simpa using hb
    subst e
    exact ⟨_, st, fun v z => by
      have z' : Data.fields _ = Data.cell v := z
      cases z'⟩
  keep := fun i h h' st k => k it (by simp) _ st
  item := by
    intro X hP hw hK hc i pins s σ H E I hf st hg
    subst hP hw hK
    obtain ⟨f0, f1, f2, f3, f4, f5⟩ := hf it (by simp)
    have W := Walks.range (prog := X.prog) (w := X.w) (I.ok.hd hc) it hi (-1) n
    refine W.item i s _ _ hg st fun v h' tk hv st' kk => ?_
    obtain ⟨t, rfl⟩ := hv
    have I1 : Inv X pins σ H { s with heap := h', toks := tk } := I.turned (fun b o hb e => kk b o (by simpa using hb) e) f0 f1 f3 f4 f5
    refine ⟨_, rfl, go_of (s := { s with heap := h', toks := tk }) (n := "range_iterator") st' rfl rfl (by decide) ⟨.int (hi - i), H, I1, ⟨t, ?_⟩, ⟨rfl, rfl⟩, st', fun b hb => (hf b hb).1⟩⟩
    rw [Int.mul_neg, Int.mul_one, Int.sub_eq_add_neg]
  done := by
    intro X hP hw hK hc i pins s σ H E I hf st hg
    subst hP hw hK
    obtain ⟨f0, f1, f2, f3, f4, f5⟩ := hf it (by simp)
    exact wpAny_pyNext_range_end (I.ok.hd hc) st (by have : n ≤ i := hg; omega) fun h' eb => ⟨rfl, I.turned (t' := s.toks) (fun b o hb e => eb b o hb e) f0 f1 f3 f4 f5⟩
  self := fun _ _ _ _ _ st h => wpAny_pyIter_rangeiter st h
def iRngD (ta : TA) : TI := fun σ H R => ta σ H fun vs H1 => ∃ i j : Int, vs = [.int i, .int j, .int (-1)] ∧ (0 ≤ j ∧ j ≤ i ∧ i < 2 ^ 30) ∧ R (Itd i (i - j).toNat) H1
theorem sizeD {i j : Int} (h : j ≤ i) : Builtin.Range.rangeSize i j (-1) = i - j := by
  unfold Builtin.Range.rangeSize
  rw [if_neg (by decide), show -(-1 : Int) = 1 by decide, Int.ediv_one]
  split <;> omega
theorem smallD {i j : Int} (h0 : 0 ≤ j) (h : j ≤ i) (h1 : i < 2 ^ 30) : Builtin.Range.small i j (-1) = true := by
  unfold Builtin.Range.small
  rw [sizeD h]
  simp only [Builtin.Range.rangeFitsLong, Bool.and_eq_true, Bool.or_eq_true, decide_eq_true_eq, beq_iff_eq, show ¬ (-1 : Int) > 0 by decide, if_false]
  omega
theorem pi_rangeD {X : Cx} {tg a b c : Expr} {ta : TA} {p pos : Pos} (hg : Gl X "range") (hm : X.mg "range" = none) (ha : PA X [a, b, c] ta) (hs : plainArgs [a, b, c] = true := by rfl) :
    PI X tg (.Call (.Name "range" p) [a, b, c] [] pos) (iRngD ta) := by
  have h' : notStar a = true ∧ plainArgs [b, c] = true := by simpa [plainArgs] using hs
  intro pins s σ H R I h
  refine Call_ (ld_blt I hg hm boot_range (PyProof.Rows.callWith_type1 (thn (ha pos pins s σ H _ I h) fun us s1 ⟨vs, H1, I1, r1, q1⟩ => ?_) (starEach_plain h'.1) (backTo_plain h'.2)))
  obtain ⟨i, j, e, ⟨q1, q2, q3⟩, q⟩ := q1
  subst e
  cases r1 with
  | cons r rr =>
    cases rr with
    | cons r' rr =>
      cases rr with
      | cons r'' rr =>
        cases rr
        obtain ⟨t, rfl⟩ := r
        obtain ⟨t', rfl⟩ := r'
        obtain ⟨t'', rfl⟩ := r''
        refine call_range_3 (by decide) ?_ (Or.inl (PyProof.noPylong_of_log2 (by decide +kernel)))
        refine wpAny_pyIter_range (IsRange.new ..) (smallD q1 q2 q3) ?_
        have I2 : Inv X pins σ H1 { s1 with heap := s1.heap.push { cls := .type "range", data := .fields #[.int i t, .int j t', .int (-1) t''] }, toks := s1.toks } := I1.kept fun b o e => Heap.get?_push_of_some _ e
        refine ⟨(s1.heap.push { cls := .type "range", data := .fields #[.int i t, .int j t', .int (-1) t''] }).objs.size, [(s1.heap.push { cls := .type "range", data := .fields #[.int i t, .int j t', .int (-1) t''] }).objs.size], _, _, H1, rfl,
          I2.kept (t' := s1.toks) fun b o e => Heap.get?_push_of_some _ e, turn_rangeD _ i (i - j).toNat, ?_, fun b hb => ?_, q⟩
        · have e1 : i + ((0 : Nat) : Int) * (-1) = i := by simp
          have e2 : (((i - j).toNat : Nat) : Int) - ((0 : Nat) : Int) = Builtin.Range.rangeSize i j (-1) := by rw [sizeD q2]; omega
          show IsRangeIter _ _ (i + ((0 : Nat) : Int) * (-1)) ((((i - j).toNat : Nat) : Int) - ((0 : Nat) : Int)) (-1)
          rw [e1, e2]
          exact Heap.get?_push_size _ rfl
        · have e : b = (s1.heap.push { cls := .type "range", data := .fields #[.int i t, .int j t', .int (-1) t''] }).objs.size := by simpa using hb
          subst e
          exact I2.fpOk (Nat.le_refl _) (I2.hok.fresh (Nat.le_refl _))
theorem go_down {hi : Int} {n : Nat} {g : TG} {tb : TS} {D : Ends} {σ : St} {H : Hp} (Pv : Nat → St → Hp → Prop) (h0 : Pv 0 σ H)
    (hs : ∀ i σ H, i < n → Pv i σ H → g (.int (hi - i)) σ H fun σ2 H2 => tb { D with nx := Pv (i + 1), ct := Pv (i + 1), bk := D.nx } σ2 H2) (hd : ∀ σ H, Pv n σ H → D.nx σ H) : ForGo (Itd hi n) g tb D σ H := by
  refine ⟨fun i m σ H => i ≤ n ∧ m = n - i ∧ Pv i σ H, ⟨n, Nat.zero_le _, by omega, h0⟩, ?_⟩
  rintro i m σ H ⟨h1, rfl, p⟩
  by_cases e : i = n
  · subst e
    exact .inl ⟨Nat.le_refl _, hd _ _ p⟩
  · refine .inr ⟨show i < n by omega, Pv (i + 1), fun σ' H' q => ⟨n - (i + 1), by omega, by omega, rfl, q⟩, ?_⟩
    rintro x H' ⟨rfl, rfl⟩
    exact hs i σ _ (by omega) p
/-! ### slices of lists that are tracked -/
def rSlH : V → Option Int → Option Int → Hp → VK → Prop := fun x lo hi H Q => ∃ a xs, x = .ref a ∧ H a = some (.lst xs) ∧ ∀ p, H p = none → Q (.ref p) (upd H p (.lst (cutV xs lo hi)))
theorem sl_listH {X : Cx} : SlR X rSlH := by
  intro pins s σ H x v vl vu lo hi sl Q I rx hs pl pu h
  obtain ⟨a, xs, e, hx, q⟩ := h
  exact sl_list pins s σ H x v vl vu lo hi sl Q I rx hs pl pu ⟨a, xs, e, .inl (.inl hx), q⟩
theorem cut_from (xs : List V) (k : Nat) (h : k ≤ xs.length) : cutV xs (some (k : Int)) none = xs.drop k := by
  unfold cutV
  rw [HT.sIx_nat, HT.sIx_none, Nat.min_eq_left h]
  exact List.take_of_length_le (by simp)
theorem cut_to (xs : List V) (k : Nat) (h : k ≤ xs.length) : cutV xs none (some (k : Int)) = xs.take k := by
  unfold cutV
  rw [HT.sIx_nat, HT.sIx_none, Nat.min_eq_left h]
  simp
theorem cut_mid (xs : List V) (j k : Nat) (h1 : j ≤ k) (h : k ≤ xs.length) : cutV xs (some (j : Int)) (some (k : Int)) = (xs.drop j).take (k - j) := by
  unfold cutV
  rw [HT.sIx_nat, HT.sIx_nat, Nat.min_eq_left h, Nat.min_eq_left (by omega)]
end L2

/-! determinants by their first row, and what a sweep by whole numbers (Bareiss) does to them -/
set_option linter.all false
namespace RimD
/-- the sum of f 0 .. f (n - 1) -/
def su : Nat → (Nat → Int) → Int
  | 0, _ => 0
  | n + 1, f => su n f + f n
theorem su_congr : ∀ {n : Nat} {f g : Nat → Int}, (∀ k, k < n → f k = g k) → su n f = su n g
  | 0, _, _, _ => rfl
  | n + 1, f, g, h => by
    show su n f + f n = su n g + g n
    rw [su_congr fun k hk => h k (by omega), h n (by omega)]
theorem su_add : ∀ (n : Nat) (f g : Nat → Int), su n (fun k => f k + g k) = su n f + su n g
  | 0, _, _ => rfl
  | n + 1, f, g => by
    show su n _ + (f n + g n) = su n f + f n + (su n g + g n)
    rw [su_add n f g]
    omega
theorem su_mul : ∀ (n : Nat) (c : Int) (f : Nat → Int), su n (fun k => c * f k) = c * su n f
  | 0, c, _ => (Int.mul_zero c).symm
  | n + 1, c, f => by
    show su n _ + c * f n = c * (su n f + f n)
    rw [su_mul n c f, Int.mul_add]
theorem su_zero : ∀ {n : Nat} {f : Nat → Int}, (∀ k, k < n → f k = 0) → su n f = 0
  | 0, _, _ => rfl
  | n + 1, f, h => by
    show su n f + f n = 0
    rw [su_zero fun k hk => h k (by omega), h n (by omega)]
    rfl
theorem su_front : ∀ (n : Nat) (f : Nat → Int), su (n + 1) f = f 0 + su n (fun k => f (k + 1))
  | 0, f => by show 0 + f 0 = f 0 + 0; omega
  | n + 1, f => by
    show su (n + 1) f + f (n + 1) = f 0 + (su n (fun k => f (k + 1)) + f (n + 1))
    rw [su_front n f]
    omega
/-- all pairs of unlike columns, two by two -/
theorem su_pairs (f : Nat → Nat → Int) : ∀ n : Nat, su (n + 1) (fun k => su n (f k)) = su (n + 1) (fun k => su k fun l => f k l + f l (k - 1))
  | 0 => rfl
  | n + 1 => by
    have ih := su_pairs f n
    show su (n + 1) (fun k => su n (f k) + f k n) + (su n (f (n + 1)) + f (n + 1) n) = su (n + 1) (fun k => su k fun l => f k l + f l (k - 1)) + su (n + 1) (fun l => f (n + 1) l + f l n)
    rw [su_add, ih, su_add (n + 1) (f (n + 1)) fun l => f l n]
    show _ + _ + (su n (f (n + 1)) + f (n + 1) n) = _ + (su n (f (n + 1)) + f (n + 1) n + _)
    omega
def sg (k : Nat) : Int := if k % 2 = 0 then 1 else -1
theorem sg_succ (k : Nat) : sg (k + 1) = -sg k := by
  unfold sg
  by_cases h : k % 2 = 0
  · rw [if_pos h, if_neg (by omega)]
  · rw [if_neg h, if_pos (by omega)]; rfl
/-- the columns without k -/
def sk (k j : Nat) : Nat := if j < k then j else j + 1
abbrev Mat := Nat → Nat → Int
def mi (A : Mat) (k : Nat) : Mat := fun i j => A (i + 1) (sk k j)
def D : Nat → Mat → Int
  | 0, _ => 1
  | n + 1, A => su (n + 1) fun k => sg k * A 0 k * D n (mi A k)
theorem D_succ (n : Nat) (A : Mat) : D (n + 1) A = su (n + 1) fun k => sg k * A 0 k * D n (mi A k) := rfl
theorem D_congr : ∀ {n : Nat} {A B : Mat}, (∀ i j, i < n → j < n → A i j = B i j) → D n A = D n B
  | 0, _, _, _ => rfl
  | n + 1, A, B, h => su_congr fun k hk => by
    have e : D n (mi A k) = D n (mi B k) := D_congr fun i j hi hj => h (i + 1) (sk k j) (by omega) (by unfold sk; split <;> omega)
    show sg k * A 0 k * D n (mi A k) = _
    rw [h 0 k (by omega) hk, e]
/-- a row is a sum of two -/
theorem D_lin : ∀ {n i : Nat} {A B C : Mat} {p q : Int}, i < n → (∀ r c, r ≠ i → A r c = B r c ∧ A r c = C r c) → (∀ c, A i c = p * B i c + q * C i c) → D n A = p * D n B + q * D n C
  | 0, _, _, _, _, _, _, h, _, _ => absurd h (by omega)
  | n + 1, 0, A, B, C, p, q, _, h1, h2 => by
    rw [D_succ, D_succ, D_succ, ← su_mul, ← su_mul, ← su_add]
    refine su_congr fun k hk => ?_
    have e1 : D n (mi A k) = D n (mi B k) := D_congr fun i j _ _ => (h1 (i + 1) (sk k j) (by omega)).1
    have e2 : D n (mi A k) = D n (mi C k) := D_congr fun i j _ _ => (h1 (i + 1) (sk k j) (by omega)).2
    rw [h2 k, ← e1, ← e2]
    generalize D n (mi A k) = d
    generalize sg k = s
    grind
  | n + 1, i + 1, A, B, C, p, q, hi, h1, h2 => by
    rw [D_succ, D_succ, D_succ, ← su_mul, ← su_mul, ← su_add]
    refine su_congr fun k hk => ?_
    have e : D n (mi A k) = p * D n (mi B k) + q * D n (mi C k) := D_lin (i := i) (by omega) (fun r c hr => h1 (r + 1) (sk k c) (by omega)) fun c => h2 (sk k c)
    have z := h1 0 k (by omega)
    rw [e, ← z.1, ← z.2]
    generalize D n (mi B k) = d
    generalize D n (mi C k) = d'
    generalize sg k = s
    grind
theorem D_two (n : Nat) (A : Mat) : D (n + 2) A = su (n + 2) fun k => su k fun l => sg k * sg l * (A 0 k * A 1 l - A 0 l * A 1 k) * D n fun i j => A (i + 2) (sk k (sk l j)) := by
  have e : D (n + 2) A = su (n + 2) fun k => su (n + 1) fun l => sg k * A 0 k * (sg l * A 1 (sk k l) * D n (mi (mi A k) l)) := by
    rw [D_succ]
    exact su_congr fun k hk => by rw [D_succ, ← su_mul]; rfl
  rw [e, su_pairs fun k l => sg k * A 0 k * (sg l * A 1 (sk k l) * D n (mi (mi A k) l))]
  refine su_congr fun k hk => su_congr fun l hl => ?_
  have s1 : sk k l = l := by unfold sk; rw [if_pos hl]
  have s2 : sk l (k - 1) = k := by unfold sk; rw [if_neg (by omega)]; omega
  have s3 : sg (k - 1) = -sg k := by
    have z := sg_succ (k - 1)
    rw [show k - 1 + 1 = k by omega] at z
    omega
  have s4 : ∀ j, sk l (sk (k - 1) j) = sk k (sk l j) := fun j => by unfold sk; grind
  have d1 : D n (mi (mi A k) l) = D n fun i j => A (i + 2) (sk k (sk l j)) := rfl
  have d2 : D n (mi (mi A l) (k - 1)) = D n fun i j => A (i + 2) (sk k (sk l j)) := D_congr fun i j _ _ => by
    show A (i + 2) (sk l (sk (k - 1) j)) = _
    rw [s4]
  rw [s1, s2, s3, d1, d2]
  generalize (D n fun i j => A (i + 2) (sk k (sk l j))) = d
  generalize sg k = s
  generalize sg l = s'
  grind
/-- rows 0 and 1 are exchanged -/
theorem D_sw01 (n : Nat) (A B : Mat) (h0 : ∀ c, B 0 c = A 1 c) (h1 : ∀ c, B 1 c = A 0 c) (h : ∀ r c, 1 < r → B r c = A r c) : D (n + 2) B = -D (n + 2) A := by
  rw [D_two, D_two, show -(su (n + 2) fun k => su k fun l => sg k * sg l * (A 0 k * A 1 l - A 0 l * A 1 k) * D n fun i j => A (i + 2) (sk k (sk l j))) = -1 * (su (n + 2) fun k => su k fun l => sg k * sg l * (A 0 k * A 1 l - A 0 l * A 1 k) * D n fun i j => A (i + 2) (sk k (sk l j))) by omega, ← su_mul]
  refine su_congr fun k hk => ?_
  rw [← su_mul]
  refine su_congr fun l hl => ?_
  have d : (D n fun i j => B (i + 2) (sk k (sk l j))) = D n fun i j => A (i + 2) (sk k (sk l j)) := D_congr fun i j _ _ => h _ _ (by omega)
  rw [h0, h1, h0, h1, d]
  generalize (D n fun i j => A (i + 2) (sk k (sk l j))) = d
  grind
/-- two rows alike -/
theorem D_eq0 : ∀ {n i j : Nat} {A : Mat}, i < j → j < n → (∀ c, A i c = A j c) → D n A = 0
  | 0, _, _, _, _, h, _ => absurd h (by omega)
  | n + 1, i + 1, j, A, h1, h2, h => by
    rw [D_succ]
    refine su_zero fun k hk => ?_
    obtain ⟨j, rfl⟩ : ∃ j', j = j' + 1 := ⟨j - 1, by omega⟩
    rw [D_eq0 (n := n) (i := i) (j := j) (by omega) (by omega) fun c => h (sk k c), Int.mul_zero]
  | n + 1, 0, j, A, h1, h2, h => by
    obtain ⟨n, rfl⟩ : ∃ m, n = m + 1 := ⟨n - 1, by omega⟩
    by_cases hj : j = 1
    · subst hj
      rw [D_two]
      refine su_zero fun k hk => su_zero fun l hl => ?_
      rw [h k, h l, show A 1 k * A 1 l - A 1 l * A 1 k = 0 by rw [Int.mul_comm (A 1 l)]; omega, Int.mul_zero, Int.zero_mul]
    · have e := D_sw01 n A (fun r c => if r = 0 then A 1 c else if r = 1 then A 0 c else A r c) (fun c => rfl) (fun c => rfl) fun r c hr => by
        show (if r = 0 then A 1 c else if r = 1 then A 0 c else A r c) = A r c
        rw [if_neg (by omega), if_neg (by omega)]
      have z : D (n + 2) (fun r c => if r = 0 then A 1 c else if r = 1 then A 0 c else A r c) = 0 := by
        rw [D_succ]
        refine su_zero fun k hk => ?_
        obtain ⟨j, rfl⟩ : ∃ j', j = j' + 1 := ⟨j - 1, by omega⟩
        rw [D_eq0 (n := n + 1) (i := 0) (j := j) (by omega) (by omega) fun c => ?_, Int.mul_zero]
        show (if 0 + 1 = 0 then A 1 (sk k c) else if 0 + 1 = 1 then A 0 (sk k c) else A (0 + 1) (sk k c)) = if j + 1 = 0 then A 1 (sk k c) else if j + 1 = 1 then A 0 (sk k c) else A (j + 1) (sk k c)
        rw [if_neg (by omega), if_pos (by omega), if_neg (by omega), if_neg (by omega)]
        exact h _
      show D (n + 2) A = 0
      rw [z] at e
      omega
  termination_by n i => (n, i)
/-- a row times a number -/
theorem D_row {n i : Nat} {A B : Mat} {p : Int} (hi : i < n) (h1 : ∀ r c, r ≠ i → A r c = B r c) (h2 : ∀ c, A i c = p * B i c) : D n A = p * D n B := by
  have e := D_lin (p := p) (q := 0) (C := B) hi (fun r c hr => ⟨h1 r c hr, h1 r c hr⟩) fun c => by rw [h2 c]; omega
  rw [e]; omega
def pr : Nat → (Nat → Int) → Int
  | 0, _ => 1
  | n + 1, e => pr n e * e n
theorem D_rows (e : Nat → Int) (A : Mat) : ∀ {n m : Nat}, m ≤ n → D n (fun i j => if i < m then e i * A i j else A i j) = pr m e * D n A
  | n, 0, _ => by
    rw [show pr 0 e = 1 from rfl, Int.one_mul]
    exact D_congr fun i j _ _ => by rw [if_neg (by omega)]
  | n, m + 1, h => by
    have z := D_row (n := n) (i := m) (p := e m) (A := fun i j => if i < m + 1 then e i * A i j else A i j) (B := fun i j => if i < m then e i * A i j else A i j) (by omega)
      (fun r c hr => by
        by_cases q : r < m
        · rw [if_pos q, if_pos (by omega)]
        · rw [if_neg q, if_neg (by omega)]) fun c => by rw [if_pos (by omega), if_neg (by omega)]
    rw [z, D_rows e A (by omega)]
    show _ = pr m e * e m * _
    rw [Int.mul_comm (pr m e) (e m), Int.mul_assoc]
theorem D_scale {n : Nat} (e : Nat → Int) (A : Mat) : D n (fun i j => e i * A i j) = pr n e * D n A := by
  rw [← D_rows e A (Nat.le_refl n)]
  exact D_congr fun i j hi _ => by rw [if_pos hi]
theorem pr_const (c : Int) : ∀ n : Nat, pr n (fun _ => c) = c ^ n
  | 0 => (Int.pow_zero c).symm
  | n + 1 => by show pr n (fun _ => c) * c = c ^ (n + 1); rw [pr_const c n, Int.pow_succ]
/-- row 0 taken off the first m of the others, these times p ahead -/
theorem D_off (p : Int) (e : Nat → Int) (A : Mat) : ∀ {n m : Nat}, m ≤ n → D (n + 1) (fun i j => if 0 < i ∧ i ≤ m then p * A i j - e i * A 0 j else A i j) = p ^ m * D (n + 1) A
  | n, 0, _ => by
    rw [Int.pow_zero, Int.one_mul]
    exact D_congr fun i j _ _ => by rw [if_neg (by omega)]
  | n, m + 1, h => by
    have z := D_lin (n := n + 1) (i := m + 1) (p := p) (q := -e (m + 1)) (A := fun i j => if 0 < i ∧ i ≤ m + 1 then p * A i j - e i * A 0 j else A i j) (B := fun i j => if 0 < i ∧ i ≤ m then p * A i j - e i * A 0 j else A i j)
      (C := fun i j => if i = m + 1 then A 0 j else if 0 < i ∧ i ≤ m then p * A i j - e i * A 0 j else A i j) (by omega)
      (fun r c hr => by
        have q : (0 < r ∧ r ≤ m + 1) = (0 < r ∧ r ≤ m) := by apply propext; omega
        simp only [q, if_neg hr, and_self]) fun c => by
        rw [if_pos (by omega), if_neg (by omega), if_pos rfl, Int.neg_mul, Int.sub_eq_add_neg]
    have y : D (n + 1) (fun i j => if i = m + 1 then A 0 j else if 0 < i ∧ i ≤ m then p * A i j - e i * A 0 j else A i j) = 0 := D_eq0 (i := 0) (j := m + 1) (by omega) (by omega) fun c => by
      rw [if_neg (by omega), if_neg (by omega), if_pos rfl]
    rw [z, y, D_off p e A (by omega), Int.mul_zero, Int.add_zero, Int.pow_succ, Int.mul_comm (p ^ m) p, Int.mul_assoc]
/-- nothing beneath the first of the first column -/
theorem D_zero : ∀ {n : Nat} {A : Mat}, (∀ i, i < n + 1 → A i 0 = 0) → D (n + 1) A = 0 := by
    intro n
    induction n with
    | zero => intro A h; show 0 + sg 0 * A 0 0 * 1 = 0; rw [h 0 (by omega)]; omega
    | succ n ih =>
      intro A h
      rw [D_succ]
      refine su_zero fun k hk => ?_
      cases k with
      | zero => rw [h 0 (by omega)]; omega
      | succ k =>
        rw [ih fun i hi => ?_, Int.mul_zero]
        show A (i + 1) (sk (k + 1) 0) = 0
        rw [show sk (k + 1) 0 = 0 from rfl]
        exact h _ (by omega)
theorem D_col {n : Nat} {A : Mat} (h : ∀ i, 0 < i → i < n + 1 → A i 0 = 0) : D (n + 1) A = A 0 0 * D n (fun i j => A (i + 1) (j + 1)) := by
  rw [D_succ, su_front]
  rw [su_zero fun k hk => ?_]
  · show sg 0 * A 0 0 * D n (mi A 0) + 0 = _
    rw [show sg 0 = 1 from rfl, Int.one_mul, Int.add_zero]
    rfl
  · obtain ⟨n, rfl⟩ : ∃ m, n = m + 1 := ⟨n - 1, by omega⟩
    rw [D_zero fun i hi => ?_, Int.mul_zero]
    show A (i + 1) (sk (k + 1) 0) = 0
    exact h _ (by omega) (by omega)
/-- one step of the sweep, ahead of the division -/
theorem D_step {n : Nat} {A : Mat} (h : A 0 0 ≠ 0) : A 0 0 ^ n * D (n + 2) A = D (n + 1) fun i j => A 0 0 * A (i + 1) (j + 1) - A (i + 1) 0 * A 0 (j + 1) := by
  have e := D_off (A 0 0) (fun i => A i 0) A (n := n + 1) (Nat.le_refl _)
  rw [D_col fun i h1 h2 => by rw [if_pos (by omega), Int.mul_comm]; omega] at e
  simp only [Nat.lt_irrefl, false_and, if_false] at e
  rw [D_congr (B := fun i j => A 0 0 * A (i + 1) (j + 1) - A (i + 1) 0 * A 0 (j + 1)) fun i j hi _ => by rw [if_pos (by omega)]] at e
  rw [Int.pow_succ, Int.mul_comm _ (A 0 0), Int.mul_assoc] at e
  exact (Int.eq_of_mul_eq_mul_left h e).symm
/-- rows 0 and k exchanged, the one of them turned -/
theorem D_swap {n k : Nat} {A B : Mat} (hk : 0 < k) (hn : k < n) (h0 : ∀ c, B 0 c = -A k c) (h1 : ∀ c, B k c = A 0 c) (h : ∀ r c, r ≠ 0 → r ≠ k → B r c = A r c) : D n B = D n A := by
  -- rows (0, k): u, v are A's; f x y has x at 0 and y at k
  have f : ∀ (x y : Nat → Int), ∃ M : Mat, (∀ c, M 0 c = x c) ∧ (∀ c, M k c = y c) ∧ ∀ r c, r ≠ 0 → r ≠ k → M r c = A r c := fun x y =>
    ⟨fun r c => if r = 0 then x c else if r = k then y c else A r c, fun c => by simp, fun c => by simp [show k ≠ 0 by omega], fun r c a b => by simp [a, b]⟩
  obtain ⟨Mww, a0, a1, a2⟩ := f (fun c => A 0 c + A k c) (fun c => A 0 c + A k c)
  obtain ⟨Muw, b0, b1, b2⟩ := f (A 0) (fun c => A 0 c + A k c)
  obtain ⟨Mvw, c0, c1, c2⟩ := f (A k) (fun c => A 0 c + A k c)
  obtain ⟨Muu, d0, d1, d2⟩ := f (A 0) (A 0)
  obtain ⟨Mvv, e0, e1, e2⟩ := f (A k) (A k)
  obtain ⟨Mvu, g0, g1, g2⟩ := f (A k) (A 0)
  have off : ∀ {M N : Mat} {r c : Nat}, (∀ c, M k c = N k c) → (∀ r c, r ≠ 0 → r ≠ k → M r c = A r c) → (∀ r c, r ≠ 0 → r ≠ k → N r c = A r c) → r ≠ 0 → M r c = N r c := fun {M N r c} x y z hr => by
    by_cases q : r = k
    · rw [q]; exact x c
    · rw [y r c hr q, z r c hr q]
  have off' : ∀ {M N : Mat} {r c : Nat}, (∀ c, M 0 c = N 0 c) → (∀ r c, r ≠ 0 → r ≠ k → M r c = A r c) → (∀ r c, r ≠ 0 → r ≠ k → N r c = A r c) → r ≠ k → M r c = N r c := fun {M N r c} x y z hr => by
    by_cases q : r = 0
    · rw [q]; exact x c
    · rw [y r c q hr, z r c q hr]
  have s1 := D_lin (n := n) (i := 0) (p := 1) (q := 1) (A := Mww) (B := Muw) (C := Mvw) (by omega) (fun r c hr => ⟨off (fun c => by rw [a1, b1]) a2 b2 hr, off (fun c => by rw [a1, c1]) a2 c2 hr⟩) fun c => by rw [a0, b0, c0]; omega
  have s2 := D_lin (n := n) (i := k) (p := 1) (q := 1) (A := Muw) (B := Muu) (C := A) hn (fun r c hr => ⟨off' (fun c => by rw [b0, d0]) b2 d2 hr, off' (fun c => by rw [b0]) b2 (fun _ _ _ _ => rfl) hr⟩) fun c => by rw [b1, d1]; omega
  have s3 := D_lin (n := n) (i := k) (p := 1) (q := 1) (A := Mvw) (B := Mvu) (C := Mvv) hn (fun r c hr => ⟨off' (fun c => by rw [c0, g0]) c2 g2 hr, off' (fun c => by rw [c0, e0]) c2 e2 hr⟩) fun c => by rw [c1, g1, e1]; omega
  have z1 : D n Mww = 0 := D_eq0 hk hn fun c => by rw [a0, a1]
  have z2 : D n Muu = 0 := D_eq0 hk hn fun c => by rw [d0, d1]
  have z3 : D n Mvv = 0 := D_eq0 hk hn fun c => by rw [e0, e1]
  have s4 := D_row (n := n) (i := 0) (p := -1) (A := B) (B := Mvu) (by omega) (fun r c hr => by
    by_cases q : r = k
    · rw [q, h1, g1]
    · rw [h r c hr q, g2 r c hr q]) fun c => by rw [h0, g0]; omega
  omega
/-- all minors of one more row can be divided so -/
def Dv (b : Int) (R : Nat) (A : Mat) : Prop := ∀ (m : Nat) (ρ κ : Nat → Nat), (∀ i, ρ i < R) → b ^ m ∣ D (m + 1) fun i j => A (ρ i) (κ j)
theorem Dv_one (R : Nat) (A : Mat) : Dv 1 R A := fun m ρ κ _ => by rw [Int.one_pow]; exact Int.one_dvd _
theorem Dv_rows {b : Int} {R : Nat} {A B : Mat} (h : Dv b R A) (π : Nat → Nat) (e : Nat → Int) (hπ : ∀ i, i < R → π i < R) (hB : ∀ i j, i < R → B i j = e i * A (π i) j) : Dv b R B := fun m ρ κ hρ => by
  have z : (D (m + 1) fun i j => B (ρ i) (κ j)) = pr (m + 1) (fun i => e (ρ i)) * D (m + 1) fun i j => A (π (ρ i)) (κ j) := by
    rw [← D_scale]
    exact D_congr fun i j _ _ => hB _ _ (hρ i)
  rw [z]
  exact Int.dvd_mul_of_dvd_right (h m (fun i => π (ρ i)) κ fun i => hπ _ (hρ i))
/-- the quotient is whole -/
theorem Dv_two {b : Int} {R : Nat} {A : Mat} (h : Dv b R A) {i j : Nat} (h0 : 0 < R) (hi : i < R) : b ∣ A 0 0 * A i j - A i 0 * A 0 j := by
  have z := h 1 (fun r => if r = 0 then 0 else i) (fun c => if c = 0 then 0 else j) (fun r => by show (if r = 0 then 0 else i) < R; split <;> assumption)
  rw [Int.pow_succ, Int.pow_zero, Int.one_mul] at z
  have e : (D (1 + 1) fun r c => A (if r = 0 then 0 else i) (if c = 0 then 0 else j)) = A 0 0 * A i j - A i 0 * A 0 j := by
    show 0 + sg 0 * A 0 0 * (0 + sg 0 * A i j * 1) + sg 1 * A 0 j * (0 + sg 0 * A i 0 * 1) = _
    rw [show sg 0 = 1 from rfl, show sg 1 = -1 from rfl]
    grind
  rw [e] at z
  exact z
theorem Dv_step {b : Int} {R : Nat} {A B : Mat} (hb : b ≠ 0) (hp : A 0 0 ≠ 0) (h : Dv b (R + 1) A) (hB : ∀ i j, i < R → b * B i j = A 0 0 * A (i + 1) (j + 1) - A (i + 1) 0 * A 0 (j + 1)) : Dv (A 0 0) R B := fun m ρ κ hρ => by
  obtain ⟨t, ht⟩ := h (m + 1) (fun i => match i with | 0 => 0 | i + 1 => ρ i + 1) (fun j => match j with | 0 => 0 | j + 1 => κ j + 1) fun i => by
    cases i with
    | zero => exact Nat.succ_pos _
    | succ i => exact Nat.succ_lt_succ (hρ i)
  have e := D_step (n := m) (A := fun i j => A (match i with | 0 => 0 | i + 1 => ρ i + 1) (match j with | 0 => 0 | j + 1 => κ j + 1)) hp
  have e2 : (D (m + 1) fun i j => A 0 0 * A (ρ i + 1) (κ j + 1) - A (ρ i + 1) 0 * A 0 (κ j + 1)) = b ^ (m + 1) * D (m + 1) fun i j => B (ρ i) (κ j) := by
    rw [← pr_const, ← D_scale]
    exact D_congr fun i j _ _ => (hB _ _ (hρ i)).symm
  have e3 : A 0 0 ^ m * (b ^ (m + 1) * t) = b ^ (m + 1) * D (m + 1) fun i j => B (ρ i) (κ j) := by
    rw [← ht, ← e2]
    exact e
  refine ⟨t, ?_⟩
  refine Int.eq_of_mul_eq_mul_left (Int.pow_ne_zero (m := m + 1) hb) (e3.symm.trans ?_)
  rw [Int.mul_left_comm]
/-- .. and the determinant, as it goes along -/
theorem D_next {b : Int} {n : Nat} {A B : Mat} (hp : A 0 0 ≠ 0) (hB : ∀ i j, i < n + 1 → b * B i j = A 0 0 * A (i + 1) (j + 1) - A (i + 1) 0 * A 0 (j + 1)) : A 0 0 ^ n * D (n + 2) A = b ^ (n + 1) * D (n + 1) B := by
  rw [D_step hp, ← pr_const, ← D_scale]
  exact D_congr fun i j hi _ => (hB i j hi).symm
end RimD

/-! the sweep, over lists of whole numbers as the program does it -/
set_option linter.all false
namespace RimD
def gi (r : List Int) (j : Nat) : Int := r.getD j 0
def ma (rows : List (List Int)) : Mat := fun i j => gi (rows.getD i []) j
def lessP (piv : List Int) (b : Int) (row : List Int) : List Int := (List.range (row.length - 1)).map fun j => (gi piv 0 * gi row (j + 1) - gi row 0 * gi piv (j + 1)).fdiv b
/-- the first row k from j on, below j + n, that doesn't begin with 0 -/
def firstP (rows : List (List Int)) : Nat → Nat → Option Nat
  | _, 0 => none
  | j, n + 1 => if gi (rows.getD j []) 0 ≠ 0 then some j else firstP rows (j + 1) n
def pivP (rows : List (List Int)) (free : Nat) : List (List Int) := match firstP rows 0 free with
  | none => []
  | some 0 => rows
  | some (k + 1) => [(rows.getD (k + 1) []).map fun x => -x] ++ (rows.drop 1).take k ++ [rows.getD 0 []] ++ rows.drop (k + 2)
def sweepP : Nat → Int → List (List Int) → Int × List (List Int)
  | 0, b, left => (b, left)
  | free + 1, b, left => match pivP left (free + 1) with
    | [] => (0, [])
    | piv :: others => sweepP free (gi piv 0) (others.map (lessP piv b) ++ [piv.drop 1])
theorem firstP_none {rows : List (List Int)} : ∀ {n j : Nat}, firstP rows j n = none → ∀ i, j ≤ i → i < j + n → gi (rows.getD i []) 0 = 0
  | 0, _, _, _, _, _ => by omega
  | n + 1, j, h, i, h1, h2 => by
    unfold firstP at h
    split at h
    · cases h
    · rename_i q
      by_cases e : i = j
      · subst e; exact Decidable.of_not_not q
      · exact firstP_none h i (by omega) (by omega)
theorem firstP_some {rows : List (List Int)} : ∀ {n j k : Nat}, firstP rows j n = some k → j ≤ k ∧ k < j + n ∧ gi (rows.getD k []) 0 ≠ 0
  | 0, _, _, h => by cases h
  | n + 1, j, k, h => by
    unfold firstP at h
    split at h
    · rename_i q; cases h; exact ⟨Nat.le_refl _, by omega, q⟩
    · obtain ⟨a, b, c⟩ := firstP_some h
      exact ⟨by omega, by omega, c⟩
theorem gi_map {f : Int → Int} (h : f 0 = 0) (r : List Int) (j : Nat) : gi (r.map f) j = f (gi r j) := by
  unfold gi
  simp only [List.getD_eq_getElem?_getD, List.getElem?_map]
  cases r[j]? <;> simp [h]
/-- what the new order is: the row k, turned, ahead; the row 0 in its place -/
theorem piv_at {rows : List (List Int)} {k : Nat} (hk : k + 1 < rows.length) (i : Nat) :
    ([(rows.getD (k + 1) []).map fun x => -x] ++ (rows.drop 1).take k ++ [rows.getD 0 []] ++ rows.drop (k + 2)).getD i [] = if i = 0 then (rows.getD (k + 1) []).map fun x => -x else if i = k + 1 then rows.getD 0 [] else rows.getD i [] := by
  have l : ((rows.drop 1).take k).length = k := by simp; omega
  simp only [List.getD_eq_getElem?_getD, List.append_assoc, List.singleton_append, List.cons_append, List.nil_append]
  by_cases h0 : i = 0
  · subst h0; simp
  · obtain ⟨i, rfl⟩ : ∃ j, i = j + 1 := ⟨i - 1, by omega⟩
    rw [if_neg h0, List.getElem?_cons_succ]
    by_cases h1 : i < k
    · rw [List.getElem?_append_left (by rw [l]; exact h1), List.getElem?_take_of_lt h1, List.getElem?_drop, if_neg (by omega), Nat.add_comm 1 i]
    · rw [List.getElem?_append_right (by rw [l]; omega), l]
      by_cases h2 : i = k
      · subst h2; simp
      · rw [if_neg (by omega)]
        obtain ⟨d, rfl⟩ : ∃ d, i = k + 1 + d := ⟨i - (k + 1), by omega⟩
        rw [show k + 1 + d - k = d + 1 by omega, List.getElem?_cons_succ, List.getElem?_drop]
        rw [show k + 2 + d = k + 1 + d + 1 by omega]
theorem piv_len {rows : List (List Int)} {k : Nat} (hk : k + 1 < rows.length) : ([(rows.getD (k + 1) []).map fun x => -x] ++ (rows.drop 1).take k ++ [rows.getD 0 []] ++ rows.drop (k + 2)).length = rows.length := by
  simp only [List.length_append, List.length_cons, List.length_nil, List.length_take, List.length_drop]
  omega
structure Rect (w : Nat) (rows : List (List Int)) : Prop where
  w : ∀ r ∈ rows, r.length = w
theorem Rect.at {w : Nat} {rows : List (List Int)} (h : Rect w rows) {i : Nat} (hi : i < rows.length) : (rows.getD i []).length = w := by
  rw [List.getD_eq_getElem?_getD, List.getElem?_eq_getElem hi]
  exact h.w _ (List.getElem_mem _)
theorem gi_over {r : List Int} {j : Nat} (h : r.length ≤ j) : gi r j = 0 := by
  unfold gi
  rw [List.getD_eq_getElem?_getD, List.getElem?_eq_none h]
  rfl
/-- what pivP tells -/
theorem piv_some {rows ord : List (List Int)} {m : Nat} {b : Int} {w : Nat} (hl : m + 1 ≤ rows.length) (hw : Rect w rows) (hd : Dv b (m + 1) (ma rows)) (h : pivP rows (m + 1) = ord) (hn : ord ≠ []) :
    ord.length = rows.length ∧ Rect w ord ∧ ma ord 0 0 ≠ 0 ∧ Dv b (m + 1) (ma ord) ∧ D (m + 1) (ma ord) = D (m + 1) (ma rows) := by
  unfold pivP at h
  split at h
  · exact absurd h.symm hn
  · rename_i e
    subst h
    obtain ⟨_, _, c⟩ := firstP_some e
    exact ⟨rfl, hw, c, hd, rfl⟩
  · rename_i k e
    obtain ⟨_, hk, c⟩ := firstP_some e
    have hk' : k + 1 < rows.length := by omega
    subst h
    have at' := piv_at hk'
    have ln := piv_len hk'
    generalize ([(rows.getD (k + 1) []).map fun x => -x] ++ (rows.drop 1).take k ++ [rows.getD 0 []] ++ rows.drop (k + 2)) = ord at *
    have m0 : ∀ c, ma ord 0 c = -ma rows (k + 1) c := fun c => by unfold ma; rw [at', if_pos rfl, gi_map (by rfl)]
    have m1 : ∀ c, ma ord (k + 1) c = ma rows 0 c := fun c => by unfold ma; rw [at', if_neg (by omega), if_pos rfl]
    have m2 : ∀ r c, r ≠ 0 → r ≠ k + 1 → ma ord r c = ma rows r c := fun r c a b => by unfold ma; rw [at', if_neg a, if_neg b]
    refine ⟨ln, ⟨fun r hr => ?_⟩, ?_, ?_, ?_⟩
    · obtain ⟨i, hi, rfl⟩ := List.mem_iff_getElem.mp hr
      have e : ord[i] = ord.getD i [] := by rw [List.getD_eq_getElem?_getD, List.getElem?_eq_getElem hi]; rfl
      rw [e, at']
      split
      · rw [List.length_map]; exact hw.at hk'
      · split
        · exact hw.at (by omega)
        · exact hw.at (by omega)
    · rw [m0]
      have c' : ma rows (k + 1) 0 ≠ 0 := c
      omega
    · refine Dv_rows hd (fun i => if i = 0 then k + 1 else if i = k + 1 then 0 else i) (fun i => if i = 0 then -1 else 1) (fun i hi => ?_) fun i j hi => ?_
      · show (if i = 0 then k + 1 else if i = k + 1 then 0 else i) < m + 1
        split
        · omega
        · split <;> omega
      · by_cases h0 : i = 0
        · subst h0; simp only [if_true]; rw [m0]; omega
        · simp only [if_neg h0]
          by_cases h1 : i = k + 1
          · subst h1; simp only [if_true]; rw [m1]; omega
          · simp only [if_neg h1]; rw [m2 i j h0 h1]; omega
    · exact D_swap (k := k + 1) (by omega) (by omega) m0 m1 m2
theorem piv_none {rows : List (List Int)} {m : Nat} (hl : 0 < rows.length) (h : pivP rows (m + 1) = []) : D (m + 1) (ma rows) = 0 := by
  unfold pivP at h
  split at h
  · rename_i e
    exact D_zero fun i hi => firstP_none e i (by omega) (by omega)
  · subst h; simp at hl
  · simp at h
theorem gi_less {piv row : List Int} {b : Int} (h : row.length = piv.length) (j : Nat) : gi (lessP piv b row) j = (gi piv 0 * gi row (j + 1) - gi row 0 * gi piv (j + 1)).fdiv b := by
  by_cases hj : j < row.length - 1
  · unfold lessP
    show ((List.range (row.length - 1)).map _).getD j 0 = _
    rw [List.getD_eq_getElem?_getD, List.getElem?_map, List.getElem?_range hj]
    rfl
  · rw [gi_over (r := lessP piv b row) (by unfold lessP; simp; omega), gi_over (r := row) (j := j + 1) (by omega), gi_over (r := piv) (j := j + 1) (by omega)]
    simp
theorem fdiv_exact {b x : Int} (h : b ∣ x) (hb : b ≠ 0) : b * x.fdiv b = x := Int.mul_fdiv_cancel' h
/-- the sweep tells the determinant -/
theorem sweep_det (V : Int) : ∀ {free w : Nat} {b : Int} {left : List (List Int)}, free ≤ left.length → free ≤ w → Rect w left → b ≠ 0 → Dv b free (ma left) → (free = 0 → b = V) → (∀ m, free = m + 1 → D (m + 1) (ma left) = b ^ m * V) → (sweepP free b left).1 = V
  | 0, _, b, left, _, _, _, _, _, h0, _ => h0 rfl
  | m + 1, w, b, left, hl, hw, hr, hb, hd, _, h1 => by
    have v := h1 m rfl
    unfold sweepP
    split
    · rename_i e
      rw [piv_none (by omega) e] at v
      rcases Int.mul_eq_zero.mp v.symm with z | z
      · exact absurd z (Int.pow_ne_zero hb)
      · exact z.symm
    · rename_i piv others e
      obtain ⟨ln, rect, hp, dv, dd⟩ := piv_some hl hr hd e (by simp)
      rw [← dd] at v
      have pw : piv.length = w := rect.w _ (.head _)
      have row : ∀ i j, i < others.length → ma (others.map (lessP piv b) ++ [piv.drop 1]) i j = (ma (piv :: others) 0 0 * ma (piv :: others) (i + 1) (j + 1) - ma (piv :: others) (i + 1) 0 * ma (piv :: others) 0 (j + 1)).fdiv b := fun i j hi => by
        unfold ma
        have e1 : (others.map (lessP piv b) ++ [piv.drop 1]).getD i [] = lessP piv b (others.getD i []) := by
          rw [List.getD_eq_getElem?_getD, List.getElem?_append_left (by simpa using hi), List.getElem?_map, List.getD_eq_getElem?_getD, List.getElem?_eq_getElem hi]
          rfl
        have e2 : (piv :: others).getD (i + 1) [] = others.getD i [] := rfl
        have e3 : (piv :: others).getD 0 [] = piv := rfl
        rw [e1, e2, e3, gi_less]
        rw [pw]
        exact Rect.at ⟨fun r h => rect.w r (.tail _ h)⟩ hi
      have ol : others.length + 1 = left.length := ln
      have ex : ∀ i j, i < m → b * ma (others.map (lessP piv b) ++ [piv.drop 1]) i j = ma (piv :: others) 0 0 * ma (piv :: others) (i + 1) (j + 1) - ma (piv :: others) (i + 1) 0 * ma (piv :: others) 0 (j + 1) := fun i j hi => by
        rw [row i j (by omega)]
        exact fdiv_exact (Dv_two dv (by omega) (by omega)) hb
      have hp' : gi piv 0 ≠ 0 := hp
      refine sweep_det V (w := w - 1) (by simp; omega) (by omega) ⟨fun r hx => ?_⟩ hp' ?_ (fun z => ?_) fun m' z => ?_
      · rcases List.mem_append.mp hx with hx | hx
        · obtain ⟨r', hr', rfl⟩ := List.mem_map.mp hx
          have := rect.w r' (.tail _ hr')
          unfold lessP
          simp
          omega
        · simp at hx
          subst hx
          simp
          omega
      · exact Dv_step (A := ma (piv :: others)) hb hp dv ex
      · subst z
        have v' : D 1 (ma (piv :: others)) = b ^ 0 * V := v
        rw [Int.pow_zero, Int.one_mul] at v'
        have : D 1 (ma (piv :: others)) = gi piv 0 := by
          show 0 + sg 0 * gi piv 0 * 1 = gi piv 0
          rw [show sg 0 = 1 from rfl]
          omega
        omega
      · subst z
        have n := D_next (A := ma (piv :: others)) (n := m') hp ex
        rw [v] at n
        refine Int.eq_of_mul_eq_mul_left (Int.pow_ne_zero (m := m' + 1) hb) (n.symm.trans ?_)
        show gi piv 0 ^ m' * (b ^ (m' + 1) * V) = _
        rw [Int.mul_left_comm]
theorem sweep_is {rows : List (List Int)} {w : Nat} (hw : Rect w rows) (h : rows.length ≤ w) : (sweepP rows.length 1 rows).1 = D rows.length (ma rows) :=
  sweep_det _ (Nat.le_refl _) h hw (by decide) (Dv_one _ _) (fun z => by rw [z]; rfl) fun m z => by rw [Int.one_pow, Int.one_mul, z]
end RimD

/-! how large a determinant is; a determinant of fractions over common bottoms -/
set_option linter.all false
namespace RimD
open RimM
theorem pr_front : ∀ (n : Nat) (b : Nat → Int), pr (n + 1) b = b 0 * pr n fun i => b (i + 1)
  | 0, b => by show 1 * b 0 = b 0 * 1; omega
  | n + 1, b => by
    show pr (n + 1) b * b (n + 1) = b 0 * (pr n (fun i => b (i + 1)) * b (n + 1))
    rw [pr_front n b, Int.mul_assoc]
theorem pr_pos : ∀ {n : Nat} {b : Nat → Int}, (∀ i, i < n → 0 < b i) → 0 < pr n b
  | 0, _, _ => (by decide : (0 : Int) < 1)
  | n + 1, b, h => Int.mul_pos (pr_pos fun i hi => h i (by omega)) (h n (by omega))
theorem su_le : ∀ {n : Nat} {f : Nat → Int} {K : Nat}, (∀ k, k < n → (f k).natAbs ≤ K) → (su n f).natAbs ≤ n * K
  | 0, _, _, _ => by show 0 ≤ _; omega
  | n + 1, f, K, h => by
    have a := su_le (n := n) (f := f) (K := K) fun k hk => h k (by omega)
    have b := h n (by omega)
    have c := Int.natAbs_add_le (su n f) (f n)
    show (su n f + f n).natAbs ≤ (n + 1) * K
    rw [Nat.succ_mul]
    omega
theorem sg_abs (k : Nat) : (sg k).natAbs = 1 := by unfold sg; split <;> rfl
theorem D_le {B : Nat} : ∀ {n : Nat} {N : Mat}, n ≤ 8 → (∀ i j, i < n → j < n → (N i j).natAbs ≤ 2 ^ B) → (D n N).natAbs ≤ 2 ^ ((B + 3) * n)
  | 0, _, _, _ => by show 1 ≤ 2 ^ ((B + 3) * 0); simp
  | n + 1, N, h8, h => by
    have z : (D (n + 1) N).natAbs ≤ (n + 1) * (2 ^ B * 2 ^ ((B + 3) * n)) := su_le fun k hk => by
      rw [Int.natAbs_mul, Int.natAbs_mul, sg_abs, Nat.one_mul]
      exact Nat.mul_le_mul (h 0 k (by omega) hk) (D_le (by omega) fun i j hi hj => h _ _ (by omega) (by unfold sk; split <;> omega))
    refine Nat.le_trans z (Nat.le_trans (Nat.mul_le_mul_right _ h8) ?_)
    rw [show (8 : Nat) = 2 ^ 3 by rfl, ← Nat.pow_add, ← Nat.pow_add, Nat.mul_succ]
    exact Nat.pow_le_pow_right (by decide) (by omega)
theorem pr_le {B : Nat} : ∀ {n : Nat} {b : Nat → Int}, (∀ i, i < n → (b i).natAbs ≤ 2 ^ B) → (pr n b).natAbs ≤ 2 ^ (B * n)
  | 0, _, _ => by show 1 ≤ 2 ^ (B * 0); simp
  | n + 1, b, h => by
    show (pr n b * b n).natAbs ≤ _
    rw [Int.natAbs_mul, Nat.mul_succ, Nat.pow_add]
    exact Nat.mul_le_mul (pr_le fun i hi => h i (by omega)) (h n (by omega))
/-- a product and a sum of fractions in lowest terms -/
theorem nf_mul {t b t' b' : Int} {p : Int × Int} (hp : 0 < p.2) (hb : b ≠ 0) (hb' : b' ≠ 0) (h : p.1 * b = t * p.2) : nf (p.1 * (nf t' b').1) (p.2 * (nf t' b').2) = nf (t * t') (b * b') := by
  obtain ⟨l, e⟩ := nf_low (t := t') hb'
  have l0 := l.pos
  refine nf_eq (Int.mul_ne_zero (by omega) (by omega)) (Int.mul_ne_zero hb hb') ?_
  calc p.1 * (nf t' b').1 * (b * b') = (p.1 * b) * ((nf t' b').1 * b') := by ac_rfl
    _ = (t * p.2) * (t' * (nf t' b').2) := by rw [h, e]
    _ = t * t' * (p.2 * (nf t' b').2) := by ac_rfl
theorem nf_add {t t' b : Int} {s : Int} (hb : b ≠ 0) : nf ((nf t b).1 * (nf t' b).2 + (nf t' b).1 * s * (nf t b).2) ((nf t b).2 * (nf t' b).2) = nf (t + t' * s) b := by
  obtain ⟨l, e⟩ := nf_low (t := t) hb
  obtain ⟨l', e'⟩ := nf_low (t := t') hb
  have l0 := l.pos
  have l0' := l'.pos
  refine nf_eq (Int.mul_ne_zero (by omega) (by omega)) hb ?_
  calc ((nf t b).1 * (nf t' b).2 + (nf t' b).1 * s * (nf t b).2) * b = ((nf t b).1 * b) * (nf t' b).2 + ((nf t' b).1 * b) * (s * (nf t b).2) := by rw [Int.add_mul]; congr 1 <;> ac_rfl
    _ = (t * (nf t b).2) * (nf t' b).2 + (t' * (nf t' b).2) * (s * (nf t b).2) := by rw [← e, ← e']
    _ = (t + t' * s) * ((nf t b).2 * (nf t' b).2) := by rw [Int.add_mul]; congr 1 <;> ac_rfl
/-- the bounds of the sweep's numbers -/
def Bd (B : Nat) (rows : List (List Int)) : Prop := ∀ r ∈ rows, ∀ x ∈ r, x.natAbs ≤ 2 ^ B
theorem fdiv_le (x b : Int) (hb : b ≠ 0) : (x.fdiv b).natAbs ≤ x.natAbs := by
  rcases Int.lt_or_lt_of_ne hb with h | h
  · have e : x.fdiv b = (-x).fdiv (-b) := by rw [Int.neg_fdiv_neg]
    rw [e, Int.fdiv_eq_ediv_of_nonneg _ (by omega)]
    have := Int.natAbs_ediv_le_natAbs (-x) (-b)
    omega
  · rw [Int.fdiv_eq_ediv_of_nonneg _ (by omega)]
    exact Int.natAbs_ediv_le_natAbs x b
theorem gi_le {B : Nat} {r : List Int} (h : ∀ x ∈ r, x.natAbs ≤ 2 ^ B) (j : Nat) : (gi r j).natAbs ≤ 2 ^ B := by
  unfold gi
  rw [List.getD_eq_getElem?_getD]
  cases e : r[j]? with
  | none => simp
  | some x => exact h x (List.mem_of_getElem? e)
theorem less_le {B : Nat} {piv row : List Int} {b : Int} (hb : b ≠ 0) (h1 : ∀ x ∈ piv, x.natAbs ≤ 2 ^ B) (h2 : ∀ x ∈ row, x.natAbs ≤ 2 ^ B) : ∀ x ∈ lessP piv b row, x.natAbs ≤ 2 ^ (2 * B + 1) := fun x hx => by
  obtain ⟨j, _, rfl⟩ := List.mem_map.mp hx
  refine Nat.le_trans (fdiv_le _ _ hb) ?_
  have a := Nat.mul_le_mul (gi_le h1 0) (gi_le h2 (j + 1))
  have c := Nat.mul_le_mul (gi_le h2 0) (gi_le h1 (j + 1))
  rw [← Int.natAbs_mul, ← Nat.pow_add] at a c
  have z := Int.natAbs_sub_le (gi piv 0 * gi row (j + 1)) (gi row 0 * gi piv (j + 1))
  rw [show 2 * B + 1 = B + B + 1 by omega, Nat.pow_succ]
  omega
end RimD

/-! minors, exchanges of any two rows, the first column, turned grids -/
set_option linter.all false
namespace RimD
/-- two rows exchanged -/
theorem D_sw {n i k : Nat} {A B : Mat} (hk : i < k) (hn : k < n) (h0 : ∀ c, B i c = A k c) (h1 : ∀ c, B k c = A i c) (h : ∀ r c, r ≠ i → r ≠ k → B r c = A r c) : D n B = -D n A := by
  have f : ∀ (x y : Nat → Int), ∃ M : Mat, (∀ c, M i c = x c) ∧ (∀ c, M k c = y c) ∧ ∀ r c, r ≠ i → r ≠ k → M r c = A r c := fun x y =>
    ⟨fun r c => if r = i then x c else if r = k then y c else A r c, fun c => by simp, fun c => by simp [show k ≠ i by omega], fun r c a b => by simp [a, b]⟩
  obtain ⟨Mww, a0, a1, a2⟩ := f (fun c => A i c + A k c) (fun c => A i c + A k c)
  obtain ⟨Muw, b0, b1, b2⟩ := f (A i) (fun c => A i c + A k c)
  obtain ⟨Mvw, c0, c1, c2⟩ := f (A k) (fun c => A i c + A k c)
  obtain ⟨Muu, d0, d1, d2⟩ := f (A i) (A i)
  obtain ⟨Mvv, e0, e1, e2⟩ := f (A k) (A k)
  have off : ∀ {M N : Mat} {r c : Nat}, (∀ c, M k c = N k c) → (∀ r c, r ≠ i → r ≠ k → M r c = A r c) → (∀ r c, r ≠ i → r ≠ k → N r c = A r c) → r ≠ i → M r c = N r c := fun {M N r c} x y z hr => by
    by_cases q : r = k
    · rw [q]; exact x c
    · rw [y r c hr q, z r c hr q]
  have off' : ∀ {M N : Mat} {r c : Nat}, (∀ c, M i c = N i c) → (∀ r c, r ≠ i → r ≠ k → M r c = A r c) → (∀ r c, r ≠ i → r ≠ k → N r c = A r c) → r ≠ k → M r c = N r c := fun {M N r c} x y z hr => by
    by_cases q : r = i
    · rw [q]; exact x c
    · rw [y r c q hr, z r c q hr]
  have s1 := D_lin (n := n) (i := i) (p := 1) (q := 1) (A := Mww) (B := Muw) (C := Mvw) (by omega) (fun r c hr => ⟨off (fun c => by rw [a1, b1]) a2 b2 hr, off (fun c => by rw [a1, c1]) a2 c2 hr⟩) fun c => by rw [a0, b0, c0]; omega
  have s2 := D_lin (n := n) (i := k) (p := 1) (q := 1) (A := Muw) (B := Muu) (C := A) hn (fun r c hr => ⟨off' (fun c => by rw [b0, d0]) b2 d2 hr, off' (fun c => by rw [b0]) b2 (fun _ _ _ _ => rfl) hr⟩) fun c => by rw [b1, d1]; omega
  have s3 := D_lin (n := n) (i := k) (p := 1) (q := 1) (A := Mvw) (B := B) (C := Mvv) hn (fun r c hr => ⟨off' (fun c => by rw [c0, h0]) c2 h hr, off' (fun c => by rw [c0, e0]) c2 e2 hr⟩) fun c => by rw [c1, h1, e1]; omega
  have z1 : D n Mww = 0 := D_eq0 hk hn fun c => by rw [a0, a1]
  have z2 : D n Muu = 0 := D_eq0 hk hn fun c => by rw [d0, d1]
  have z3 : D n Mvv = 0 := D_eq0 hk hn fun c => by rw [e0, e1]
  omega
/-- a row that another one times a number is put to -/
theorem D_put {n i j : Nat} {A B : Mat} {f : Int} (hi : i < n) (hj : j < n) (hij : i ≠ j) (h0 : ∀ c, B i c = A i c + f * A j c) (h : ∀ r c, r ≠ i → B r c = A r c) : D n B = D n A := by
  have e := D_lin (n := n) (i := i) (p := 1) (q := f) (A := B) (B := A) (C := fun r c => if r = i then A j c else A r c) hi (fun r c hr => ⟨h r c hr, by show B r c = if r = i then A j c else A r c; rw [if_neg hr]; exact h r c hr⟩) fun c => by
    show B i c = 1 * A i c + f * (if i = i then A j c else A i c)
    rw [if_pos rfl, h0]; omega
  have z : D n (fun r c => if r = i then A j c else A r c) = 0 := by
    rcases Nat.lt_or_gt_of_ne hij with q | q
    · exact D_eq0 (i := i) (j := j) q hj fun c => by rw [if_pos rfl, if_neg (Ne.symm hij)]
    · exact D_eq0 (i := j) (j := i) q hi fun c => by rw [if_pos rfl, if_neg (Ne.symm hij)]
  rw [z] at e
  omega
/-- nothing beneath the diagonal -/
theorem D_tri : ∀ {n : Nat} {A : Mat}, (∀ i j, j < i → i < n → A i j = 0) → D n A = pr n fun i => A i i
  | 0, _, _ => rfl
  | n + 1, A, h => by
    rw [D_col fun i h1 h2 => h i 0 h1 h2, pr_front, D_tri (n := n) (A := fun i j => A (i + 1) (j + 1)) fun i j h1 h2 => h _ _ (by omega) (by omega)]
theorem D_zrow {n i : Nat} {A : Mat} (hi : i < n) (h : ∀ c, A i c = 0) : D n A = 0 := by
  have e := D_row (n := n) (i := i) (p := 0) (A := A) (B := A) hi (fun _ _ _ => rfl) fun c => by rw [h c]; omega
  omega
/-- without the row i and the first column -/
def cmi (A : Mat) (i : Nat) : Mat := fun r c => A (sk i r) (c + 1)
theorem D_e0 : ∀ {i n : Nat} {A : Mat}, i < n + 1 → A i 0 = 1 → (∀ c, 0 < c → A i c = 0) → D (n + 1) A = sg i * D n (cmi A i)
  | 0, n, A, _, h1, h2 => by
    rw [D_succ, su_front, su_zero fun k hk => by rw [h2 (k + 1) (by omega)]; omega, h1]
    show sg 0 * 1 * D n (mi A 0) + 0 = sg 0 * D n (cmi A 0)
    have : D n (mi A 0) = D n (cmi A 0) := rfl
    rw [this, Int.mul_one, Int.add_zero]
  | i + 1, n, A, hi, h1, h2 => by
    obtain ⟨n, rfl⟩ : ∃ m, n = m + 1 := ⟨n - 1, by omega⟩
    rw [D_succ, su_front]
    have z0 : D (n + 1) (mi A 0) = 0 := D_zrow (i := i) (by omega) fun c => h2 (sk 0 c) (by unfold sk; split <;> omega)
    rw [z0, Int.mul_zero, Int.zero_add, D_succ, ← su_mul]
    refine su_congr fun k hk => ?_
    have ih := D_e0 (i := i) (n := n) (A := mi A (k + 1)) (by omega) h1 fun c hc => h2 (sk (k + 1) c) (by unfold sk; split <;> omega)
    have e : D n (cmi (mi A (k + 1)) i) = D n (mi (cmi A (i + 1)) k) := D_congr fun r c _ _ => by
      show A (sk i r + 1) (sk (k + 1) (c + 1)) = A (sk (i + 1) (r + 1)) (sk k c + 1)
      congr 1 <;> (unfold sk; split <;> split <;> omega)
    have e0 : cmi A (i + 1) 0 k = A 0 (k + 1) := rfl
    rw [ih, e, e0, sg_succ, sg_succ]
    generalize D n (mi (cmi A (i + 1)) k) = d
    generalize sg k = s
    generalize sg i = s'
    grind
/-- by the first column -/
theorem D_first (n : Nat) (A : Mat) : D (n + 1) A = su (n + 1) fun i => sg i * A i 0 * D n (cmi A i) := by
  have key : ∀ m, m ≤ n + 1 → D (n + 1) A = (su m fun i => sg i * A i 0 * D n (cmi A i)) + D (n + 1) fun r c => if r < m ∧ c = 0 then 0 else A r c := fun m => by
    induction m with
    | zero =>
      intro _
      have : D (n + 1) (fun r c => if r < 0 ∧ c = 0 then 0 else A r c) = D (n + 1) A := D_congr fun r c _ _ => by rw [if_neg (by omega)]
      rw [this]
      show _ = 0 + _
      omega
    | succ m ih =>
      intro hm
      rw [ih (by omega)]
      have e := D_lin (n := n + 1) (i := m) (p := A m 0) (q := 1) (A := fun r c => if r < m ∧ c = 0 then 0 else A r c) (B := fun r c => if r = m then (if c = 0 then 1 else 0) else if r < m ∧ c = 0 then 0 else A r c) (C := fun r c => if r < m + 1 ∧ c = 0 then 0 else A r c) (by omega)
        (fun r c hr => ⟨by rw [if_neg hr], by
          have : (r < m + 1 ∧ c = 0) = (r < m ∧ c = 0) := by apply propext; omega
          simp only [this]⟩) fun c => by
          by_cases hc : c = 0
          · subst hc
            simp
          · simp [hc]
      have z := D_e0 (i := m) (n := n) (A := fun r c => if r = m then (if c = 0 then 1 else 0) else if r < m ∧ c = 0 then 0 else A r c) (by omega) (by simp) fun c hc => by simp [show c ≠ 0 by omega]
      have e2 : D n (cmi (fun r c => if r = m then (if c = 0 then 1 else 0) else if r < m ∧ c = 0 then 0 else A r c) m) = D n (cmi A m) := D_congr fun r c _ _ => by
        show (if sk m r = m then (if c + 1 = 0 then 1 else 0) else if sk m r < m ∧ c + 1 = 0 then 0 else A (sk m r) (c + 1)) = A (sk m r) (c + 1)
        rw [if_neg (by unfold sk; split <;> omega), if_neg (by omega)]
      rw [e2] at z
      rw [e, z]
      show _ = (su m fun i => sg i * A i 0 * D n (cmi A i)) + sg m * A m 0 * D n (cmi A m) + _
      rw [Int.add_assoc, Int.one_mul, ← Int.mul_assoc, Int.mul_comm (A m 0) (sg m)]
  rw [key (n + 1) (Nat.le_refl _), D_zero fun i hi => by rw [if_pos (by omega)], Int.add_zero]
/-- turned -/
theorem D_turn : ∀ {n : Nat} {A : Mat}, (D n fun i j => A j i) = D n A
  | 0, _ => rfl
  | n + 1, A => by
    rw [D_first n A, D_succ]
    refine su_congr fun k hk => ?_
    have e : D n (mi (fun i j => A j i) k) = D n (cmi A k) := D_turn (n := n) (A := cmi A k)
    rw [e]
/-- all minors of the swept rows are minors of the first ones -/
def Mn (b : Int) (R k : Nat) (A A0 : Mat) (R0 : Nat) : Prop := ∀ (m : Nat) (ρ κ : Nat → Nat), (∀ i, ρ i < R) → ∃ (e : Int) (ρ0 κ0 : Nat → Nat), e.natAbs = 1 ∧ (∀ i, ρ0 i < R0) ∧ (D (m + 1) fun i j => A (ρ i) (κ j)) = e * b ^ m * D (m + 1 + k) fun i j => A0 (ρ0 i) (κ0 j)
theorem Mn_one (R : Nat) (A : Mat) : Mn 1 R 0 A A R := fun m ρ κ h => ⟨1, ρ, κ, rfl, h, by rw [Int.one_pow, Int.one_mul, Int.one_mul]⟩
theorem pr_abs : ∀ {n : Nat} {e : Nat → Int}, (∀ i, i < n → (e i).natAbs = 1) → (pr n e).natAbs = 1
  | 0, _, _ => rfl
  | n + 1, e, h => by
    show (pr n e * e n).natAbs = 1
    rw [Int.natAbs_mul, pr_abs fun i hi => h i (by omega), h n (by omega)]
theorem Mn_rows {b : Int} {R k R0 : Nat} {A B A0 : Mat} (h : Mn b R k A A0 R0) (π : Nat → Nat) (e : Nat → Int) (he : ∀ i, (e i).natAbs = 1) (hπ : ∀ i, i < R → π i < R) (hB : ∀ i j, i < R → B i j = e i * A (π i) j) : Mn b R k B A0 R0 := fun m ρ κ hρ => by
  have z : (D (m + 1) fun i j => B (ρ i) (κ j)) = pr (m + 1) (fun i => e (ρ i)) * D (m + 1) fun i j => A (π (ρ i)) (κ j) := by
    rw [← D_scale]
    exact D_congr fun i j _ _ => hB _ _ (hρ i)
  obtain ⟨e0, ρ0, κ0, a, c, d⟩ := h m (fun i => π (ρ i)) κ fun i => hπ _ (hρ i)
  refine ⟨pr (m + 1) (fun i => e (ρ i)) * e0, ρ0, κ0, ?_, c, ?_⟩
  · rw [Int.natAbs_mul, a, pr_abs fun i _ => he _]
  · rw [z, d]
    ac_rfl
theorem Mn_step {b : Int} {R k R0 : Nat} {A B A0 : Mat} (hb : b ≠ 0) (hp : A 0 0 ≠ 0) (h : Mn b (R + 1) k A A0 R0) (hB : ∀ i j, i < R → b * B i j = A 0 0 * A (i + 1) (j + 1) - A (i + 1) 0 * A 0 (j + 1)) : Mn (A 0 0) R (k + 1) B A0 R0 := fun m ρ κ hρ => by
  obtain ⟨e0, ρ0, κ0, a, c, ht⟩ := h (m + 1) (fun i => match i with | 0 => 0 | i + 1 => ρ i + 1) (fun j => match j with | 0 => 0 | j + 1 => κ j + 1) fun i => by
    cases i with
    | zero => exact Nat.succ_pos _
    | succ i => exact Nat.succ_lt_succ (hρ i)
  have e := D_step (n := m) (A := fun i j => A (match i with | 0 => 0 | i + 1 => ρ i + 1) (match j with | 0 => 0 | j + 1 => κ j + 1)) hp
  have e2 : (D (m + 1) fun i j => A 0 0 * A (ρ i + 1) (κ j + 1) - A (ρ i + 1) 0 * A 0 (κ j + 1)) = b ^ (m + 1) * D (m + 1) fun i j => B (ρ i) (κ j) := by
    rw [← pr_const, ← D_scale]
    exact D_congr fun i j _ _ => (hB _ _ (hρ i)).symm
  have e3 : A 0 0 ^ m * (e0 * b ^ (m + 1) * D (m + 1 + 1 + k) fun i j => A0 (ρ0 i) (κ0 j)) = b ^ (m + 1) * D (m + 1) fun i j => B (ρ i) (κ j) := by
    rw [← ht, ← e2]
    exact e
  refine ⟨e0, ρ0, κ0, a, c, ?_⟩
  refine Int.eq_of_mul_eq_mul_left (Int.pow_ne_zero (m := m + 1) hb) (e3.symm.trans ?_)
  rw [show m + 1 + (k + 1) = m + 1 + 1 + k by omega]
  ac_rfl
/-- so the numbers stay small -/
theorem Mn_le {b : Int} {R k R0 C : Nat} {A A0 : Mat} (h : Mn b R k A A0 R0) (hC : ∀ ρ κ : Nat → Nat, (∀ i, ρ i < R0) → (D (k + 1) fun i j => A0 (ρ i) (κ j)).natAbs ≤ C) {i j : Nat} (hi : i < R) : (A i j).natAbs ≤ C := by
  obtain ⟨e, ρ0, κ0, a, c, d⟩ := h 0 (fun _ => i) (fun _ => j) fun _ => hi
  have z : (D (0 + 1) fun _ _ => A i j) = A i j := by
    show 0 + sg 0 * A i j * 1 = A i j
    rw [show sg 0 = 1 from rfl]; omega
  rw [z, Int.pow_zero, Int.mul_one] at d
  rw [d, Int.natAbs_mul, a, Nat.one_mul, show 0 + 1 + k = k + 1 by omega]
  exact hC ρ0 κ0 c
theorem D_le4 {B : Nat} : ∀ {n : Nat} {N : Mat}, n ≤ 16 → (∀ i j, i < n → j < n → (N i j).natAbs ≤ 2 ^ B) → (D n N).natAbs ≤ 2 ^ ((B + 4) * n)
  | 0, _, _, _ => by show 1 ≤ 2 ^ ((B + 4) * 0); simp
  | n + 1, N, h8, h => by
    have z : (D (n + 1) N).natAbs ≤ (n + 1) * (2 ^ B * 2 ^ ((B + 4) * n)) := su_le fun k hk => by
      rw [Int.natAbs_mul, Int.natAbs_mul, sg_abs, Nat.one_mul]
      exact Nat.mul_le_mul (h 0 k (by omega) hk) (D_le4 (by omega) fun i j hi hj => h _ _ (by omega) (by unfold sk; split <;> omega))
    refine Nat.le_trans z (Nat.le_trans (Nat.mul_le_mul_right _ h8) ?_)
    rw [show (16 : Nat) = 2 ^ 4 by rfl, ← Nat.pow_add, ← Nat.pow_add, Nat.mul_succ]
    exact Nat.pow_le_pow_right (by decide) (by omega)
theorem piv_mn {rows ord : List (List Int)} {m k R0 : Nat} {b : Int} {A0 : Mat} (hl : m + 1 ≤ rows.length) (hd : Mn b (m + 1) k (ma rows) A0 R0) (h : pivP rows (m + 1) = ord) (hn : ord ≠ []) : Mn b (m + 1) k (ma ord) A0 R0 := by
  unfold pivP at h
  split at h
  · exact absurd h.symm hn
  · subst h; exact hd
  · rename_i k' e
    obtain ⟨_, hk, c⟩ := firstP_some e
    have hk' : k' + 1 < rows.length := by omega
    subst h
    have at' := piv_at hk'
    generalize ([(rows.getD (k' + 1) []).map fun x => -x] ++ (rows.drop 1).take k' ++ [rows.getD 0 []] ++ rows.drop (k' + 2)) = ord at *
    have m0 : ∀ c, ma ord 0 c = -ma rows (k' + 1) c := fun c => by unfold ma; rw [at', if_pos rfl, gi_map (by rfl)]
    have m1 : ∀ c, ma ord (k' + 1) c = ma rows 0 c := fun c => by unfold ma; rw [at', if_neg (by omega), if_pos rfl]
    have m2 : ∀ r c, r ≠ 0 → r ≠ k' + 1 → ma ord r c = ma rows r c := fun r c a b => by unfold ma; rw [at', if_neg a, if_neg b]
    refine Mn_rows hd (fun i => if i = 0 then k' + 1 else if i = k' + 1 then 0 else i) (fun i => if i = 0 then -1 else 1) (fun i => by show (if i = 0 then (-1 : Int) else 1).natAbs = 1; split <;> rfl) (fun i hi => ?_) fun i j hi => ?_
    · show (if i = 0 then k' + 1 else if i = k' + 1 then 0 else i) < m + 1
      split
      · omega
      · split <;> omega
    · by_cases h0 : i = 0
      · subst h0; simp only [if_true]; rw [m0]; omega
      · simp only [if_neg h0]
        by_cases h1 : i = k' + 1
        · subst h1; simp only [if_true]; rw [m1]; omega
        · simp only [if_neg h1]; rw [m2 i j h0 h1]; omega
/-- one round of the sweep -/
theorem sweep_next {left others : List (List Int)} {piv : List Int} {m w k R0 : Nat} {b : Int} {A0 : Mat} (hl : m + 1 ≤ left.length) (hr : Rect w left) (hb : b ≠ 0) (hd : Dv b (m + 1) (ma left)) (hm : Mn b (m + 1) k (ma left) A0 R0) (e : pivP left (m + 1) = piv :: others) :
    Dv (gi piv 0) m (ma (others.map (lessP piv b) ++ [piv.drop 1])) ∧ Mn (gi piv 0) m (k + 1) (ma (others.map (lessP piv b) ++ [piv.drop 1])) A0 R0 ∧ ∀ C, (∀ ρ κ : Nat → Nat, (∀ i, ρ i < R0) → (D (k + 1) fun i j => A0 (ρ i) (κ j)).natAbs ≤ C) → (gi piv 0).natAbs ≤ C := by
  obtain ⟨ln, rect, hp, dv, dd⟩ := piv_some hl hr hd e (by simp)
  have mn := piv_mn hl hm e (by simp)
  have pw : piv.length = w := rect.w _ (.head _)
  have ol : others.length + 1 = left.length := ln
  have row : ∀ i j, i < others.length → ma (others.map (lessP piv b) ++ [piv.drop 1]) i j = (ma (piv :: others) 0 0 * ma (piv :: others) (i + 1) (j + 1) - ma (piv :: others) (i + 1) 0 * ma (piv :: others) 0 (j + 1)).fdiv b := fun i j hi => by
    unfold ma
    have e1 : (others.map (lessP piv b) ++ [piv.drop 1]).getD i [] = lessP piv b (others.getD i []) := by
      rw [List.getD_eq_getElem?_getD, List.getElem?_append_left (by simpa using hi), List.getElem?_map, List.getD_eq_getElem?_getD, List.getElem?_eq_getElem hi]
      rfl
    have e2 : (piv :: others).getD (i + 1) [] = others.getD i [] := rfl
    have e3 : (piv :: others).getD 0 [] = piv := rfl
    rw [e1, e2, e3, gi_less]
    rw [pw]
    exact Rect.at ⟨fun r h => rect.w r (.tail _ h)⟩ hi
  have ex : ∀ i j, i < m → b * ma (others.map (lessP piv b) ++ [piv.drop 1]) i j = ma (piv :: others) 0 0 * ma (piv :: others) (i + 1) (j + 1) - ma (piv :: others) (i + 1) 0 * ma (piv :: others) 0 (j + 1) := fun i j hi => by
    rw [row i j (by omega)]
    exact fdiv_exact (Dv_two dv (by omega) (by omega)) hb
  exact ⟨Dv_step (A := ma (piv :: others)) hb hp dv ex, Mn_step (A := ma (piv :: others)) hb hp mn ex, fun C hC => Mn_le (i := 0) (j := 0) mn hC (by omega)⟩
end RimD

/-! what a fraction in lowest terms is worth, over any bottom -/
set_option linter.all false
namespace RimM
structure Is (p : Int × Int) (t b : Int) : Prop where
  low : Low p
  ne : b ≠ 0
  eq : p.1 * b = t * p.2
theorem is_nf {t b : Int} (h : b ≠ 0) : Is (nf t b) t b := ⟨(nf_low h).1, h, (nf_low h).2.symm⟩
theorem Is.to {p : Int × Int} {t b : Int} (h : Is p t b) : p = nf t b := by
  have := h.low.pos
  rw [← nf_of_low h.low]
  exact nf_eq (by omega) h.ne h.eq
theorem Is.conv {p : Int × Int} {t b t' b' : Int} (h : Is p t b) (hb : b' ≠ 0) (e : t * b' = t' * b) : Is p t' b' := by
  rw [h.to, nf_eq h.ne hb e]
  exact is_nf hb
theorem is_low {p : Int × Int} (h : Low p) : Is p p.1 p.2 := ⟨h, by have := h.pos; omega, rfl⟩
theorem Is.mul {p q : Int × Int} {t b t' b' : Int} (h : Is p t b) (h' : Is q t' b') : Is (nf (p.1 * q.1) (p.2 * q.2)) (t * t') (b * b') := by
  have p0 := h.low.pos
  have q0 := h'.low.pos
  refine (is_nf (Int.mul_ne_zero (by omega) (by omega))).conv (Int.mul_ne_zero h.ne h'.ne) ?_
  calc p.1 * q.1 * (b * b') = (p.1 * b) * (q.1 * b') := by ac_rfl
    _ = (t * p.2) * (t' * q.2) := by rw [h.eq, h'.eq]
    _ = t * t' * (p.2 * q.2) := by ac_rfl
theorem Is.add {p q : Int × Int} {t b t' b' : Int} (h : Is p t b) (h' : Is q t' b') : Is (nf (p.1 * q.2 + q.1 * p.2) (p.2 * q.2)) (t * b' + t' * b) (b * b') := by
  have p0 := h.low.pos
  have q0 := h'.low.pos
  refine (is_nf (Int.mul_ne_zero (by omega) (by omega))).conv (Int.mul_ne_zero h.ne h'.ne) ?_
  calc (p.1 * q.2 + q.1 * p.2) * (b * b') = (p.1 * b) * (q.2 * b') + (q.1 * b') * (p.2 * b) := by rw [Int.add_mul]; congr 1 <;> ac_rfl
    _ = (t * p.2) * (q.2 * b') + (t' * q.2) * (p.2 * b) := by rw [h.eq, h'.eq]
    _ = (t * b' + t' * b) * (p.2 * q.2) := by rw [Int.add_mul]; congr 1 <;> ac_rfl
theorem Is.sub {p q : Int × Int} {t b t' b' : Int} (h : Is p t b) (h' : Is q t' b') : Is (nf (p.1 * q.2 - q.1 * p.2) (p.2 * q.2)) (t * b' - t' * b) (b * b') := by
  have p0 := h.low.pos
  have q0 := h'.low.pos
  refine (is_nf (Int.mul_ne_zero (by omega) (by omega))).conv (Int.mul_ne_zero h.ne h'.ne) ?_
  calc (p.1 * q.2 - q.1 * p.2) * (b * b') = (p.1 * b) * (q.2 * b') - (q.1 * b') * (p.2 * b) := by rw [Int.sub_mul]; congr 1 <;> ac_rfl
    _ = (t * p.2) * (q.2 * b') - (t' * q.2) * (p.2 * b) := by rw [h.eq, h'.eq]
    _ = (t * b' - t' * b) * (p.2 * q.2) := by rw [Int.sub_mul]; congr 1 <;> ac_rfl
theorem Low.neg {p : Int × Int} (h : Low p) : Low (-p.1, p.2) := ⟨h.pos, by show Int.gcd (-p.1) p.2 = 1; rw [Int.neg_gcd]; exact h.co⟩
theorem Is.neg {p : Int × Int} {t b : Int} (h : Is p t b) : Is (-p.1, p.2) (-t) b := ⟨h.low.neg, h.ne, by show -p.1 * b = -t * p.2; rw [Int.neg_mul, Int.neg_mul, h.eq]⟩
/-- the one turned over: its bottom by its top without sign -/
theorem Is.share {p q : Int × Int} {t b t' b' : Int} (h : Is p t b) (h' : Is q t' b') (ht : t' ≠ 0) :
    (q.1 < 0 → Is (-(nf (p.1 * q.2) (p.2 * -q.1)).1, (nf (p.1 * q.2) (p.2 * -q.1)).2) (t * b') (b * t')) ∧ (¬ q.1 < 0 → Is (nf (p.1 * q.2) (p.2 * q.1)) (t * b') (b * t')) := by
  have p0 := h.low.pos
  have q0 := h'.low.pos
  have q1 : q.1 ≠ 0 := fun z => by
    have e := h'.eq
    rw [z, Int.zero_mul] at e
    rcases Int.mul_eq_zero.mp e.symm with a | a
    · exact ht a
    · omega
  have key : p.1 * q.2 * (b * t') = t * b' * (p.2 * q.1) := by
    calc p.1 * q.2 * (b * t') = (p.1 * b) * (t' * q.2) := by ac_rfl
      _ = (t * p.2) * (q.1 * b') := by rw [h.eq, h'.eq]
      _ = t * b' * (p.2 * q.1) := by ac_rfl
  have bt : b * t' ≠ 0 := Int.mul_ne_zero h.ne ht
  refine ⟨fun hn => ?_, fun hn => (is_nf (Int.mul_ne_zero (by omega) q1)).conv bt key⟩
  have z := (is_nf (t := p.1 * q.2) (b := p.2 * -q.1) (Int.mul_ne_zero (by omega) (by omega))).neg
  refine z.conv bt ?_
  rw [Int.neg_mul, key, Int.mul_neg, Int.mul_neg]
theorem nf_abs_le {t b : Int} (hb : b ≠ 0) : (nf t b).1.natAbs ≤ t.natAbs ∧ (nf t b).2.natAbs ≤ b.natAbs := by
  have key : ∀ {t b : Int}, 0 < b → (nf t b).1.natAbs ≤ t.natAbs ∧ (nf t b).2.natAbs ≤ b.natAbs := fun {t b} h => by
    rw [nf_pos h]
    exact ⟨by have := Int.natAbs_ediv_le_natAbs t (Int.gcd t b : Int); omega, by have := Int.natAbs_ediv_le_natAbs b (Int.gcd t b : Int); omega⟩
  rcases Int.lt_or_lt_of_ne hb with h | h
  · rw [nf_neg h]
    have := key (t := -t) (b := -b) (by omega)
    omega
  · exact key h
theorem nf_zero {b : Int} (hb : b ≠ 0) : nf 0 b = (0, 1) := by
  have : nf 0 1 = (0, 1) := by decide
  rw [← this]
  exact nf_eq hb (by decide) (by omega)
theorem Is.zero {p : Int × Int} {t b : Int} (h : Is p t b) : p = (0, 1) ↔ t = 0 := by
  refine ⟨fun e => ?_, fun e => ?_⟩
  · have z := h.eq
    rw [e] at z
    simp at z
    omega
  · rw [h.to, e]
    exact nf_zero h.ne
theorem is_zero {b : Int} (hb : b ≠ 0) : Is (0, 1) 0 b := ⟨⟨by decide, by decide⟩, hb, by simp⟩
/-- a cleared entry: one less a share of two, as the sweep by whole numbers has it -/
theorem clear_is {one two share : Int × Int} {Bkj B0j Bk0 B00 b Lk L0 B' : Int} (h1 : Is one Bkj (b * Lk)) (h2 : Is two B0j (b * L0)) (hs : Is share (Bk0 * (b * L0)) ((b * Lk) * B00)) (hB : b * B' = B00 * Bkj - Bk0 * B0j) :
    Is (nf (one.1 * (nf (share.1 * two.1) (share.2 * two.2)).2 - (nf (share.1 * two.1) (share.2 * two.2)).1 * one.2) (one.2 * (nf (share.1 * two.1) (share.2 * two.2)).2)) B' (B00 * Lk) := by
  have b0 : b ≠ 0 := fun z => h1.ne (by rw [z, Int.zero_mul])
  have lk : Lk ≠ 0 := fun z => h1.ne (by rw [z, Int.mul_zero])
  have l0 : L0 ≠ 0 := fun z => h2.ne (by rw [z, Int.mul_zero])
  have b00 : B00 ≠ 0 := fun z => hs.ne (by rw [z, Int.mul_zero])
  refine (h1.sub (hs.mul h2)).conv (Int.mul_ne_zero b00 lk) ?_
  have e : Bkj * (b * Lk * B00 * (b * L0)) - Bk0 * (b * L0) * B0j * (b * Lk) = (B00 * Bkj - Bk0 * B0j) * (b * Lk * (b * L0)) := by rw [Int.sub_mul]; congr 1 <;> ac_rfl
  rw [e, ← hB]
  ac_rfl
theorem Is.inj {p q : Int × Int} {t b : Int} (h : Is p t b) (h' : Is q t b) : p = q := h.to.trans h'.to.symm
/-- a sum over one bottom -/
theorem Is.plus {p q : Int × Int} {t t' b : Int} (h : Is p t b) (h' : Is q t' b) : Is (nf (p.1 * q.2 + q.1 * p.2) (p.2 * q.2)) (t + t') b := by
  refine (h.add h').conv h.ne ?_
  rw [← Int.add_mul, Int.mul_assoc]
/-- .. at its end -/
theorem Is.same {p q : Int × Int} {d L C Lc : Int} (h : Is p (d * (L * C)) (L * (d * Lc))) (h' : Is q C Lc) : p = q := by
  refine Is.inj (t := C) (b := Lc) (h.conv h'.ne ?_) h'
  ac_rfl
end RimM

/-! grids of whole numbers mixed row by row; their determinants over sixths -/
set_option linter.all false
namespace RimD
open RimM
theorem gi_zip {r s : List Int} (f : Int) (h : r.length = s.length) (c : Nat) : gi (List.zipWith (fun x y => x + f * y) r s) c = gi r c + f * gi s c := by
  unfold gi
  rw [List.getD_eq_getElem?_getD, List.getD_eq_getElem?_getD, List.getD_eq_getElem?_getD, List.getElem?_zipWith]
  by_cases hc : c < r.length
  · rw [List.getElem?_eq_getElem hc, List.getElem?_eq_getElem (by omega)]; rfl
  · rw [List.getElem?_eq_none (by omega), List.getElem?_eq_none (by omega)]; simp
theorem ma_set {N : List (List Int)} {a : Nat} {r : List Int} (ha : a < N.length) (i c : Nat) : ma (N.set a r) i c = if i = a then gi r c else ma N i c := by
  unfold ma
  rw [List.getD_eq_getElem?_getD, List.getElem?_set]
  by_cases h : a = i
  · subst h; simp [ha]
  · rw [if_neg h, if_neg (fun z => h z.symm), ← List.getD_eq_getElem?_getD]
def mixR (N : List (List Int)) (a b : Nat) (f : Int) : List (List Int) := N.set a (List.zipWith (fun x y => x + f * y) (N.getD a []) (N.getD b []))
theorem D_mix {n a b : Nat} {N : List (List Int)} {f : Int} (hn : N.length = n) (hr : ∀ r ∈ N, r.length = n) (ha : a < n) (hb : b < n) (hab : a ≠ b) : D n (ma (mixR N a b f)) = D n (ma N) := by
  have row : ∀ i, i < n → (N.getD i []).length = n := fun i hi => by
    rw [List.getD_eq_getElem?_getD, List.getElem?_eq_getElem (by omega)]
    exact hr _ (List.getElem_mem _)
  refine D_put (i := a) (j := b) (f := f) ha hb hab (fun c => ?_) fun r c h => ?_
  · unfold mixR
    rw [ma_set (by omega), if_pos rfl, gi_zip f (by rw [row a ha, row b hb])]
    rfl
  · unfold mixR
    rw [ma_set (by omega), if_neg h]
def swapR (N : List (List Int)) (a b : Nat) : List (List Int) := (N.set a (N.getD b [])).set b (N.getD a [])
theorem D_swapR {n a b : Nat} {N : List (List Int)} (hn : N.length = n) (ha : a < n) (hb : b < n) (hab : a ≠ b) : D n (ma (swapR N a b)) = -D n (ma N) := by
  have at_ : ∀ i c, ma (swapR N a b) i c = if i = b then ma N a c else if i = a then ma N b c else ma N i c := fun i c => by
    unfold swapR
    rw [ma_set (by simp; omega), ma_set (by omega)]
    rfl
  rcases Nat.lt_or_gt_of_ne hab with h | h
  · exact D_sw (i := a) (k := b) h hb (fun c => by rw [at_, if_neg hab, if_pos rfl]) (fun c => by rw [at_, if_pos rfl]) fun r c h1 h2 => by rw [at_, if_neg h2, if_neg h1]
  · exact D_sw (i := b) (k := a) h ha (fun c => by rw [at_, if_pos rfl]) (fun c => by rw [at_, if_neg hab, if_pos rfl]) fun r c h1 h2 => by rw [at_, if_neg h1, if_neg h2]
theorem mix_rows {n a b B : Nat} {N : List (List Int)} {f : Int} (hn : N.length = n) (hr : ∀ r ∈ N, r.length = n ∧ ∀ x ∈ r, x.natAbs ≤ B) (ha : a < n) (hb : b < n) (hf : f.natAbs ≤ 2) : ∀ r ∈ mixR N a b f, r.length = n ∧ ∀ x ∈ r, x.natAbs ≤ 3 * B := fun r h => by
  have row : ∀ i, i < n → (N.getD i []) ∈ N := fun i hi => by
    rw [List.getD_eq_getElem?_getD, List.getElem?_eq_getElem (by omega)]
    exact List.getElem_mem _
  rcases List.mem_or_eq_of_mem_set h with h | h
  · exact ⟨(hr r h).1, fun x hx => by have := (hr r h).2 x hx; omega⟩
  · subst h
    obtain ⟨a1, a2⟩ := hr _ (row a ha)
    obtain ⟨b1, b2⟩ := hr _ (row b hb)
    refine ⟨by rw [List.length_zipWith, a1, b1, Nat.min_self], fun x hx => ?_⟩
    obtain ⟨i, hi, rfl⟩ := List.mem_iff_getElem.mp hx
    rw [List.getElem_zipWith]
    simp only [List.length_zipWith] at hi
    have c1 := a2 _ (List.getElem_mem (show i < (N.getD a []).length by omega))
    have c2 := b2 _ (List.getElem_mem (show i < (N.getD b []).length by omega))
    have c3 := Int.natAbs_add_le ((N.getD a [])[i]'(by omega)) (f * (N.getD b [])[i]'(by omega))
    rw [Int.natAbs_mul] at c3
    have c4 := Nat.mul_le_mul hf c2
    omega
theorem swap_rows {n a b : Nat} {N : List (List Int)} {P : List Int → Prop} (hn : N.length = n) (hr : ∀ r ∈ N, P r) (ha : a < n) (hb : b < n) : ∀ r ∈ swapR N a b, P r := fun r h => by
  have row : ∀ i, i < n → (N.getD i []) ∈ N := fun i hi => by
    rw [List.getD_eq_getElem?_getD, List.getElem?_eq_getElem (by omega)]
    exact List.getElem_mem _
  rcases List.mem_or_eq_of_mem_set h with h | h
  · rcases List.mem_or_eq_of_mem_set h with h | h
    · exact hr r h
    · subst h; exact hr _ (row b hb)
  · subst h; exact hr _ (row a ha)
/-- determinants over bottoms of their own -/
theorem D_over {n : Nat} {A N : Mat} {L : Nat → Int} {c : Int} (hL : ∀ i, i < n → L i ≠ 0) (hc : c ≠ 0) (h : ∀ i j, i < n → j < n → c * A i j = L i * N i j) : nf (D n A) (pr n L) = nf (D n N) (c ^ n) := by
  have e : pr n (fun _ => c) * D n A = pr n L * D n N := by
    rw [← D_scale, ← D_scale]
    exact D_congr h
  rw [pr_const] at e
  have p0 : ∀ m, m ≤ n → pr m L ≠ 0 := fun m => by
    induction m with
    | zero => intro _; exact (by decide : (1 : Int) ≠ 0)
    | succ m ih => intro hm; exact Int.mul_ne_zero (ih (by omega)) (hL m (by omega))
  refine nf_eq (p0 n (Nat.le_refl _)) (Int.pow_ne_zero hc) ?_
  rw [Int.mul_comm, e, Int.mul_comm]
theorem nf_sign {s t b : Int} (hb : b ≠ 0) (hs : s = 1 ∨ s = -1) : nf (s * t) b = ((nf t b).1 * s, (nf t b).2) := by
  rcases hs with rfl | rfl
  · rw [Int.one_mul, Int.mul_one]
  · have := (is_nf (t := t) hb).neg.to
    rw [show (-1 : Int) * t = -t by omega, ← this, show (nf t b).1 * -1 = -(nf t b).1 by omega]
/-- a turned grid -/
def turnR (n : Nat) (N : List (List Int)) : List (List Int) := (List.range n).map fun j => N.map fun r => gi r j
theorem ma_turn {n : Nat} {N : List (List Int)} (hn : N.length = n) {i j : Nat} (hi : i < n) (hj : j < n) : ma (turnR n N) i j = ma N j i := by
  unfold ma turnR
  rw [List.getD_eq_getElem?_getD, List.getElem?_map, List.getElem?_range hi]
  show gi (N.map fun r => gi r i) j = _
  rw [gi, List.getD_eq_getElem?_getD, List.getElem?_map, List.getD_eq_getElem?_getD, List.getElem?_eq_getElem (by omega)]
  rfl
theorem D_turnR {n : Nat} {N : List (List Int)} (hn : N.length = n) : D n (ma (turnR n N)) = D n (ma N) := by
  rw [← D_turn (A := ma N)]
  exact D_congr fun i j hi hj => ma_turn hn hi hj
end RimD

set_option Elab.async false
set_option linter.all false
set_option maxRecDepth 100000
namespace L2
open PySem PySem.Spec PyProof.Rows
/-! ### a try whose body comes to its end -/
theorem ps_tryOk {X : Cx} {body : List Stmt} {h₀ : ExceptHandler} {hs : List ExceptHandler} {t : TS} {pos : Pos} (hb : ∀ EE, PSs (X.wish EE) body t) : PS X (.Try body (h₀ :: hs) [] [] pos) t := by
  intro pins s σ H D I h
  refine wpAny_Try_except (wpAny_mono (hb (fun _ _ => False) pins s σ H D (I.wish _) h) (fun f s1 q => ?_) fun _ _ x => x.elim)
  have q' := SP.unwish q
  cases f with
  | next => exact wpAny_execs_nil q'
  | brk => exact q'
  | cont => exact q'
  | ret u => exact q'
/-- try: return (f(..), ..) where f raises; except P as n: suite -/
theorem ps_tryR {X : Cx} {x y n : Str} {ps : List Str} {k i : Nat} {sp : Sp} {e₀ : Expr} {es es' : List Expr} {ta : TA} {more suite : List Stmt} {b₀ : Stmt} {ts : TS} {kt : Nat} {p cpos tpos epos np hpos pos : Pos} {Py : Addr}
    (C : CalR X.prog X.w X.K X.mg X.base x ps k sp) (hr : Room k X.A) (hg : Gl X x) (hst : X.stack = X.env :: X.outer) (hfr : X.env.frame = some X.env.locals) (hy : X.mg y = some (.ref Py)) (HC : HnC X.K Py) (hgy : Gl X y)
    (hN : X.N.Nodup) (hi : X.N[i]? = some n) (hn : X.env.scope.names.lookup n = some .local) (ha : ∀ EE, PA (X.wish EE) (e₀ :: es) ta) (hs : ∀ e, PSs (X.suite e) (b₀ :: suite) ts)
    (hdb : (x == ("__debug__" : Str)) = false := by decide) (hdy : (y == ("__debug__" : Str)) = false := by decide)
    (he : starEach (e₀ :: es) X.env = (false, eval e₀ X.env) :: starEach es X.env := by rfl) (hpl : (backTo cpos (starEach es X.env)).any (·.1) = false := by rfl)
    (ht : starEach (.Call (.Name x p) (e₀ :: es) [] cpos :: es') X.env = (false, eval (.Call (.Name x p) (e₀ :: es) [] cpos) X.env) :: starEach es' X.env := by rfl) :
    PS X (.Try (.Return (some (.Tuple (.Call (.Name x p) (e₀ :: es) [] cpos :: es') kt tpos)) epos :: more) [.ExceptHandler (some (.Name y np)) (some n) (b₀ :: suite) hpos] [] [] pos) (tTry X.K Py sp ta i ts) := by
  intro pins s σ H D I h
  refine wpAny_Try_except (wpAny_execs_cons (wpAny_Return_some (wpAny_Tuple_spliced ?_)))
  rw [ht]
  show wpAny _ _ (spliced ((false, eval (.Call (.Name x p) (e₀ :: es) [] cpos) X.env) :: backTo tpos (starEach es' X.env))) _ _ s
  refine Calls.spliced_cons (run_raises C hr hg (ha _) I h ?_ hdb he hpl)
  intro H1 s1 e s' I1 hq
  · obtain ⟨ea, C0, a0, B, H', rfl, os, bare, un, hok, fl, new, b1, b2, C, rfl, hsub, hts⟩ := hq
    have fl' : Heap.FlyingW B (X.env :: X.outer) ea (.ref C) a0 s'.heap := hst ▸ fl
    have hn' : H' ea = none := by
      cases z : H' ea with
      | none => rfl
      | some o =>
        obtain ⟨u, hu⟩ := b2 ea o z
        rw [fl.2.1] at hu
        cases hu
    refine wpAny_looks_onW (L := X.env.locals) (by rw [I.ok.frames, hst]) hfr fl' fun h₄ hd₄ sm₄ => ?_
    refine wpAny_landsW hd₄ fun h₅ fl₅ sm₅ => ?_
    obtain ⟨un5, ok5⟩ := un_moved un hok fl.1 fl₅.1 fl.2.2.1 (sm₄.trans sm₅) b1 b2
    have I5 : Inv X pins σ H' { s' with heap := h₅ } := I1.call' (s' := { s' with heap := h₅ }) os un5 ok5 bare (fun b z => nomatch z)
    refine wpAny_handleBy_cons (codeAny_handlers_test ?_) (by intro q; cases q)
    refine ld_glob (X := X.suite (.ref ea)) (I5.suite _) hgy hy ?_ hdy
    refine exc_matches (K := X.K) I5.kIn HC hsub fl₅.there ?_
    refine codeAny_handlers_suite_as ?_
    refine lands_againW fl₅ fun h₆ fl₆ sm₆ => ?_
    obtain ⟨un6, ok6⟩ := un_moved un hok fl.1 fl₆.1 fl.2.2.1 ((sm₄.trans sm₅).trans sm₆) b1 b2
    obtain ⟨un7, ok7⟩ := un_exc un6 ok6 new hn' fl₆.there
    have I7 : Inv X pins σ (upd H' ea (exO (.ref C) ea)) { s' with heap := h₆ } := I1.call' (s' := { s' with heap := h₆ }) os un7 ok7 bare (fun b z => nomatch z)
    refine store_ok (X := X.suite (.ref ea)) (I7.suite _) hN hi (.inl hn) (v := .ref ea) rfl (fun s₈ I8 => ?_) (.inr hn)
    refine wpAny_mono (hs (.ref ea) pins s₈ _ _ (D.unb i) I8 (hts ea hn')) (fun fw s₉ q => ?_) fun _ _ z => z.elim
    show wpAny _ _ (do bindName X.env n .none; unbindBehindTheSuite X.env n hpos) _ _ s₉
    cases fw with
    | next => obtain ⟨σ', H9, J, d⟩ := q; exact goes_ok (J.unsuite I.ok) hN hi hn fun s' J' => ⟨_, _, J', d⟩
    | brk => obtain ⟨σ', H9, J, d⟩ := q; exact goes_ok (J.unsuite I.ok) hN hi hn fun s' J' => ⟨_, _, J', d⟩
    | cont => obtain ⟨σ', H9, J, d⟩ := q; exact goes_ok (J.unsuite I.ok) hN hi hn fun s' J' => ⟨_, _, J', d⟩
    | ret u => obtain ⟨v, σ', H9, J, rv, d⟩ := q; exact goes_ok (J.unsuite I.ok) hN hi hn fun s' J' => ⟨v, _, _, J', rv, d⟩
/-! ### a comprehension with a test -/
theorem comp_flt {J : It} {g : TG} {tt : TT} {te : TE} {σ : St} {H : Hp} {Q : VK} (n : Nat) (Pσ : St → Prop) (bs : Nat → Bool) (val : Nat → V) (h0 : Pσ σ) (hz : n ≤ 1000) (hgo : ∀ i H', i < n → Same H H' → J.go i H') (hst : ∀ H', Same H H' → J.stop n H')
    (hs : ∀ D i x σ' H' H'', H D = none → (∃ o, H' D = some o) → Same H H' → i < n → J.yld i H' x H'' → Pσ σ' → ∀ (Y : St → V → Hp → Prop) (R : St → Hp → Prop), (bs i = true → ∀ σ2 H3, Pσ σ2 → Same H' H3 → Y σ2 (val i) H3) → (bs i = false → ∀ σ2 H3, Pσ σ2 → Same H' H3 → R σ2 H3) →
      g x σ' H'' fun σ2 H2 => tt σ2 H2 fun b H3 => if b = true then te σ2 H3 fun v H4 => Y σ2 v H4 else R σ2 H3)
    (hd : ∀ D H', H D = none → Same H H' → H' D = some (.lst (((List.range n).filter bs).map val)) → Q (.ref D) H') : CompGo J g tt te σ H Q := by
  intro D hD
  refine ⟨fun i m σ' H' => m = n - i ∧ i ≤ n ∧ Pσ σ' ∧ Same H H' ∧ H' D = some (.lst (((List.range i).filter bs).map val)), ⟨n, by simp, Nat.zero_le _, h0, Same.new hD, upd_same⟩, ?_⟩
  rintro i m σ' H' ⟨rfl, hi, hp, hs', hDD⟩
  by_cases hlt : i < n
  · refine .inr ⟨hgo i H' hlt hs', fun σ2 H2 => Pσ σ2 ∧ Same H H2 ∧ H2 D = some (.lst (((List.range (i + 1)).filter bs).map val)), fun σ2 H2 ⟨a, b, c⟩ => ⟨n - (i + 1), by omega, rfl, hlt, a, b, c⟩, fun x H'' hy => ?_⟩
    refine hs D i x σ' H' H'' hD ⟨_, hDD⟩ hs' hlt hy hp _ _ (fun hb σ2 H3 hp2 s3 => ?_) fun hb σ2 H3 hp2 s3 => ?_
    · refine ⟨_, s3 _ _ hDD, ?_, hp2, (hs'.trans s3).upd hD, ?_⟩
      · rw [List.length_map]
        have := List.length_filter_le bs (List.range i)
        rw [List.length_range] at this
        exact small1000 (by omega)
      · rw [upd_same, List.range_succ, List.filter_append, List.map_append]
        simp [hb]
    · refine ⟨hp2, hs'.trans s3, ?_⟩
      rw [List.range_succ, List.filter_append, List.map_append]
      have e : [i].filter bs = [] := by simp [hb]
      rw [e, List.map_nil, List.append_nil]
      exact s3 _ _ hDD
  · have e : i = n := by omega
    subst e
    exact .inl ⟨hst H' hs', hd D H' hD hs' hDD⟩
end L2

set_option Elab.async false
set_option linter.all false
set_option maxRecDepth 100000
namespace L2
open PySem PySem.Spec PyProof.Rows
/-! ### the part of the heap that stays: S, all else may be changed -/
/-- S and what is new behind a call -/
def grow (S H H' : Hp) : Hp := fun b => match H b with | some _ => S b | none => H' b
theorem grow_old {S H H' : Hp} {b : Addr} {o : HO} (h : H b = some o) : grow S H H' b = S b := by unfold grow; rw [h]
theorem grow_at {S H H' : Hp} {b : Addr} (h : H b = none) : grow S H H' b = H' b := by unfold grow; rw [h]
theorem grow_same {S H H' : Hp} (s : Same S H) : Same S (grow S H H') := fun b o h => by rw [grow_old (s _ _ h)]; exact h
theorem grow_in {S H H' : Hp} (s : Same S H) (t : Same H H') : Same (grow S H H') H' := fun b o h => by
  unfold grow at h
  cases e : H b with
  | some z => rw [e] at h; exact t _ _ (s _ _ h)
  | none => rw [e] at h; exact h
theorem grow_new {S H H' : Hp} : Same (newH H H') (grow S H H') := fun b o h => by
  obtain ⟨h1, h2⟩ := newH_of h
  rw [grow_at h1]; exact h2
/-- .. but for D -/
def growX (S H H' : Hp) (D : Addr) : Hp := fun b => if b = D then none else grow S H H' b
theorem growX_D {S H H' : Hp} {D : Addr} : growX S H H' D D = none := by unfold growX; rw [if_pos rfl]
theorem growX_old {S H H' : Hp} {D b : Addr} {o : HO} (h : H b = some o) (hD : H D = none) : growX S H H' D b = S b := by
  unfold growX
  rw [if_neg (ne_of_none h hD), grow_old h]
theorem growX_same {S H H' : Hp} {D : Addr} (s : Same S H) (hD : H D = none) : Same S (growX S H H' D) := fun b o h => by rw [growX_old (s _ _ h) hD]; exact h
theorem growX_in {S H H' : Hp} {D : Addr} (s : Same S H) (t : Same H H') : Same (growX S H H' D) H' := fun b o h => by
  unfold growX at h
  by_cases e : b = D
  · rw [if_pos e] at h; cases h
  · rw [if_neg e] at h; exact grow_in s t _ _ h
theorem growX_cut {S H H' : Hp} {D : Addr} : Same (cutH H D H') (growX S H H' D) := fun b o h => by
  obtain ⟨h0, h1, h2⟩ := cutH_of h
  unfold growX
  rw [if_neg h0, grow_at h1]; exact h2
theorem same_put {S H : Hp} {a : Addr} {o : HO} (s : Same S H) (h : S a = none) : Same S (upd H a o) := fun b z e => by
  rw [upd_ne (ne_of_none e h)]; exact s _ _ e
/-- a new object that stays -/
theorem stay_new {S H : Hp} {a : Addr} {o : HO} (s : Same S H) (h : H a = none) : Same (upd S a o) (upd H a o) := fun b z e => by
  by_cases q : b = a
  · subst q; rw [upd_same] at e ⊢; exact e
  · rw [upd_ne q] at e ⊢; exact s _ _ e
theorem stay_grow {S H : Hp} {a : Addr} {o : HO} (s : Same S H) (h : H a = none) : Same S (upd S a o) := Same.new (s.free h)
/-- a comprehension that only makes new things; the list itself told apart from what is in it -/
theorem comp_anyD {J : It} {g : TG} {te : TE} {σ : St} {H : Hp} {Q : VK} (n : Nat) (B : Hp) (Pσ : St → Prop) (ds : List Dt) (hB : Same B H) (h0 : Pσ σ) (hlen : ds.length = n) (hz : n ≤ 1000)
    (hgo : ∀ i H', i < n → Same H H' → J.go i H') (hst : ∀ H', Same H H' → J.stop n H')
    (hs : ∀ D i x d σ' H' H'', H D = none → (∃ o, H' D = some o) → Same H H' → i < n → ds[i]? = some d → J.yld i H' x H'' → Pσ σ' → ∀ R : St → V → Hp → Prop,
      (∀ σ2 v H3, Pσ σ2 → Same H' H3 → Rep (cutH B D H3) v d → R σ2 v H3) → g x σ' H'' fun σ2 H2 => te σ2 H2 fun v H3 => R σ2 v H3)
    (hd : ∀ D H' ys, H D = none → Same H H' → H' D = some (.lst ys) → Reps (cutH B D H') ys ds → Q (.ref D) H') : CompGo J g tYes te σ H Q := by
  intro D hD
  refine ⟨fun i m σ' H' => m = n - i ∧ i ≤ n ∧ Pσ σ' ∧ Same H H' ∧ ∃ ys, H' D = some (.lst ys) ∧ Reps (cutH B D H') ys (ds.take i) ∧ ys.length = i, ⟨n, by simp, Nat.zero_le _, h0, Same.new hD, [], upd_same, rfl, rfl⟩, ?_⟩
  rintro i m σ' H' ⟨rfl, hi, hp, hs', ys, hys, hr, hl⟩
  by_cases hlt : i < n
  · refine .inr ⟨hgo i H' hlt hs', fun σ2 H2 => Pσ σ2 ∧ Same H H2 ∧ ∃ ys, H2 D = some (.lst ys) ∧ Reps (cutH B D H2) ys (ds.take (i + 1)) ∧ ys.length = i + 1, fun σ2 H2 ⟨a, b, c⟩ => ⟨n - (i + 1), by omega, rfl, hlt, a, b, c⟩, fun x H'' hy => ?_⟩
    have hdi : ds[i]? = some ds[i] := by simp [hlen, hlt]
    simp only [tYes, if_true]
    refine hs D i x ds[i] σ' H' H'' hD ⟨_, hys⟩ hs' hlt hdi hy hp _ fun σ2 v H3 hp2 s3 hv => ?_
    refine ⟨ys, s3 _ _ hys, by rw [hl]; exact small1000 (by omega), hp2, (hs'.trans s3).upd hD, ys ++ [v], upd_same, ?_, by simp [hl]⟩
    rw [cutH_upd]
    have e : ds.take (i + 1) = ds.take i ++ [ds[i]] := by rw [List.take_succ, hdi]; rfl
    rw [e]
    exact (Reps.mono (cutH_mono s3) _ hr).append ⟨v, [], rfl, hv, rfl⟩
  · have e : i = n := by omega
    subst e
    refine .inl ⟨hst H' hs', hd D H' ys hD hs' hys ?_⟩
    rw [List.take_of_length_le (by omega)] at hr
    exact hr
/-- exceptions that can't be -/
theorem ps_nox {X : Cx} {st : Stmt} {t : TS} (h : PS X.nox st t) : PS X st t := fun pins s σ H D I q => wpAny_mono (h pins s σ H D (I.wish _) q) (fun f s' z => SP.unwish z) fun _ _ z => z.elim
theorem pe_nox {X : Cx} {e : Expr} {t : TE} (h : PE X.nox e t) : PE X e t := fun pins s σ H Q I q => wpAny_mono (h pins s σ H Q (I.wish _) q) (fun v s' ⟨x, H', J, r, z⟩ => ⟨x, H', J.unwish, r, z⟩) fun _ _ z => z.elim
end L2

set_option Elab.async false
set_option linter.all false
set_option maxRecDepth 100000
set_option maxHeartbeats 4000000
namespace Rim4
open PySem PySem.Spec PyProof.Rows L2 RimM
theorem plainT_int : plainT "int" = True := eq_true (.inl rfl)
theorem plainT_bool : plainT "bool" = True := eq_true (.inr (.inl rfl))
theorem plainT_tuple : plainT "tuple" = True := eq_true (.inr (.inr (.inl rfl)))
theorem plainT_list : plainT "list" = True := eq_true (.inr (.inr (.inr (.inl rfl))))
theorem plainT_str : plainT "str" = True := eq_true (.inr (.inr (.inr (.inr rfl))))
theorem gcd_step {x y : Int} (hx : 0 ≤ x) (hy : 0 < y) : Int.gcd y (x % y) = Int.gcd x y := by
  obtain ⟨m, rfl⟩ := Int.eq_ofNat_of_zero_le hx
  obtain ⟨n, rfl⟩ := Int.eq_ofNat_of_zero_le (Int.le_of_lt hy)
  show Int.gcd (n : Int) ((m : Int) % (n : Int)) = Int.gcd (m : Int) (n : Int)
  rw [← Int.natCast_emod, Int.gcd_natCast_natCast, Int.gcd_natCast_natCast, Nat.gcd_comm n, ← Nat.gcd_rec, Nat.gcd_comm]
local macro_rules | `(tactic| walk_at "rd") => `(tactic| simp only [tSeq, tAsg, gName, tTup, tLst, tCons, tNil, tVar, tC, tCB, tOp, rI, rI0, tTest, tIfS, tNext, tRet, tRetN, tDrop, tB, tAnd, tOr, tNot, tAndV, tOrV, tNotV, rU, tUn, tBM0, tBM, rBits, tCall, L2.start, rIxTH, rIxLH, rLenH, rEqTH, rEq, rNe, scal, tyV, CMul, CMulB, CDivB, CDivF, CPow, List.map_cons, List.map_nil, List.length_cons, List.length_nil, List.replicate, List.cons_append, List.nil_append, List.append_nil, List.set_cons_zero, List.set_cons_succ, List.getElem?_cons_zero, List.getElem?_cons_succ, Option.some.injEq, List.cons.injEq, V.int.injEq, V.bl.injEq, V.str.injEq, V.ref.injEq, V.ty.injEq, HO.tup.injEq, HO.lst.injEq, exists_eq_left, exists_eq_left', exists_and_left, and_assoc, and_true, true_and, upd_same, atI_0, atI_1, atI_2, Nat.zero_add, Nat.reduceAdd, Nat.reduceSub, decide_eq_true_eq, Bool.not_eq_true', decide_eq_false_iff_not, reduceCtorEq, false_or, or_false, true_or, or_true, plainT_int, plainT_bool, plainT_tuple, plainT_list, plainT_str, Bool.false_eq_true, if_false, if_true, Bool.not_false, Bool.not_true, Bool.not_not, gSub, rSetL, ixN_00, upd_upd, rCat, iRng1, tFor_eq, tPar, iList, tComp, pick, tYes, iZip, gTup, gCons, gNil, rSum, rListH, List.map, Option.bind, iRng2, iRngD, tSl, rSlH, tPart, tNoPart, tPar3])
structure Txt (K : PySem.W.Frag) (mg : Str → Option Value) : Prop where
  n_max : mg "max" = none
  n_min : mg "min" = none
  n_abs : mg "abs" = none
  n_len : mg "len" = none
  n_range : mg "range" = none
  n_list : mg "list" = none
  n_zip : mg "zip" = none
  c_LONG_BITS : ∃ t, mg "LONG_BITS" = some (.int 8000 t)
variable {P : Program} {w : World} {K : PySem.W.Frag} {mg : Str → Option Value} {base : Heap}
abbrev s_greatest_divisor : Stmt := PySem.Challenge.pw_rimread_k04_determinants_of_many_rows.main.body.getD 8 (.Pass ⟨0, 0, 0, 0⟩)
theorem sc_greatest_divisor : FnScope ["one", "other", "pair", "rest"] ["one", "other"] (defScope s_greatest_divisor) := ⟨rfl, rfl, rfl, by decide +kernel, rfl, by decide +kernel, by decide +kernel⟩
theorem lk_greatest_divisor_0 : (defScope s_greatest_divisor).names.lookup ("one" : Str) = some PySem.NameKind.local := by decide +kernel
theorem lk_greatest_divisor_1 : (defScope s_greatest_divisor).names.lookup ("other" : Str) = some PySem.NameKind.local := by decide +kernel
theorem lk_greatest_divisor_2 : (defScope s_greatest_divisor).names.lookup ("pair" : Str) = some PySem.NameKind.local := by decide +kernel
theorem lk_greatest_divisor_3 : (defScope s_greatest_divisor).names.lookup ("rest" : Str) = some PySem.NameKind.local := by decide +kernel
theorem gk_greatest_divisor_LONG_BITS : (defScope s_greatest_divisor).names.lookup ("LONG_BITS" : Str) = some PySem.NameKind.globalImplicit := by decide +kernel
theorem gk_greatest_divisor_max : (defScope s_greatest_divisor).names.lookup ("max" : Str) = some PySem.NameKind.globalImplicit := by decide +kernel
theorem gk_greatest_divisor_min : (defScope s_greatest_divisor).names.lookup ("min" : Str) = some PySem.NameKind.globalImplicit := by decide +kernel
def sp_gcd : Sp := fun vs H Q _ => ∃ a b : Int, vs = [.int a, .int b] ∧ 0 ≤ a ∧ 0 ≤ b ∧ Builtin.Int.intBits a ≤ 8000 ∧ Builtin.Int.intBits b ≤ 8000 ∧ ∀ H', Same H H' → Q (.int (Int.gcd a b : Nat)) H'
theorem ok_greatest_divisor (T : Txt K mg) (F : Fn0 K mg "greatest_divisor" s_greatest_divisor) : Cal P w K mg base "greatest_divisor" ["one", "other"] 1 sp_gcd := by
  refine cal_of F sc_greatest_divisor (fun _ _ _ _ _ _ us hl => match us, hl with | [_, _], _ => rfl) ?len ?body
  case len => rintro vs H Q E ⟨a, b, rfl, _⟩; rfl
  case body =>
    intro f cdv A outer s H vs Q E hr h
    obtain ⟨a, b, rfl, ha, hb, la, lb, k⟩ := h
    refine' ⟨_, ?D, ?R⟩
    case D =>
      refine' pss_cons ?g1 ?g2
      case g1 =>
        refine' ps_set1 (i := 2) sc_greatest_divisor.nd rfl lk_greatest_divisor_2 ?g3
        case g3 =>
          refine' pe_tup ?g4
          case g4 =>
            refine' pa_c ?g5 ?g6
            case g5 =>
              refine' pe_callE (call_max2 rfl) gk_greatest_divisor_max T.n_max bt_max ?g7
              case g7 =>
                refine' pa_c ?g8 ?g9
                case g8 => exact pv1 0 rfl lk_greatest_divisor_0
                case g9 =>
                  refine' pa_c ?g10 ?g11
                  case g10 => exact pv1 1 rfl lk_greatest_divisor_1
                  case g11 => exact pa_nil
            case g6 =>
              refine' pa_c ?g12 ?g13
              case g12 =>
                refine' pe_callE (call_min2 rfl) gk_greatest_divisor_min T.n_min bt_min ?g14
                case g14 =>
                  refine' pa_c ?g15 ?g16
                  case g15 => exact pv1 0 rfl lk_greatest_divisor_0
                  case g16 =>
                    refine' pa_c ?g17 ?g18
                    case g17 => exact pv1 1 rfl lk_greatest_divisor_1
                    case g18 => exact pa_nil
              case g13 => exact pa_nil
      case g2 =>
        refine' pss_cons ?g19 ?g20
        case g19 =>
          refine' ps_while PassesOwn.never ?g21 ?g22
          case g21 =>
            refine' pt_cmpR op_gt ?g23 ?g24 (nomark _)
            case g23 =>
              refine' pe_bm0 PySem.F.plainAttrs_int PySem.F.slot_int_bit_length PySem.F.type_int_bit_length mt_bits ?g25
              case g25 =>
                refine' pe_ix ix_tupH ?g26 ?g27 (fun _ _ => rfl)
                case g26 => exact pv1 2 rfl lk_greatest_divisor_2
                case g27 => exact pe_int
            case g24 => exact pe_gint T.c_LONG_BITS gk_greatest_divisor_LONG_BITS
          case g22 => exact pss_never
        case g20 =>
          refine' pss_cons ?g28 ?g29
          case g28 =>
            refine' ps_set1 (i := 0) sc_greatest_divisor.nd rfl lk_greatest_divisor_0 ?g30
            case g30 =>
              refine' pe_ix ix_tupH ?g31 ?g32 (fun _ _ => rfl)
              case g31 => exact pv1 2 rfl lk_greatest_divisor_2
              case g32 => exact pe_int
          case g29 =>
            refine' pss_cons ?g33 ?g34
            case g33 =>
              refine' ps_set1 (i := 1) sc_greatest_divisor.nd rfl lk_greatest_divisor_1 ?g35
              case g35 =>
                refine' pe_ix ix_tupH ?g36 ?g37 (fun _ _ => rfl)
                case g36 => exact pv1 2 rfl lk_greatest_divisor_2
                case g37 => exact pe_int
            case g34 =>
              refine' pss_cons ?g38 ?g39
              case g38 =>
                refine' ps_while PassesOwn.never ?g40 ?g41
                case g40 =>
                  refine' pt_cmpR op_ne ?g42 ?g43 (nomark _)
                  case g42 => exact pv1 1 rfl lk_greatest_divisor_1
                  case g43 => exact pe_int
                case g41 =>
                  refine' pss_cons ?g44 ?g45
                  case g44 =>
                    refine' ps_set1 (i := 3) sc_greatest_divisor.nd rfl lk_greatest_divisor_3 ?g46
                    case g46 =>
                      refine' pe_op op_mod ?g47 ?g48
                      case g47 => exact pv1 0 rfl lk_greatest_divisor_0
                      case g48 => exact pv1 1 rfl lk_greatest_divisor_1
                  case g45 =>
                    refine' pss_cons ?g49 ?g50
                    case g49 =>
                      refine' ps_set1 (i := 0) sc_greatest_divisor.nd rfl lk_greatest_divisor_0 ?g51
                      case g51 => exact pv1 1 rfl lk_greatest_divisor_1
                    case g50 =>
                      refine' pss_one ?g52
                      case g52 =>
                        refine' ps_set1 (i := 1) sc_greatest_divisor.nd rfl lk_greatest_divisor_1 ?g53
                        case g53 => exact pv1 3 rfl lk_greatest_divisor_3
              case g39 =>
                refine' pss_one ?g54
                case g54 =>
                  refine' ps_ret ?g55
                  case g55 => exact pv1 0 rfl lk_greatest_divisor_0
    case R =>
      walk_at "rd"
      refine ⟨(by decide), fun p hp => ?_⟩
      refine while_W (fun σ H1 => σ = [some (.int a), some (.int b), some (.ref p), none] ∧ H1 = upd H p (.tup [V.int (if b > a then b else a), V.int (if b < a then b else a)])) (fun _ _ => 0) ⟨rfl, rfl⟩ ?_
      rintro σ H1 ⟨rfl, rfl⟩
      walk_at "rd"
      have hm : ¬ (8000 : Int) < (Builtin.Int.intBits (if b < a then b else a) : Nat) := by
        split <;> omega
      rw [if_neg hm]
      refine while_W (fun σ H1 => ∃ (x y : Int) (z : Option V), σ = [some (.int x), some (.int y), some (.ref p), z] ∧ H1 = upd H p (.tup [V.int (if b > a then b else a), V.int (if b < a then b else a)]) ∧ 0 ≤ x ∧ 0 ≤ y ∧ Int.gcd x y = Int.gcd a b)
        (fun σ _ => match σ with | [_, some (.int y), _, _] => y.toNat | _ => 0) ?_ ?_
      · refine ⟨_, _, _, rfl, rfl, ?_, ?_, ?_⟩
        · split <;> omega
        · split <;> omega
        · by_cases h : b < a
          · rw [if_pos h, if_neg (by omega)]
          · rw [if_neg h]
            by_cases h' : b > a
            · rw [if_pos h', Int.gcd_comm]
            · rw [if_neg h', Int.gcd_comm]; congr 1 <;> omega
      · rintro σ H1 ⟨x, y, z, rfl, rfl, hx, hy, e⟩
        walk_at "rd"
        refine ite2 (fun hne => ?_) (fun he => ?_)
        · refine ⟨_, N_ok, ?_⟩
          walk_at "rd"
          have h0 : 0 < y := by omega
          have h1 := Int.emod_nonneg x hne
          have h2 := Int.emod_lt_of_pos x h0
          exact ⟨h0, hy, h1, (gcd_step hx h0).trans e, by omega⟩
        · have hy0 : y = 0 := Decidable.not_not.mp he
          have : x = (Int.gcd a b : Nat) := by
            rw [← e, hy0, Int.gcd_zero_right]; omega
          rw [this]
          exact k _ (Same.new hp)
theorem bits_pos {b : Int} (h : b ≠ 0) : Builtin.Int.intBits b = b.natAbs.log2 + 1 := by
  unfold Builtin.Int.intBits
  simp [h]
theorem log_of {g b : Int} (h0 : g ≠ 0) (h1 : g.natAbs ≤ b.natAbs) (hb : Builtin.Int.intBits b ≤ 8000) : g.natAbs.log2 < 9000 := by
  have h := PyProof.Rows.bits_of_natAbs_le (a := g) (b := b) (n := 8000) h1 hb
  rw [bits_pos h0] at h
  omega
theorem abs_gcd (t b : Int) : Int.gcd (if t < 0 then -t else t) (if b < 0 then -b else b) = Int.gcd t b := by
  split <;> split <;> simp [Int.gcd_neg, Int.neg_gcd]
theorem abs_bits {t : Int} {n : Nat} (h : Builtin.Int.intBits t ≤ n) : Builtin.Int.intBits (if t < 0 then -t else t) ≤ n :=
  PyProof.Rows.bits_of_natAbs_le (b := t) (by split <;> omega) h
abbrev s_fraction : Stmt := PySem.Challenge.pw_rimread_k04_determinants_of_many_rows.main.body.getD 9 (.Pass ⟨0, 0, 0, 0⟩)
theorem sc_fraction : FnScope ["top", "bottom", "divisor"] ["top", "bottom"] (defScope s_fraction) := ⟨rfl, rfl, rfl, by decide +kernel, rfl, by decide +kernel, by decide +kernel⟩
theorem lk_fraction_0 : (defScope s_fraction).names.lookup ("top" : Str) = some PySem.NameKind.local := by decide +kernel
theorem lk_fraction_1 : (defScope s_fraction).names.lookup ("bottom" : Str) = some PySem.NameKind.local := by decide +kernel
theorem lk_fraction_2 : (defScope s_fraction).names.lookup ("divisor" : Str) = some PySem.NameKind.local := by decide +kernel
theorem gk_fraction_abs : (defScope s_fraction).names.lookup ("abs" : Str) = some PySem.NameKind.globalImplicit := by decide +kernel
theorem gk_fraction_greatest_divisor : (defScope s_fraction).names.lookup ("greatest_divisor" : Str) = some PySem.NameKind.globalImplicit := by decide +kernel
def sp_fraction : Sp := fun vs H Q _ => ∃ t b : Int, vs = [.int t, .int b] ∧ b ≠ 0 ∧ Builtin.Int.intBits t ≤ 8000 ∧ Builtin.Int.intBits b ≤ 8000 ∧ ∀ p H', Same H H' → H p = none → H' p = some (.tup [.int (nf t b).1, .int (nf t b).2]) → Q (.ref p) H'
theorem ok_fraction (T : Txt K mg) (F : Fn0 K mg "fraction" s_fraction) (C_greatest_divisor : Cal P w K mg base "greatest_divisor" ["one", "other"] 1 sp_gcd) : Cal P w K mg base "fraction" ["top", "bottom"] 2 sp_fraction := by
  refine cal_of F sc_fraction (fun _ _ _ _ _ _ us hl => match us, hl with | [_, _], _ => rfl) ?len ?body
  case len => rintro vs H Q E ⟨a, b, rfl, _⟩; rfl
  case body =>
    intro f cdv A outer s H vs Q E hr h
    obtain ⟨t, b, rfl, hb, lt, lb, k⟩ := h
    refine' ⟨_, ?D, ?R⟩
    case D =>
      refine' pss_cons ?g1 ?g2
      case g1 =>
        refine' ps_if ?g3 ?g4 ?g5
        case g3 =>
          refine' pt_cmpR op_eq ?g6 ?g7 (nomark _)
          case g6 => exact pv1 1 rfl lk_fraction_1
          case g7 => exact pe_int
        case g4 =>
          refine' pss_one ?g8
          case g8 => exact ps_never
        case g5 => exact pss_nil
      case g2 =>
        refine' pss_cons ?g9 ?g10
        case g9 =>
          refine' ps_set1 (i := 2) sc_fraction.nd rfl lk_fraction_2 ?g11
          case g11 =>
            refine' pe_callD C_greatest_divisor (hr.mono (by decide)) gk_fraction_greatest_divisor ?g12
            case g12 =>
              refine' pa_c ?g13 ?g14
              case g13 =>
                refine' pe_callE call_abs gk_fraction_abs T.n_abs bt_abs ?g15
                case g15 =>
                  refine' pa_c ?g16 ?g17
                  case g16 => exact pv1 0 rfl lk_fraction_0
                  case g17 => exact pa_nil
              case g14 =>
                refine' pa_c ?g18 ?g19
                case g18 =>
                  refine' pe_callE call_abs gk_fraction_abs T.n_abs bt_abs ?g20
                  case g20 =>
                    refine' pa_c ?g21 ?g22
                    case g21 => exact pv1 1 rfl lk_fraction_1
                    case g22 => exact pa_nil
                case g19 => exact pa_nil
        case g10 =>
          refine' pss_cons ?g23 ?g24
          case g23 =>
            refine' ps_if ?g25 ?g26 ?g27
            case g25 =>
              refine' pt_cmpR op_lt ?g28 ?g29 (nomark _)
              case g28 => exact pv1 1 rfl lk_fraction_1
              case g29 => exact pe_int
            case g26 =>
              refine' pss_one ?g30
              case g30 =>
                refine' ps_set1 (i := 2) sc_fraction.nd rfl lk_fraction_2 ?g31
                case g31 =>
                  refine' pe_un un_neg ?g32
                  case g32 => exact pv1 2 rfl lk_fraction_2
            case g27 => exact pss_nil
          case g24 =>
            refine' pss_one ?g33
            case g33 =>
              refine' ps_ret ?g34
              case g34 =>
                refine' pe_tup ?g35
                case g35 =>
                  refine' pa_c ?g36 ?g37
                  case g36 =>
                    refine' pe_op op_fdivF ?g38 ?g39
                    case g38 => exact pv1 0 rfl lk_fraction_0
                    case g39 => exact pv1 2 rfl lk_fraction_2
                  case g37 =>
                    refine' pa_c ?g40 ?g41
                    case g40 =>
                      refine' pe_op op_fdivF ?g42 ?g43
                      case g42 => exact pv1 1 rfl lk_fraction_1
                      case g43 => exact pv1 2 rfl lk_fraction_2
                    case g41 => exact pa_nil
    case R =>
      walk_at "rd"
      rw [if_neg hb]
      refine ⟨_, _, rfl, ?_, ?_, abs_bits lt, abs_bits lb, fun H1 s1 => ?_⟩
      · split <;> omega
      · split <;> omega
      · rw [abs_gcd]
        have g := gpos (t := t) hb
        have d1 := Int.gcd_dvd_left (a := t) (b := b)
        have d2 := Int.gcd_dvd_right (a := t) (b := b)
        have gl : (Int.gcd t b : Int).natAbs ≤ b.natAbs := by
          have := Int.natAbs_dvd_natAbs.mpr d2
          exact Nat.le_of_dvd (by omega) this
        have lg := log_of (g := (Int.gcd t b : Int)) (by omega) gl lb
        walk_at "rd"
        refine ite2 (fun hn => ?_) (fun hn => ?_)
        · have e : nf t b = (t.fdiv (-(Int.gcd t b : Int)), b.fdiv (-(Int.gcd t b : Int))) := by
            unfold nf
            rw [if_pos hn, Int.fdiv_eq_ediv_of_dvd (Int.neg_dvd.mpr d1), Int.fdiv_eq_ediv_of_dvd (Int.neg_dvd.mpr d2)]
          rw [e] at k
          have lg' : (-(Int.gcd t b : Int)).natAbs.log2 < 9000 := by rw [Int.natAbs_neg]; exact lg
          exact ⟨by omega, lg', by omega, lg', by decide, fun p hp => k p _ (s1.trans (Same.new hp)) (s1.free hp) upd_same⟩
        · have e : nf t b = (t.fdiv (Int.gcd t b : Int), b.fdiv (Int.gcd t b : Int)) := by
            unfold nf
            rw [if_neg hn, Int.fdiv_eq_ediv_of_dvd d1, Int.fdiv_eq_ediv_of_dvd d2]
          rw [e] at k
          exact ⟨by omega, lg, by omega, lg, by decide, fun p hp => k p _ (s1.trans (Same.new hp)) (s1.free hp) upd_same⟩
end Rim4

set_option Elab.async false
set_option linter.all false
set_option maxRecDepth 100000
set_option maxHeartbeats 4000000
namespace Rim4
open PySem PySem.Spec PyProof.Rows L2 RimM RimD
local macro_rules | `(tactic| walk_at "rd") => `(tactic| simp only [tSeq, tAsg, gName, tTup, tLst, tCons, tNil, tVar, tC, tCB, tOp, rI, rI0, tTest, tIfS, tNext, tRet, tRetN, tDrop, tB, tAnd, tOr, tNot, tAndV, tOrV, tNotV, rU, tUn, tBM0, tBM, rBits, tCall, L2.start, rIxTH, rIxLH, rLenH, rEqTH, rEq, rNe, scal, tyV, CMul, CMulB, CDivB, CDivF, CPow, List.map_cons, List.map_nil, List.length_cons, List.length_nil, List.replicate, List.cons_append, List.nil_append, List.append_nil, List.set_cons_zero, List.set_cons_succ, List.getElem?_cons_zero, List.getElem?_cons_succ, Option.some.injEq, List.cons.injEq, V.int.injEq, V.bl.injEq, V.str.injEq, V.ref.injEq, V.ty.injEq, HO.tup.injEq, HO.lst.injEq, exists_eq_left, exists_eq_left', exists_and_left, and_assoc, and_true, true_and, upd_same, atI_0, atI_1, atI_2, Nat.zero_add, Nat.reduceAdd, Nat.reduceSub, decide_eq_true_eq, Bool.not_eq_true', decide_eq_false_iff_not, reduceCtorEq, false_or, or_false, true_or, or_true, plainT_int, plainT_bool, plainT_tuple, plainT_list, plainT_str, Bool.false_eq_true, if_false, if_true, Bool.not_false, Bool.not_true, Bool.not_not, gSub, rSetL, ixN_00, upd_upd, rCat, iRng1, tFor_eq, tPar, iList, tComp, pick, tYes, iZip, gTup, gCons, gNil, rSum, rListH, List.map, Option.bind, iRng2, iRngD, tSl, rSlH, tPart, tNoPart, tPar3])
variable {P : Program} {w : World} {K : PySem.W.Frag} {mg : Str → Option Value} {base : Heap}
def dF (p : Int × Int) : Dt := .tup [.int p.1, .int p.2]
def dRow (r : List (Int × Int)) : Dt := .lst (r.map dF)
/-- a fraction as the law draws it -/
structure Sm (p : Int × Int) : Prop where
  pos : 0 < p.2
  top : Builtin.Int.intBits p.1 ≤ 60
  bot : Builtin.Int.intBits p.2 ≤ 4
theorem rep_dF {H : Hp} {v : V} {p : Int × Int} (h : Rep H v (dF p)) : ∃ q, v = .ref q ∧ H q = some (.tup [.int p.1, .int p.2]) := by
  obtain ⟨q, xs, e, hq, x, r, e1, hx, y, r', e2, hy, e3⟩ := h
  cases hx
  cases hy
  subst e1 e2 e3
  exact ⟨q, e, hq⟩
theorem rep_row {H : Hp} {v : V} {r : List (Int × Int)} (h : Rep H v (dRow r)) : ∃ p xs, v = .ref p ∧ H p = some (.lst xs) ∧ Reps H xs (r.map dF) := h
theorem rep_at {H : Hp} {xs : List V} {r : List (Int × Int)} {i : Nat} {x : V} (h : Reps H xs (r.map dF)) (e : xs[i]? = some x) : ∃ q p, r[i]? = some p ∧ x = .ref q ∧ H q = some (.tup [.int p.1, .int p.2]) := by
  obtain ⟨d, hd, hr⟩ := h.of_get e
  rw [List.getElem?_map] at hd
  cases z : r[i]? with
  | none => rw [z] at hd; cases hd
  | some p =>
    rw [z] at hd
    cases hd
    obtain ⟨q, e1, e2⟩ := rep_dF hr
    exact ⟨q, p, rfl, e1, e2⟩
theorem lcm_step {c e : Int} {n : Nat} (hc : 0 < c) (he : 0 < e) (bc : Builtin.Int.intBits c ≤ n) (be : Builtin.Int.intBits e ≤ 4) :
    0 < c / (Int.gcd c e : Int) * e ∧ c ∣ c / (Int.gcd c e : Int) * e ∧ e ∣ c / (Int.gcd c e : Int) * e ∧ Builtin.Int.intBits (c / (Int.gcd c e : Int) * e) ≤ n + 4 ∧ Builtin.Int.intBits (c / (Int.gcd c e : Int)) ≤ n := by
  have g := gpos (t := c) (b := e) (by omega)
  have d1 := Int.gcd_dvd_left (a := c) (b := e)
  obtain ⟨y, hy⟩ := Int.gcd_dvd_right (a := c) (b := e)
  have q := Int.ediv_pos_of_pos_of_dvd hc (Int.le_of_lt g) d1
  have e1 : c / (Int.gcd c e : Int) * (Int.gcd c e : Int) = c := Int.ediv_mul_cancel d1
  have bq : Builtin.Int.intBits (c / (Int.gcd c e : Int)) ≤ n := PyProof.Rows.bits_of_natAbs_le (b := c) (by have := Int.natAbs_ediv_le_natAbs c (Int.gcd c e : Int); omega) bc
  refine ⟨Int.mul_pos q he, ⟨y, ?_⟩, ⟨_, Int.mul_comm _ _⟩, PyProof.Rows.bits_mul bq be, bq⟩
  calc c / (Int.gcd c e : Int) * e = c / (Int.gcd c e : Int) * ((Int.gcd c e : Int) * y) := by rw [← hy]
    _ = c / (Int.gcd c e : Int) * (Int.gcd c e : Int) * y := by rw [Int.mul_assoc]
    _ = c * y := by rw [e1]
/-- what the bottoms of a row come to -/
structure Bot (r : List (Int × Int)) (L : Int) : Prop where
  pos : 0 < L
  dvd : ∀ p ∈ r, p.2 ∣ L
  bits : Builtin.Int.intBits L ≤ 4 * r.length + 1
def lcmB (r : List (Int × Int)) : Int := r.foldl (fun c e => c / (Int.gcd c e.2 : Int) * e.2) 1
theorem lcm_fold : ∀ (l : List (Int × Int)) (c : Int) (n : Nat), 0 < c → Builtin.Int.intBits c ≤ n → (∀ p ∈ l, Sm p) →
    0 < l.foldl (fun c e => c / (Int.gcd c e.2 : Int) * e.2) c ∧ c ∣ l.foldl (fun c e => c / (Int.gcd c e.2 : Int) * e.2) c ∧ (∀ p ∈ l, p.2 ∣ l.foldl (fun c e => c / (Int.gcd c e.2 : Int) * e.2) c) ∧ Builtin.Int.intBits (l.foldl (fun c e => c / (Int.gcd c e.2 : Int) * e.2) c) ≤ n + 4 * l.length
  | [], c, n, h0, hb, _ => ⟨h0, Int.dvd_refl _, (fun p hp => absurd hp (by simp)), (by simpa using hb)⟩
  | q :: l, c, n, h0, hb, hs => by
    have sq := hs q List.mem_cons_self
    obtain ⟨l1, l2, l3, l4, l5⟩ := lcm_step h0 sq.pos hb sq.bot
    obtain ⟨i1, i2, i3, i4⟩ := lcm_fold l _ _ l1 l4 fun p hp => hs p (List.mem_cons_of_mem _ hp)
    refine ⟨i1, Int.dvd_trans l2 i2, fun p hp => ?_, ?_⟩
    · rcases List.mem_cons.mp hp with rfl | hp
      · exact Int.dvd_trans l3 i2
      · exact i3 p hp
    · simp only [List.length_cons, List.foldl_cons]
      omega
theorem bot_lcm {r : List (Int × Int)} (h : ∀ p ∈ r, Sm p) : Bot r (lcmB r) := by
  obtain ⟨a, _, c, d⟩ := lcm_fold r 1 1 (by decide) (by decide +kernel) h
  exact ⟨a, c, by unfold lcmB; omega⟩
abbrev s_common_bottom : Stmt := PySem.Challenge.pw_rimread_k04_determinants_of_many_rows.main.body.getD 11 (.Pass ⟨0, 0, 0, 0⟩)
theorem sc_common_bottom : FnScope ["entries", "common", "entry"] ["entries"] (defScope s_common_bottom) := ⟨rfl, rfl, rfl, by decide +kernel, rfl, by decide +kernel, by decide +kernel⟩
theorem lk_common_bottom_0 : (defScope s_common_bottom).names.lookup ("entries" : Str) = some PySem.NameKind.local := by decide +kernel
theorem lk_common_bottom_1 : (defScope s_common_bottom).names.lookup ("common" : Str) = some PySem.NameKind.local := by decide +kernel
theorem lk_common_bottom_2 : (defScope s_common_bottom).names.lookup ("entry" : Str) = some PySem.NameKind.local := by decide +kernel
theorem gk_common_bottom_greatest_divisor : (defScope s_common_bottom).names.lookup ("greatest_divisor" : Str) = some PySem.NameKind.globalImplicit := by decide +kernel
def sp_cb : Sp := fun vs H Q _ => ∃ v r, vs = [v] ∧ Rep H v (dRow r) ∧ (∀ p ∈ r, Sm p) ∧ r.length ≤ 16 ∧ ∀ H', Same H H' → Q (.int (lcmB r)) H'
theorem ok_common_bottom (T : Txt K mg) (F : Fn0 K mg "common_bottom" s_common_bottom) (C_greatest_divisor : Cal P w K mg base "greatest_divisor" ["one", "other"] 1 sp_gcd) : Cal P w K mg base "common_bottom" ["entries"] 2 sp_cb := by
  refine cal_of F sc_common_bottom (fun _ _ _ _ _ _ us hl => match us, hl with | [_], _ => rfl) ?len ?body
  case len => rintro vs H Q E ⟨a, b, rfl, _⟩; rfl
  case body =>
    intro f cdv A outer s H vs Q E hr h
    obtain ⟨v, r, rfl, hv, hsm, h8, k⟩ := h
    obtain ⟨p, xs, rfl, hp, hxs⟩ := rep_row hv
    have hl : xs.length = r.length := by rw [hxs.length, List.length_map]
    refine' ⟨_, ?D, ?R⟩
    case D =>
      refine' pss_cons ?g1 ?g2
      case g1 =>
        refine' ps_set1 (i := 1) sc_common_bottom.nd rfl lk_common_bottom_1 ?g3
        case g3 => exact pe_int
      case g2 =>
        refine' pss_cons ?g4 ?g5
        case g4 =>
          refine' ps_for PassesOwn.never rfl ?g6 ?g7 ?g8
          case g6 =>
            refine' pi_listK (K := K) rfl ?g9
            case g9 => exact pv1 0 rfl lk_common_bottom_0
          case g7 => exact pg_name1 (i := 2) sc_common_bottom.nd rfl lk_common_bottom_2
          case g8 =>
            refine' pss_one ?g10
            case g10 =>
              refine' ps_set1 (i := 1) sc_common_bottom.nd rfl lk_common_bottom_1 ?g11
              case g11 =>
                refine' pe_op op_mulB ?g12 ?g13
                case g12 =>
                  refine' pe_op op_fdivB ?g14 ?g15
                  case g14 => exact pv1 1 rfl lk_common_bottom_1
                  case g15 =>
                    refine' pe_callD C_greatest_divisor (hr.mono (by decide)) gk_common_bottom_greatest_divisor ?g16
                    case g16 =>
                      refine' pa_c ?g17 ?g18
                      case g17 => exact pv1 1 rfl lk_common_bottom_1
                      case g18 =>
                        refine' pa_c ?g19 ?g20
                        case g19 =>
                          refine' pe_ix ix_tupH ?g21 ?g22 (fun _ _ => rfl)
                          case g21 => exact pv1 2 rfl lk_common_bottom_2
                          case g22 => exact pe_int
                        case g20 => exact pa_nil
                case g13 =>
                  refine' pe_ix ix_tupH ?g23 ?g24 (fun _ _ => rfl)
                  case g23 => exact pv1 2 rfl lk_common_bottom_2
                  case g24 => exact pe_int
        case g5 =>
          refine' pss_one ?g25
          case g25 =>
            refine' ps_ret ?g26
            case g26 => exact pv1 1 rfl lk_common_bottom_1
    case R =>
      walk_at "rd"
      refine ⟨⟨xs, .inl (.inl hp)⟩, ?_⟩
      refine go_list (xs := xs) (fun i σ H' => ∃ (c : Int) (e : Option V), σ = [some (.ref p), some (.int c), e] ∧ Same H H' ∧ 0 < c ∧ c = lcmB (r.take i) ∧ Builtin.Int.intBits c ≤ 4 * i + 1) ⟨1, none, rfl, Same.refl _, by decide, rfl, by decide +kernel⟩ ?_ ?_ ?_
      · rintro i σ H' hi ⟨c, e, rfl, s1, _⟩
        exact .inl (.inl (s1 _ _ hp))
      · rintro i x σ H' hx ⟨c, e, rfl, s1, hc, hd, hb⟩
        obtain ⟨q, z, hz, rfl, hq⟩ := rep_at hxs hx
        have hq' := s1 _ _ hq
        have hi : i < r.length := (List.getElem?_eq_some_iff.mp hz).1
        have sm := hsm z (List.mem_of_getElem? hz)
        have h0 := sm.pos
        walk_at "rd"
        simp only [hq', Option.some.injEq, HO.tup.injEq, exists_eq_left']
        walk_at "rd"
        have bz := sm.bot
        refine ⟨c, z.2, rfl, by omega, by omega, by omega, by omega, fun H2 s2 => ?_⟩
        have hq2 := s2 _ _ hq'
        obtain ⟨l1, l2, l3, l4, l5⟩ := lcm_step hc h0 hb sm.bot
        have g := gpos (t := c) (b := z.2) (by omega)
        have gl : (Int.gcd c z.2 : Int).natAbs ≤ c.natAbs := Nat.le_of_dvd (by omega) (Int.natAbs_dvd_natAbs.mpr (Int.gcd_dvd_left ..))
        have lg := log_of (g := (Int.gcd c z.2 : Int)) (b := c) (by omega) gl (by omega)
        walk_at "rd"
        simp only [hq2, Option.some.injEq, HO.tup.injEq, exists_eq_left']
        walk_at "rd"
        refine ⟨g, lg, by omega, s1.trans s2, l1, ?_, by omega⟩
        rw [List.take_succ, hz]
        show _ = lcmB (r.take i ++ [z])
        unfold lcmB
        rw [List.foldl_append]
        show c / (Int.gcd c z.2 : Int) * z.2 = _
        rw [hd]
        rfl
      · rintro σ H' ⟨c, e, rfl, s1, hc, hd, hb⟩
        walk_at "rd"
        rw [List.take_of_length_le (by omega)] at hd
        rw [hd]
        exact k H' s1
def tops (r : List (Int × Int)) (L : Int) : List Int := r.map fun e => e.1 * (L / e.2)
abbrev s_cleared : Stmt := PySem.Challenge.pw_rimread_k04_determinants_of_many_rows.main.body.getD 12 (.Pass ⟨0, 0, 0, 0⟩)
theorem sc_cleared : FnScope ["entries", "bottom"] ["entries"] (defScope s_cleared) := ⟨rfl, rfl, rfl, by decide +kernel, rfl, by decide +kernel, by decide +kernel⟩
theorem lk_cleared_0 : (defScope s_cleared).names.lookup ("entries" : Str) = some PySem.NameKind.local := by decide +kernel
theorem lk_cleared_1 : (defScope s_cleared).names.lookup ("bottom" : Str) = some PySem.NameKind.cell := by decide +kernel
theorem gk_cleared_common_bottom : (defScope s_cleared).names.lookup ("common_bottom" : Str) = some PySem.NameKind.globalImplicit := by decide +kernel
def sp_cleared : Sp := fun vs H Q _ => ∃ v r, vs = [v] ∧ Rep H v (dRow r) ∧ (∀ p ∈ r, Sm p) ∧ r.length ≤ 16 ∧ ∀ x H', Same H H' → Rep (newH H H') x (.tup [.lst ((tops r (lcmB r)).map Dt.int), .int (lcmB r)]) → Q x H'
theorem ok_cleared (T : Txt K mg) (F : Fn0 K mg "cleared" s_cleared) (C_common_bottom : Cal P w K mg base "common_bottom" ["entries"] 2 sp_cb) : Cal P w K mg base "cleared" ["entries"] 3 sp_cleared := by
  refine cal_of F sc_cleared (fun _ _ _ _ _ _ us hl => match us, hl with | [_], _ => rfl) ?len ?body
  case len => rintro vs H Q E ⟨a, b, rfl, _⟩; rfl
  case body =>
    intro f cdv A outer s H vs Q E hr h
    obtain ⟨v, r, rfl, hv, hsm, h8, k⟩ := h
    obtain ⟨p, xs, rfl, hp, hxs⟩ := rep_row hv
    have hl : xs.length = r.length := by rw [hxs.length, List.length_map]
    refine' ⟨_, ?D, ?R⟩
    case D =>
      refine' pss_cons ?g1 ?g2
      case g1 =>
        refine' ps_setc (i := 1) sc_cleared.nd rfl lk_cleared_1 rfl ?g3 rfl
        case g3 =>
          refine' pe_callD C_common_bottom (hr.mono (by decide)) gk_cleared_common_bottom ?g4
          case g4 =>
            refine' pa_c ?g5 ?g6
            case g5 => exact pv1 0 rfl lk_cleared_0
            case g6 => exact pa_nil
      case g2 =>
        refine' pss_one ?g7
        case g7 =>
          refine' ps_ret ?g8
          case g8 =>
            refine' pe_tup ?g9
            case g9 =>
              refine' pa_c ?g10 ?g11
              case g10 =>
                refine' pe_comp (N' := ["entry", "bottom"]) (ix := [none, some 1]) rfl rfl (scp_of ?g12) ?g13 (fun _ _ _ => ?g14) (fun _ _ _ => ?g15) (fun _ _ _ => ?g16)
                case g12 => exact (by show scpB (defScope s_cleared) ["entries", "bottom"] _ _ _ = true; decide +kernel)
                case g13 =>
                  refine' pi_listK (K := K) rfl ?g17
                  case g17 => exact pv1 0 rfl lk_cleared_0
                case g14 => exact pg_name1 (i := 0) (by show List.Nodup (["entry", "bottom"] : List Str); decide +kernel) rfl rfl
                case g15 => exact pf_nil
                case g16 =>
                  refine' pe_op op_mulB ?g18 ?g19
                  case g18 =>
                    refine' pe_ix ix_tupH ?g20 ?g21 (fun _ _ => rfl)
                    case g20 => exact pv1 0 rfl rfl
                    case g21 => exact pe_int
                  case g19 =>
                    refine' pe_op op_fdivB ?g22 ?g23
                    case g22 => exact pvc 1 rfl rfl
                    case g23 =>
                      refine' pe_ix ix_tupH ?g24 ?g25 (fun _ _ => rfl)
                      case g24 => exact pv1 0 rfl rfl
                      case g25 => exact pe_int
              case g11 =>
                refine' pa_c ?g26 ?g27
                case g26 => exact pvc 1 rfl lk_cleared_1
                case g27 => exact pa_nil
    case R =>
      walk_at "rd"
      refine ⟨_, r, rfl, hv, hsm, h8, fun H1 s1 => ?_⟩
      have bot := bot_lcm hsm
      generalize lcmB r = L at *
      have hp1 := s1 _ _ hp
      walk_at "rd"
      refine ⟨⟨xs, .inl (.inl hp1)⟩, ?_⟩
      have bp := bot.pos
      have bb := bot.bits
      refine comp_any (n := xs.length) (B := H1) (Pσ := fun σ => ∃ e, σ = [e, some (.int L)]) (ds := (tops r L).map Dt.int) (Same.refl _) ⟨_, rfl⟩ (by simp [tops, hl]) (by omega) (fun i H' hi s' => ⟨xs, xs[i], .inl (.inl (s' _ _ hp1)), by simp [hi]⟩) (fun H' s' => ⟨xs, .inl (.inl (s' _ _ hp1)), Nat.le_refl _⟩) ?_ ?_
      · rintro D i x d σ' H' H'' hD hDo hs' hi hdi ⟨rfl, hy⟩ ⟨e, rfl⟩ R kR
        have hx := hy xs (.inl (.inl (hs' _ _ hp1)))
        obtain ⟨q, z, hz, rfl, hq⟩ := rep_at hxs hx
        have hq' := hs' _ _ (s1 _ _ hq)
        have sm := hsm z (List.mem_of_getElem? hz)
        have z0 := sm.pos
        have zb := sm.bot
        have zt := sm.top
        have lz := log_of (g := z.2) (b := z.2) (by omega) (Nat.le_refl _) (by omega)
        have bl : Builtin.Int.intBits (L / z.2) ≤ 4 * r.length + 1 := PyProof.Rows.bits_of_natAbs_le (b := L) (by have := Int.natAbs_ediv_le_natAbs L z.2; omega) bb
        walk_at "rd"
        simp only [hq', Option.some.injEq, HO.tup.injEq, exists_eq_left']
        walk_at "rd"
        refine ⟨z0, lz, by omega, kR _ _ _ ⟨_, rfl⟩ (Same.refl _) ?_⟩
        have : d = .int (z.1 * (L / z.2)) := by
          rw [List.getElem?_map, tops, List.getElem?_map, hz] at hdi
          exact (Option.some.inj hdi).symm
        rw [this]
        rfl
      · intro D H' hD s' rep
        refine ⟨by decide, fun q hq => k _ _ ((s1.trans s').trans (Same.new hq)) ⟨q, _, rfl, ?_, _, _, rfl, Rep.mono ((newH_less s1).trans (newH_mono (Same.new hq))) _ rep, _, _, rfl, rfl, rfl⟩⟩
        rw [newH_at ((s1.trans s').free hq)]
        exact upd_same
end Rim4

set_option Elab.async false
set_option linter.all false
set_option maxRecDepth 100000
set_option maxHeartbeats 4000000
namespace Rim4
open PySem PySem.Spec PyProof.Rows L2 RimM RimD
local macro_rules | `(tactic| walk_at "rd") => `(tactic| simp only [tSeq, tAsg, gName, tTup, tLst, tCons, tNil, tVar, tC, tCB, tOp, rI, rI0, tTest, tIfS, tNext, tRet, tRetN, tDrop, tB, tAnd, tOr, tNot, tAndV, tOrV, tNotV, rU, tUn, tBM0, tBM, rBits, tCall, L2.start, rIxTH, rIxLH, rLenH, rEqTH, rEq, rNe, scal, tyV, CMul, CMulB, CDivB, CDivF, CPow, List.map_cons, List.map_nil, List.length_cons, List.length_nil, List.replicate, List.cons_append, List.nil_append, List.append_nil, List.set_cons_zero, List.set_cons_succ, List.getElem?_cons_zero, List.getElem?_cons_succ, Option.some.injEq, List.cons.injEq, V.int.injEq, V.bl.injEq, V.str.injEq, V.ref.injEq, V.ty.injEq, HO.tup.injEq, HO.lst.injEq, exists_eq_left, exists_eq_left', exists_and_left, and_assoc, and_true, true_and, upd_same, atI_0, atI_1, atI_2, Nat.zero_add, Nat.reduceAdd, Nat.reduceSub, decide_eq_true_eq, Bool.not_eq_true', decide_eq_false_iff_not, reduceCtorEq, false_or, or_false, true_or, or_true, plainT_int, plainT_bool, plainT_tuple, plainT_list, plainT_str, Bool.false_eq_true, if_false, if_true, Bool.not_false, Bool.not_true, Bool.not_not, gSub, rSetL, ixN_00, upd_upd, rCat, iRng1, tFor_eq, tPar, iList, tComp, pick, tYes, iZip, gTup, gCons, gNil, rSum, rListH, List.map, Option.bind, iRng2, iRngD, tSl, rSlH, tPart, tNoPart, tPar3])
variable {P : Program} {w : World} {K : PySem.W.Frag} {mg : Str → Option Value} {base : Heap}
/-- rows of whole numbers -/
def dI (r : List Int) : Dt := .lst (r.map Dt.int)
def dM (m : List (List Int)) : Dt := .lst (m.map dI)
theorem reps_ints {H : Hp} : ∀ {xs : List V} {ns : List Int}, Reps H xs (ns.map Dt.int) → xs = ns.map V.int
  | xs, [], h => h
  | xs, n :: ns, ⟨x, r, e, hx, hr⟩ => by
    cases hx
    rw [e, reps_ints hr]
    rfl
theorem reps_of_ints {H : Hp} : ∀ (ns : List Int), Reps H (ns.map V.int) (ns.map Dt.int)
  | [] => rfl
  | n :: ns => ⟨_, _, rfl, rfl, reps_of_ints ns⟩
theorem rep_ints {H : Hp} {v : V} {r : List Int} (h : Rep H v (dI r)) : ∃ p, v = .ref p ∧ H p = some (.lst (r.map V.int)) := by
  obtain ⟨p, xs, e, hp, hxs⟩ := h
  rw [reps_ints hxs] at hp
  exact ⟨p, e, hp⟩
theorem rep_of_ints {H : Hp} {p : Addr} {r : List Int} (h : H p = some (.lst (r.map V.int))) : Rep H (.ref p) (dI r) := ⟨p, _, rfl, h, reps_of_ints r⟩
theorem at_ints {r : List Int} {i : Int} (h0 : 0 ≤ i) (h : i.toNat < r.length) : atI (r.map V.int) i = some (.int (gi r i.toNat)) := by
  refine atI_nn h0 ?_
  unfold gi
  simp [List.getD_eq_getElem?_getD, h]
theorem gi_bits {r : List Int} {n : Nat} (h : ∀ x ∈ r, Builtin.Int.intBits x ≤ n) (j : Nat) : Builtin.Int.intBits (gi r j) ≤ n := by
  unfold gi
  rw [List.getD_eq_getElem?_getD]
  cases e : r[j]? with
  | none => exact Nat.le_trans (show Builtin.Int.intBits 0 ≤ 0 by decide +kernel) (Nat.zero_le _)
  | some x => exact h x (List.mem_of_getElem? e)
abbrev s_lessened : Stmt := PySem.Challenge.pw_rimread_k04_determinants_of_many_rows.main.body.getD 14 (.Pass ⟨0, 0, 0, 0⟩)
theorem sc_lessened : FnScope ["row", "pivot_row", "before"] ["row", "pivot_row", "before"] (defScope s_lessened) := ⟨rfl, rfl, rfl, by decide +kernel, rfl, by decide +kernel, by decide +kernel⟩
theorem lk_lessened_0 : (defScope s_lessened).names.lookup ("row" : Str) = some PySem.NameKind.cell := by decide +kernel
theorem lk_lessened_1 : (defScope s_lessened).names.lookup ("pivot_row" : Str) = some PySem.NameKind.cell := by decide +kernel
theorem lk_lessened_2 : (defScope s_lessened).names.lookup ("before" : Str) = some PySem.NameKind.cell := by decide +kernel
theorem gk_lessened_len : (defScope s_lessened).names.lookup ("len" : Str) = some PySem.NameKind.globalImplicit := by decide +kernel
theorem gk_lessened_range : (defScope s_lessened).names.lookup ("range" : Str) = some PySem.NameKind.globalImplicit := by decide +kernel
def sp_lsn : Sp := fun vs H Q _ => ∃ (v u : V) (r p : List Int) (b : Int), vs = [v, u, .int b] ∧ Rep H v (dI r) ∧ Rep H u (dI p) ∧ r.length = p.length ∧ 1 ≤ r.length ∧ r.length ≤ 100 ∧ b ≠ 0 ∧ b.natAbs.log2 < 9000 ∧
  (∀ x ∈ r, Builtin.Int.intBits x ≤ 60000000) ∧ (∀ x ∈ p, Builtin.Int.intBits x ≤ 60000000) ∧ ∀ x H', Same H H' → Rep (newH H H') x (dI (lessP p b r)) → Q x H'
theorem ok_lessened (T : Txt K mg) (F : Fn0 K mg "lessened" s_lessened) : Cal P w K mg base "lessened" ["row", "pivot_row", "before"] 1 sp_lsn := by
  refine cal_of F sc_lessened (fun _ _ _ _ _ _ us hl => match us, hl with | [_, _, _], _ => rfl) ?len ?body
  case len => rintro vs H Q E ⟨a, b, c, d, e, rfl, _⟩; rfl
  case body =>
    intro f cdv A outer s H vs Q E hr h
    obtain ⟨v, u, r, p, b, rfl, hv, hu, hl, h1, h100, hb, hlog, br, bp, k⟩ := h
    obtain ⟨x, rfl, hx⟩ := rep_ints hv
    obtain ⟨y, rfl, hy⟩ := rep_ints hu
    refine' ⟨_, ?D, ?R⟩
    case D =>
      refine' pss_one ?g1
      case g1 =>
        refine' ps_ret ?g2
        case g2 =>
          refine' pe_comp (N' := ["j", "pivot_row", "row", "before"]) (ix := [none, some 1, some 0, some 2]) rfl rfl (scp_of ?g3) ?g4 (fun _ _ _ => ?g5) (fun _ _ _ => ?g6) (fun _ _ _ => ?g7)
          case g3 => exact (by show scpB (defScope s_lessened) ["row", "pivot_row", "before"] _ _ _ = true; decide +kernel)
          case g4 =>
            refine' pi_range2 gk_lessened_range T.n_range ?g8
            case g8 =>
              refine' pa_c ?g9 ?g10
              case g9 => exact pe_int
              case g10 =>
                refine' pa_c ?g11 ?g12
                case g11 =>
                  refine' pe_callE call_lenH gk_lessened_len T.n_len bt_len ?g13
                  case g13 =>
                    refine' pa_c ?g14 ?g15
                    case g14 => exact pvc 0 rfl lk_lessened_0
                    case g15 => exact pa_nil
                case g12 => exact pa_nil
          case g5 => exact pg_name1 (i := 0) (by show List.Nodup (["j", "pivot_row", "row", "before"] : List Str); decide +kernel) rfl rfl
          case g6 => exact pf_nil
          case g7 =>
            refine' pe_op op_fdivF ?g16 ?g17
            case g16 =>
              refine' pe_op op_sub ?g18 ?g19
              case g18 =>
                refine' pe_op op_mulB ?g20 ?g21
                case g20 =>
                  refine' pe_ix ix_listH ?g22 ?g23 (fun _ _ => rfl)
                  case g22 => exact pvc 1 rfl rfl
                  case g23 => exact pe_int
                case g21 =>
                  refine' pe_ix ix_listH ?g24 ?g25 (fun _ _ => rfl)
                  case g24 => exact pvc 2 rfl rfl
                  case g25 => exact pv1 0 rfl rfl
              case g19 =>
                refine' pe_op op_mulB ?g26 ?g27
                case g26 =>
                  refine' pe_ix ix_listH ?g28 ?g29 (fun _ _ => rfl)
                  case g28 => exact pvc 2 rfl rfl
                  case g29 => exact pe_int
                case g27 =>
                  refine' pe_ix ix_listH ?g30 ?g31 (fun _ _ => rfl)
                  case g30 => exact pvc 1 rfl rfl
                  case g31 => exact pv1 0 rfl rfl
            case g17 => exact pvc 3 rfl rfl
    case R =>
      walk_at "rd"
      refine ⟨_, .inl hx, ?_⟩
      rw [List.length_map]
      refine ⟨by decide, by decide, by omega, by omega, ?_⟩
      refine comp_any (n := r.length - 1) (B := H) (Pσ := fun σ => ∃ e, σ = [e, some (.ref y), some (.ref x), some (.int b)]) (ds := (lessP p b r).map Dt.int) (Same.refl _) ⟨_, rfl⟩ (by simp [lessP]) (by omega) (fun i H' hi s' => by show i < Int.toNat _; omega) (fun H' s' => by show Int.toNat _ ≤ _; omega) ?_ (fun D H' hD s' rep => k _ _ s' rep)
      rintro D j z d σ' H' H'' hD hDo hs' hj hdj ⟨rfl, rfl⟩ ⟨e, rfl⟩ R kR
      have hx' := hs' _ _ hx
      have hy' := hs' _ _ hy
      walk_at "rd"
      simp only [hx', hy', Option.some.injEq, HO.lst.injEq, exists_eq_left']
      have t1 : ((1 : Int) + (j : Nat)).toNat = j + 1 := by omega
      have g1 := gi_bits bp 0
      have g2 := gi_bits br (j + 1)
      have g3 := gi_bits br 0
      have g4 := gi_bits bp (j + 1)
      have a1 := at_ints (r := r) (i := (1 : Int) + (j : Nat)) (by omega) (by omega)
      have a2 := at_ints (r := p) (i := (1 : Int) + (j : Nat)) (by omega) (by omega)
      rw [t1] at a1 a2
      refine ⟨_, at_ints (by decide) (show (0 : Int).toNat < p.length by omega), _, a1, _, rfl, _, rfl, by show Builtin.Int.intBits (gi p 0) + _ ≤ _; omega, _, at_ints (by decide) (show (0 : Int).toNat < r.length by omega), _, a2, _, rfl, _, rfl, by show Builtin.Int.intBits (gi r 0) + _ ≤ _; omega, hb, hlog, kR _ _ _ ⟨_, rfl⟩ (Same.refl _) ?_⟩
      have : d = .int ((gi p 0 * gi r (j + 1) - gi r 0 * gi p (j + 1)).fdiv b) := by
        rw [List.getElem?_map, lessP, List.getElem?_map, List.getElem?_range hj] at hdj
        exact (Option.some.inj hdj).symm
      rw [this]
      rfl
theorem rep_mat {H : Hp} {xs : List V} {m : List (List Int)} {i : Nat} {x : V} (h : Reps H xs (m.map dI)) (e : xs[i]? = some x) : ∃ q r, m[i]? = some r ∧ x = .ref q ∧ H q = some (.lst (r.map V.int)) := by
  obtain ⟨d, hd, hr⟩ := h.of_get e
  rw [List.getElem?_map] at hd
  cases z : m[i]? with
  | none => rw [z] at hd; cases hd
  | some r =>
    rw [z] at hd
    cases hd
    obtain ⟨q, e1, e2⟩ := rep_ints hr
    exact ⟨q, r, rfl, e1, e2⟩
theorem Reps_append {H : Hp} : ∀ {xs ys : List V} {ds es : List Dt}, Reps H xs ds → Reps H ys es → Reps H (xs ++ ys) (ds ++ es)
  | xs, ys, [], es, h, h' => by rw [show xs = [] from h]; exact h'
  | xs, ys, d :: ds, es, ⟨x, r, e, hx, hr⟩, h' => by
    rw [e]
    exact ⟨x, r ++ ys, rfl, hx, Reps_append hr h'⟩
theorem Reps_drop {H : Hp} : ∀ (n : Nat) {xs : List V} {ds : List Dt}, Reps H xs ds → Reps H (xs.drop n) (ds.drop n)
  | 0, _, _, h => h
  | n + 1, xs, [], h => by rw [show xs = [] from h]; rfl
  | n + 1, xs, d :: ds, ⟨x, r, e, hx, hr⟩ => by rw [e]; exact Reps_drop n hr
theorem Reps_take {H : Hp} : ∀ (n : Nat) {xs : List V} {ds : List Dt}, Reps H xs ds → Reps H (xs.take n) (ds.take n)
  | 0, _, _, h => rfl
  | n + 1, xs, [], h => by rw [show xs = [] from h]; rfl
  | n + 1, xs, d :: ds, ⟨x, r, e, hx, hr⟩ => by rw [e]; exact ⟨x, _, rfl, hx, Reps_take n hr⟩
theorem first_next {rows : List (List Int)} {i n : Nat} (h : i < n) : firstP rows i (n - i) = if gi (rows.getD i []) 0 ≠ 0 then some i else firstP rows (i + 1) (n - (i + 1)) := by
  obtain ⟨d, hd⟩ : ∃ d, n - i = d + 1 := ⟨n - i - 1, by omega⟩
  rw [hd, firstP, show n - (i + 1) = d by omega]
abbrev s_with_pivot : Stmt := PySem.Challenge.pw_rimread_k04_determinants_of_many_rows.main.body.getD 13 (.Pass ⟨0, 0, 0, 0⟩)
theorem sc_with_pivot : FnScope ["rows", "free", "k", "brought"] ["rows", "free"] (defScope s_with_pivot) := ⟨rfl, rfl, rfl, by decide +kernel, rfl, by decide +kernel, by decide +kernel⟩
theorem lk_with_pivot_0 : (defScope s_with_pivot).names.lookup ("rows" : Str) = some PySem.NameKind.local := by decide +kernel
theorem lk_with_pivot_1 : (defScope s_with_pivot).names.lookup ("free" : Str) = some PySem.NameKind.local := by decide +kernel
theorem lk_with_pivot_2 : (defScope s_with_pivot).names.lookup ("k" : Str) = some PySem.NameKind.local := by decide +kernel
theorem lk_with_pivot_3 : (defScope s_with_pivot).names.lookup ("brought" : Str) = some PySem.NameKind.local := by decide +kernel
theorem gk_with_pivot_range : (defScope s_with_pivot).names.lookup ("range" : Str) = some PySem.NameKind.globalImplicit := by decide +kernel
def sp_piv : Sp := fun vs H Q _ => ∃ (v : V) (m : List (List Int)) (free : Nat), vs = [v, .int free] ∧ Rep H v (dM m) ∧ free ≤ m.length ∧ m.length ≤ 20 ∧ (∀ r ∈ m, 1 ≤ r.length ∧ r.length ≤ 100) ∧ ∀ x H', Same H H' → Rep H' x (dM (pivP m free)) → Q x H'
theorem ok_with_pivot (T : Txt K mg) (F : Fn0 K mg "with_pivot" s_with_pivot) : Cal P w K mg base "with_pivot" ["rows", "free"] 1 sp_piv := by
  refine cal_of F sc_with_pivot (fun _ _ _ _ _ _ us hl => match us, hl with | [_, _], _ => rfl) ?len ?body
  case len => rintro vs H Q E ⟨a, b, c, rfl, _⟩; rfl
  case body =>
    intro f cdv A outer s H vs Q E hr h
    obtain ⟨v, m, free, rfl, hv, hf, h20, hw, k⟩ := h
    obtain ⟨p, xs, rfl, hp, hxs⟩ := id hv
    have hl : xs.length = m.length := by rw [hxs.length, List.length_map]
    refine' ⟨_, ?D, ?R⟩
    case D =>
      refine' pss_cons ?g1 ?g2
      case g1 =>
        refine' ps_for PassesOwn.never rfl ?g3 ?g4 ?g5
        case g3 =>
          refine' pi_range1 gk_with_pivot_range T.n_range ?g6
          case g6 =>
            refine' pa_c ?g7 ?g8
            case g7 => exact pv1 1 rfl lk_with_pivot_1
            case g8 => exact pa_nil
        case g4 => exact pg_name1 (i := 2) sc_with_pivot.nd rfl lk_with_pivot_2
        case g5 =>
          refine' pss_one ?g9
          case g9 =>
            refine' ps_if ?g10 ?g11 ?g12
            case g10 =>
              refine' pt_cmpR op_ne ?g13 ?g14 (nomark _)
              case g13 =>
                refine' pe_ix ix_listH ?g15 ?g16 (fun _ _ => rfl)
                case g15 =>
                  refine' pe_ix ix_listH ?g17 ?g18 (fun _ _ => rfl)
                  case g17 => exact pv1 0 rfl lk_with_pivot_0
                  case g18 => exact pv1 2 rfl lk_with_pivot_2
                case g16 => exact pe_int
              case g14 => exact pe_int
            case g11 =>
              refine' pss_cons ?g19 ?g20
              case g19 =>
                refine' ps_if ?g21 ?g22 ?g23
                case g21 =>
                  refine' pt_cmpR op_eq ?g24 ?g25 (nomark _)
                  case g24 => exact pv1 2 rfl lk_with_pivot_2
                  case g25 => exact pe_int
                case g22 =>
                  refine' pss_one ?g26
                  case g26 =>
                    refine' ps_ret ?g27
                    case g27 => exact pv1 0 rfl lk_with_pivot_0
                case g23 => exact pss_nil
              case g20 =>
                refine' pss_cons ?g28 ?g29
                case g28 =>
                  refine' ps_comp (i := 3) (N' := ["entry"]) (ix := [none]) rfl rfl sc_with_pivot.nd rfl lk_with_pivot_3 rfl (scp_of ?g30) ?g31 (fun _ _ _ => ?g32) (fun _ _ _ => ?g33) (fun _ _ _ => ?g34)
                  case g30 => exact (by show scpB (defScope s_with_pivot) ["rows", "free", "k", "brought"] _ _ _ = true; decide +kernel)
                  case g31 =>
                    refine' pi_listK (K := K) rfl ?g35
                    case g35 =>
                      refine' pe_ix ix_listH ?g36 ?g37 (fun _ _ => rfl)
                      case g36 => exact pv1 0 rfl lk_with_pivot_0
                      case g37 => exact pv1 2 rfl lk_with_pivot_2
                  case g32 => exact pg_name1 (i := 0) (by show List.Nodup (["entry"] : List Str); decide +kernel) rfl rfl
                  case g33 => exact pf_nil
                  case g34 =>
                    refine' pe_un un_neg ?g38
                    case g38 => exact pv1 0 rfl rfl
                case g29 =>
                  refine' pss_one ?g39
                  case g39 =>
                    refine' ps_ret ?g40
                    case g40 =>
                      refine' pe_op op_cat ?g41 ?g42
                      case g41 =>
                        refine' pe_op op_cat ?g43 ?g44
                        case g43 =>
                          refine' pe_op op_cat ?g45 ?g46
                          case g45 =>
                            refine' pe_lst ?g47
                            case g47 =>
                              refine' pa_c ?g48 ?g49
                              case g48 => exact pv1 3 rfl lk_with_pivot_3
                              case g49 => exact pa_nil
                          case g46 =>
                            refine' pe_slice sl_listH ?g50 ?g51 ?g52
                            case g50 => exact pv1 0 rfl lk_with_pivot_0
                            case g51 =>
                              refine' po_some ?g53
                              case g53 => exact pe_int
                            case g52 =>
                              refine' po_some ?g54
                              case g54 => exact pv1 2 rfl lk_with_pivot_2
                        case g44 =>
                          refine' pe_lst ?g55
                          case g55 =>
                            refine' pa_c ?g56 ?g57
                            case g56 =>
                              refine' pe_ix ix_listH ?g58 ?g59 (fun _ _ => rfl)
                              case g58 => exact pv1 0 rfl lk_with_pivot_0
                              case g59 => exact pe_int
                            case g57 => exact pa_nil
                      case g42 =>
                        refine' pe_slice sl_listH ?g60 ?g61 ?g62
                        case g60 => exact pv1 0 rfl lk_with_pivot_0
                        case g61 =>
                          refine' po_some ?g63
                          case g63 =>
                            refine' pe_op op_add ?g64 ?g65
                            case g64 => exact pv1 2 rfl lk_with_pivot_2
                            case g65 => exact pe_int
                        case g62 => exact po_none
            case g12 => exact pss_nil
      case g2 =>
        refine' pss_one ?g66
        case g66 =>
          refine' ps_ret ?g67
          case g67 =>
            refine' pe_lst ?g68
            case g68 => exact pa_nil
    case R =>
      walk_at "rd"
      refine ⟨by omega, by omega, ?_⟩
      rw [show Int.toNat (free : Int) = free by omega]
      refine go_range (fun i σ H' => ∃ e z : Option V, σ = [some (.ref p), some (.int free), e, z] ∧ H' = H ∧ firstP m 0 free = firstP m i (free - i)) ⟨_, _, rfl, rfl, rfl⟩ ?_ ?_
      · rintro i σ H' hi ⟨e, z, rfl, rfl, hq⟩
        rw [first_next hi] at hq
        obtain ⟨q, r, hr0, ex, hq0⟩ := rep_mat hxs (i := i) (x := xs[i]'(by omega)) (by simp [show i < xs.length by omega])
        have hrm := hw r (List.mem_of_getElem? hr0)
        have mg : m.getD i [] = r := by rw [List.getD_eq_getElem?_getD, hr0]; rfl
        rw [mg] at hq
        walk_at "rd"
        simp only [hp, Option.some.injEq, HO.lst.injEq, exists_eq_left']
        have ai : atI xs ((0 : Int) + (i : Nat)) = some (.ref q) := atI_nn (by omega) (by rw [show ((0 : Int) + (i : Nat)).toNat = i by omega, ← ex]; simp [show i < xs.length by omega])
        simp only [ai, Option.some.injEq, exists_eq_left']
        try walk_at "rd"
        refine ⟨_, hq0, _, at_ints (by decide) (show (0 : Int).toNat < r.length by omega), rfl, ?_⟩
        refine ite2 (fun h0 => ?_) (fun h0 => ?_)
        · have hne : gi r 0 ≠ 0 := fun z => h0 (by show V.int (gi r 0) = _; rw [z])
          rw [if_pos hne] at hq
          refine ite2 (fun hi0 => ?_) (fun hi0 => ?_)
          · have e0 : i = 0 := by omega
            subst e0
            refine k _ _ (Same.refl _) ?_
            unfold pivP
            rw [hq]
            exact hv
          · obtain ⟨i, rfl⟩ : ∃ i', i = i' + 1 := ⟨i - 1, by omega⟩
            refine ⟨⟨_, .inl (.inl hq0)⟩, ?_⟩
            refine comp_any (n := r.length) (B := fun _ => none) (Pσ := fun σ => ∃ e, σ = [e]) (ds := (r.map fun x => -x).map Dt.int) (fun b o e => by cases e) ⟨_, rfl⟩ (by simp) (by omega) (fun j H2 hj s2 => ⟨_, .int (r[j]), .inl (.inl (s2 _ _ hq0)), by simp [hj]⟩) (fun H2 s2 => ⟨_, .inl (.inl (s2 _ _ hq0)), by simp⟩) ?_ ?_
            · rintro D j x d σ' H2 H2' hD hDo hs2 hj hdj ⟨rfl, hy⟩ ⟨e2, rfl⟩ R kR
              have hx := hy _ (.inl (.inl (hs2 _ _ hq0)))
              rw [List.getElem?_map, List.getElem?_eq_getElem hj] at hx
              cases hx
              walk_at "rd"
              refine kR _ _ _ ⟨_, rfl⟩ (Same.refl _) ?_
              have : d = .int (-(r[j])) := by
                rw [List.getElem?_map, List.getElem?_map, List.getElem?_eq_getElem hj] at hdj
                exact (Option.some.inj hdj).symm
              rw [this]
              rfl
            · intro D H1 hD s1 rep
              have rep1 : Rep H1 (.ref D) (dI (r.map fun x => -x)) := Rep.mono newH_same _ rep
              refine ⟨by decide, fun p1 n1 => ⟨xs, (s1.trans (Same.new n1)) _ _ hp, fun p2 n2 => ?_⟩⟩
              have c1 : cutV xs (some 1) (some (0 + ((i + 1 : Nat) : Int))) = (xs.drop 1).take i := by
                rw [Int.zero_add]
                exact cut_mid xs 1 (i + 1) (by omega) (by omega)
              have c2 : cutV xs (some (0 + ((i + 1 : Nat) : Int) + 1)) none = xs.drop (i + 2) := by
                rw [Int.zero_add]
                exact cut_from xs (i + 2) (by omega)
              rw [c1]
              have S2 : Same H1 (upd (upd H1 p1 (HO.lst [V.ref D])) p2 (HO.lst ((xs.drop 1).take i))) := (Same.new n1).trans (Same.new n2)
              have a2 : upd (upd H1 p1 (HO.lst [V.ref D])) p2 (HO.lst ((xs.drop 1).take i)) p1 = some (.lst [.ref D]) := (Same.new n2) _ _ upd_same
              have b2 : upd (upd H1 p1 (HO.lst [V.ref D])) p2 (HO.lst ((xs.drop 1).take i)) p2 = some (.lst ((xs.drop 1).take i)) := upd_same
              generalize upd (upd H1 p1 (HO.lst [V.ref D])) p2 (HO.lst ((xs.drop 1).take i)) = H2 at *
              refine ⟨_, a2, (by rw [List.length_take]; show 1 + min i _ ≤ sizeLine; exact Nat.le_of_lt (small1000 (by omega))), fun p3 n3 => ?_⟩
              have S3 : Same H1 (upd H2 p3 (HO.lst ([V.ref D] ++ (xs.drop 1).take i))) := S2.trans (Same.new n3)
              have a3 := upd_same (H := H2) (a := p3) (o := HO.lst ([V.ref D] ++ (xs.drop 1).take i))
              generalize upd H2 p3 (HO.lst ([V.ref D] ++ (xs.drop 1).take i)) = H3 at *
              have x0 : atI xs 0 = some (xs[0]'(by omega)) := atI_nn (by decide) (by show xs[0]? = _; simp [show 0 < xs.length by omega])
              refine ⟨xs, (s1.trans S3) _ _ hp, _, x0, by decide, fun p4 n4 => ?_⟩
              have S4 : Same H1 (upd H3 p4 (HO.lst [xs[0]'(by omega)])) := S3.trans (Same.new n4)
              have a4 := (Same.new n4 (o := HO.lst [xs[0]'(by omega)])) _ _ a3
              generalize upd H3 p4 (HO.lst [xs[0]'(by omega)]) = H4 at *
              have l1 : ([V.ref D] ++ (xs.drop 1).take i).length ≤ 30 := by simp; omega
              refine ⟨_, a4, Nat.le_of_lt (small1000 (by omega)), fun p5 n5 => ?_⟩
              have S5 : Same H1 (upd H4 p5 (HO.lst ([V.ref D] ++ (xs.drop 1).take i ++ [xs[0]'(by omega)]))) := S4.trans (Same.new n5)
              have a5 := upd_same (H := H4) (a := p5) (o := HO.lst ([V.ref D] ++ (xs.drop 1).take i ++ [xs[0]'(by omega)]))
              generalize upd H4 p5 (HO.lst ([V.ref D] ++ (xs.drop 1).take i ++ [xs[0]'(by omega)])) = H5 at *
              refine ⟨xs, (s1.trans S5) _ _ hp, fun p6 n6 => ?_⟩
              rw [c2]
              have S6 : Same H1 (upd H5 p6 (HO.lst (xs.drop (i + 2)))) := S5.trans (Same.new n6)
              have a6 := (Same.new n6 (o := HO.lst (xs.drop (i + 2)))) _ _ a5
              generalize upd H5 p6 (HO.lst (xs.drop (i + 2))) = H6 at *
              have l2 : ([V.ref D] ++ (xs.drop 1).take i ++ [xs[0]'(by omega)]).length + (xs.drop (i + 2)).length ≤ 100 := by simp; omega
              refine ⟨_, a6, Nat.le_of_lt (small1000 (by omega)), fun p7 n7 => k _ _ ((s1.trans S6).trans (Same.new n7)) ⟨p7, _, rfl, upd_same, ?_⟩⟩
              have S7 := S6.trans (Same.new n7 (o := HO.lst ([V.ref D] ++ (xs.drop 1).take i ++ [xs[0]'(by omega)] ++ xs.drop (i + 2))))
              have T7 := s1.trans S7
              unfold pivP
              rw [hq]
              dsimp only
              rw [mg, List.map_append, List.map_append, List.map_append, List.map_take, List.map_drop, List.map_drop]
              refine Reps.append (Reps.append (Reps.append ⟨_, _, rfl, Rep.mono S7 _ rep1, rfl⟩ (Reps_take _ (Reps_drop _ (Reps.mono T7 _ hxs)))) ⟨_, _, rfl, ?_, rfl⟩) (Reps_drop _ (Reps.mono T7 _ hxs))
              obtain ⟨q1, r1, hr1, ex1, hq1⟩ := rep_mat hxs (i := 0) (x := xs[0]'(by omega)) (by simp [show 0 < xs.length by omega])
              have mg1 : m.getD 0 [] = r1 := by rw [List.getD_eq_getElem?_getD, hr1]; rfl
              have R0 := Rep.mono T7 _ (rep_of_ints hq1)
              rw [← ex1, ← mg1] at R0
              exact R0
        · have hz : gi r 0 = 0 := by
            by_cases z : gi r 0 = 0
            · exact z
            · exact absurd (fun w => z (by have := V.int.inj w; exact this)) h0
          rw [if_neg (by simp [hz])] at hq
          try walk_at "rd"
          exact hq
      · rintro σ H' ⟨e, z, rfl, rfl, hq⟩
        walk_at "rd"
        refine ⟨by decide, fun q hq' => k _ _ (Same.new hq') ?_⟩
        rw [Nat.sub_self] at hq
        unfold pivP
        rw [hq]
        exact ⟨q, [], rfl, upd_same, rfl⟩
end Rim4

set_option Elab.async false
set_option linter.all false
set_option maxRecDepth 100000
set_option maxHeartbeats 4000000
namespace Rim4
open PySem PySem.Spec PyProof.Rows L2 RimM RimD
local macro_rules | `(tactic| walk_at "rd") => `(tactic| simp only [tSeq, tAsg, gName, tTup, tLst, tCons, tNil, tVar, tC, tCB, tOp, rI, rI0, tTest, tIfS, tNext, tRet, tRetN, tDrop, tB, tAnd, tOr, tNot, tAndV, tOrV, tNotV, rU, tUn, tBM0, tBM, rBits, tCall, L2.start, rIxTH, rIxLH, rLenH, rEqTH, rEq, rNe, scal, tyV, CMul, CMulB, CDivB, CDivF, CPow, List.map_cons, List.map_nil, List.length_cons, List.length_nil, List.replicate, List.cons_append, List.nil_append, List.append_nil, List.set_cons_zero, List.set_cons_succ, List.getElem?_cons_zero, List.getElem?_cons_succ, Option.some.injEq, List.cons.injEq, V.int.injEq, V.bl.injEq, V.str.injEq, V.ref.injEq, V.ty.injEq, HO.tup.injEq, HO.lst.injEq, exists_eq_left, exists_eq_left', exists_and_left, and_assoc, and_true, true_and, upd_same, atI_0, atI_1, atI_2, Nat.zero_add, Nat.reduceAdd, Nat.reduceSub, decide_eq_true_eq, Bool.not_eq_true', decide_eq_false_iff_not, reduceCtorEq, false_or, or_false, true_or, or_true, plainT_int, plainT_bool, plainT_tuple, plainT_list, plainT_str, Bool.false_eq_true, if_false, if_true, Bool.not_false, Bool.not_true, Bool.not_not, gSub, rSetL, ixN_00, upd_upd, rCat, iRng1, tFor_eq, tPar, iList, tComp, pick, tYes, iZip, gTup, gCons, gNil, rSum, rListH, List.map, Option.bind, iRng2, iRngD, tSl, rSlH, tPart, tNoPart, tPar3])
variable {P : Program} {w : World} {K : PySem.W.Frag} {mg : Str → Option Value} {base : Heap}
theorem piv_ne {m ord : List (List Int)} {free : Nat} (h : pivP m free = ord) (hf : free ≤ m.length) (hn : ord ≠ []) {w : Nat} (hw : Rect w m) : ord.length = m.length ∧ Rect w ord ∧ gi (ord.getD 0 []) 0 ≠ 0 := by
  unfold pivP at h
  split at h
  · exact absurd h.symm hn
  · rename_i e
    subst h
    obtain ⟨_, _, c⟩ := firstP_some e
    exact ⟨rfl, hw, c⟩
  · rename_i k e
    obtain ⟨_, hk, c⟩ := firstP_some e
    have hk' : k + 1 < m.length := by omega
    subst h
    have at' := piv_at hk'
    have ln := piv_len hk'
    generalize ([(m.getD (k + 1) []).map fun x => -x] ++ (m.drop 1).take k ++ [m.getD 0 []] ++ m.drop (k + 2)) = ord at *
    refine ⟨ln, ⟨fun r hr => ?_⟩, ?_⟩
    · obtain ⟨i, hi, rfl⟩ := List.mem_iff_getElem.mp hr
      have e : ord[i] = ord.getD i [] := by rw [List.getD_eq_getElem?_getD, List.getElem?_eq_getElem hi]; rfl
      rw [e, at']
      split
      · rw [List.length_map]; exact hw.at hk'
      · split
        · exact hw.at (by omega)
        · exact hw.at (by omega)
    · have c' : gi (m.getD (k + 1) []) 0 ≠ 0 := c
      rw [at', if_pos rfl, gi_map (by rfl)]
      omega
theorem piv_bd {m : List (List Int)} {free B : Nat} (h : Bd B m) : Bd B (pivP m free) := by
  unfold pivP
  split
  · intro r hr; cases hr
  · exact h
  · rename_i k e
    have g : ∀ i, ∀ x ∈ m.getD i [], x.natAbs ≤ 2 ^ B := fun i x hx => by
      rw [List.getD_eq_getElem?_getD] at hx
      cases z : m[i]? with
      | none => rw [z] at hx; cases hx
      | some r => rw [z] at hx; exact h r (List.mem_of_getElem? z) x hx
    intro r hr x hx
    rcases List.mem_append.mp hr with hr | hr
    · rcases List.mem_append.mp hr with hr | hr
      · rcases List.mem_append.mp hr with hr | hr
        · rw [List.mem_singleton.mp hr] at hx
          obtain ⟨y, hy, rfl⟩ := List.mem_map.mp hx
          have := g (k + 1) y hy
          omega
        · exact h r (List.mem_of_mem_drop (List.mem_of_mem_take hr)) x hx
      · rw [List.mem_singleton.mp hr] at hx
        exact g 0 x hx
    · exact h r (List.mem_of_mem_drop hr) x hx
theorem bits_of_le {x : Int} {B : Nat} (h : x.natAbs ≤ 2 ^ B) : Builtin.Int.intBits x ≤ B + 1 := by
  by_cases e : x = 0
  · subst e
    exact Nat.le_trans (show Builtin.Int.intBits 0 ≤ 0 by decide +kernel) (Nat.zero_le _)
  · have h0 : x.natAbs ≠ 0 := by omega
    have : x.natAbs.log2 < B + 1 := (Nat.log2_lt h0).mpr (Nat.lt_of_le_of_lt h (Nat.pow_lt_pow_right (by decide) (by omega)))
    rw [bits_pos e]
    omega
theorem log_of_le {x : Int} {B : Nat} (h0 : x ≠ 0) (h : x.natAbs ≤ 2 ^ B) (hB : B < 8999) : x.natAbs.log2 < 9000 := by
  have := bits_of_le h
  rw [bits_pos h0] at this
  omega
abbrev s_swept : Stmt := PySem.Challenge.pw_rimread_k04_determinants_of_many_rows.main.body.getD 15 (.Pass ⟨0, 0, 0, 0⟩)
theorem sc_swept : FnScope ["rows", "before", "left", "free", "ordered", "pivot_row"] ["rows"] (defScope s_swept) := ⟨rfl, rfl, rfl, by decide +kernel, rfl, by decide +kernel, by decide +kernel⟩
theorem lk_swept_0 : (defScope s_swept).names.lookup ("rows" : Str) = some PySem.NameKind.local := by decide +kernel
theorem lk_swept_1 : (defScope s_swept).names.lookup ("before" : Str) = some PySem.NameKind.cell := by decide +kernel
theorem lk_swept_2 : (defScope s_swept).names.lookup ("left" : Str) = some PySem.NameKind.local := by decide +kernel
theorem lk_swept_3 : (defScope s_swept).names.lookup ("free" : Str) = some PySem.NameKind.local := by decide +kernel
theorem lk_swept_4 : (defScope s_swept).names.lookup ("ordered" : Str) = some PySem.NameKind.local := by decide +kernel
theorem lk_swept_5 : (defScope s_swept).names.lookup ("pivot_row" : Str) = some PySem.NameKind.cell := by decide +kernel
theorem gk_swept_len : (defScope s_swept).names.lookup ("len" : Str) = some PySem.NameKind.globalImplicit := by decide +kernel
theorem gk_swept_range : (defScope s_swept).names.lookup ("range" : Str) = some PySem.NameKind.globalImplicit := by decide +kernel
theorem gk_swept_with_pivot : (defScope s_swept).names.lookup ("with_pivot" : Str) = some PySem.NameKind.globalImplicit := by decide +kernel
def sp_swp : Sp := fun vs H Q _ => ∃ (v : V) (m : List (List Int)) (w B : Nat), vs = [v] ∧ Rep H v (dM m) ∧ m.length ≤ w ∧ w ≤ 100 ∧ m.length ≤ 16 ∧ Rect w m ∧ Bd B m ∧ B ≤ 125 ∧
  ∀ x H' left, Same H H' → H' x = some (.tup [.int (sweepP m.length 1 m).1, left]) → Q (.ref x) H'
theorem ok_swept (T : Txt K mg) (F : Fn0 K mg "swept" s_swept) (C_with_pivot : Cal P w K mg base "with_pivot" ["rows", "free"] 1 sp_piv) (C_lessened : Cal P w K mg base "lessened" ["row", "pivot_row", "before"] 1 sp_lsn) : Cal P w K mg base "swept" ["rows"] 2 sp_swp := by
  refine cal_of F sc_swept (fun _ _ _ _ _ _ us hl => match us, hl with | [_], _ => rfl) ?len ?body
  case len => rintro vs H Q E ⟨a, b, c, d, rfl, _⟩; rfl
  case body =>
    intro f cdv A outer s H vs Q E hr h
    obtain ⟨v, m, w, B, rfl, hv, hmw, w100, h5, hw, hB, b240, k⟩ := h
    obtain ⟨p, xs, rfl, hp, hxs⟩ := id hv
    have hl : xs.length = m.length := by rw [hxs.length, List.length_map]
    refine' ⟨_, ?D, ?R⟩
    case D =>
      refine' pss_cons ?g1 ?g2
      case g1 =>
        refine' ps_setc (i := 1) sc_swept.nd rfl lk_swept_1 rfl ?g3 rfl
        case g3 => exact pe_int
      case g2 =>
        refine' pss_cons ?g4 ?g5
        case g4 =>
          refine' ps_set1 (i := 2) sc_swept.nd rfl lk_swept_2 ?g6
          case g6 => exact pv1 0 rfl lk_swept_0
        case g5 =>
          refine' pss_cons ?g7 ?g8
          case g7 =>
            refine' ps_for PassesOwn.never rfl ?g9 ?g10 ?g11
            case g9 =>
              refine' pi_rangeD gk_swept_range T.n_range ?g12
              case g12 =>
                refine' pa_c ?g13 ?g14
                case g13 =>
                  refine' pe_callE call_lenH gk_swept_len T.n_len bt_len ?g15
                  case g15 =>
                    refine' pa_c ?g16 ?g17
                    case g16 => exact pv1 0 rfl lk_swept_0
                    case g17 => exact pa_nil
                case g14 =>
                  refine' pa_c ?g18 ?g19
                  case g18 => exact pe_int
                  case g19 =>
                    refine' pa_c ?g20 ?g21
                    case g20 =>
                      refine' pe_un un_neg ?g22
                      case g22 => exact pe_int
                    case g21 => exact pa_nil
            case g10 => exact pg_name1 (i := 3) sc_swept.nd rfl lk_swept_3
            case g11 =>
              refine' pss_cons ?g23 ?g24
              case g23 =>
                refine' ps_set1 (i := 4) sc_swept.nd rfl lk_swept_4 ?g25
                case g25 =>
                  refine' pe_callD C_with_pivot (hr.mono (by decide)) gk_swept_with_pivot ?g26
                  case g26 =>
                    refine' pa_c ?g27 ?g28
                    case g27 => exact pv1 2 rfl lk_swept_2
                    case g28 =>
                      refine' pa_c ?g29 ?g30
                      case g29 => exact pv1 3 rfl lk_swept_3
                      case g30 => exact pa_nil
              case g24 =>
                refine' pss_cons ?g31 ?g32
                case g31 =>
                  refine' ps_if ?g33 ?g34 ?g35
                  case g33 =>
                    refine' pt_cmpR op_eq ?g36 ?g37 (nomark _)
                    case g36 =>
                      refine' pe_callE call_lenH gk_swept_len T.n_len bt_len ?g38
                      case g38 =>
                        refine' pa_c ?g39 ?g40
                        case g39 => exact pv1 4 rfl lk_swept_4
                        case g40 => exact pa_nil
                    case g37 => exact pe_int
                  case g34 =>
                    refine' pss_one ?g41
                    case g41 =>
                      refine' ps_ret ?g42
                      case g42 =>
                        refine' pe_tup ?g43
                        case g43 =>
                          refine' pa_c ?g44 ?g45
                          case g44 => exact pe_int
                          case g45 =>
                            refine' pa_c ?g46 ?g47
                            case g46 =>
                              refine' pe_lst ?g48
                              case g48 => exact pa_nil
                            case g47 => exact pa_nil
                  case g35 => exact pss_nil
                case g32 =>
                  refine' pss_cons ?g49 ?g50
                  case g49 =>
                    refine' ps_setc (i := 5) sc_swept.nd rfl lk_swept_5 rfl ?g51 rfl
                    case g51 =>
                      refine' pe_ix ix_listH ?g52 ?g53 (fun _ _ => rfl)
                      case g52 => exact pv1 4 rfl lk_swept_4
                      case g53 => exact pe_int
                  case g50 =>
                    refine' pss_cons ?g54 ?g55
                    case g54 =>
                      refine' ps_set1 (i := 2) sc_swept.nd rfl lk_swept_2 ?g56
                      case g56 =>
                        refine' pe_op op_cat ?g57 ?g58
                        case g57 =>
                          refine' pe_comp (N' := ["row", "pivot_row", "before"]) (ix := [none, some 5, some 1]) rfl rfl (scp_of ?g59) ?g60 (fun _ _ _ => ?g61) (fun _ _ _ => ?g62) (fun _ _ _ => ?g63)
                          case g59 => exact (by show scpB (defScope s_swept) ["rows", "before", "left", "free", "ordered", "pivot_row"] _ _ _ = true; decide +kernel)
                          case g60 =>
                            refine' pi_listK (K := K) rfl ?g64
                            case g64 =>
                              refine' pe_slice sl_listH ?g65 ?g66 ?g67
                              case g65 => exact pv1 4 rfl lk_swept_4
                              case g66 =>
                                refine' po_some ?g68
                                case g68 => exact pe_int
                              case g67 => exact po_none
                          case g61 => exact pg_name1 (i := 0) (by show List.Nodup (["row", "pivot_row", "before"] : List Str); decide +kernel) rfl rfl
                          case g62 => exact pf_nil
                          case g63 =>
                            refine' pe_callD C_lessened (hr.mono (by decide)) rfl ?g69
                            case g69 =>
                              refine' pa_c ?g70 ?g71
                              case g70 => exact pv1 0 rfl rfl
                              case g71 =>
                                refine' pa_c ?g72 ?g73
                                case g72 => exact pvc 1 rfl rfl
                                case g73 =>
                                  refine' pa_c ?g74 ?g75
                                  case g74 => exact pvc 2 rfl rfl
                                  case g75 => exact pa_nil
                        case g58 =>
                          refine' pe_lst ?g76
                          case g76 =>
                            refine' pa_c ?g77 ?g78
                            case g77 =>
                              refine' pe_slice sl_listH ?g79 ?g80 ?g81
                              case g79 => exact pvc 5 rfl lk_swept_5
                              case g80 =>
                                refine' po_some ?g82
                                case g82 => exact pe_int
                              case g81 => exact po_none
                            case g78 => exact pa_nil
                    case g55 =>
                      refine' pss_one ?g83
                      case g83 =>
                        refine' ps_setc (i := 1) sc_swept.nd rfl lk_swept_1 rfl ?g84 rfl
                        case g84 =>
                          refine' pe_ix ix_listH ?g85 ?g86 (fun _ _ => rfl)
                          case g85 => exact pvc 5 rfl lk_swept_5
                          case g86 => exact pe_int
          case g8 =>
            refine' pss_one ?g87
            case g87 =>
              refine' ps_ret ?g88
              case g88 =>
                refine' pe_tup ?g89
                case g89 =>
                  refine' pa_c ?g90 ?g91
                  case g90 => exact pvc 1 rfl lk_swept_1
                  case g91 =>
                    refine' pa_c ?g92 ?g93
                    case g92 => exact pv1 2 rfl lk_swept_2
                    case g93 => exact pa_nil
    case R =>
      walk_at "rd"
      refine ⟨_, .inl hp, ?_⟩
      try walk_at "rd"
      refine ⟨by decide, by omega, by omega, ?_⟩
      rw [show ((xs.length : Int) - 0).toNat = m.length by omega]
      have one_le : ∀ e : Nat, (1 : Int).natAbs ≤ 2 ^ e := fun e => Nat.one_le_two_pow
      refine go_down (fun i σ H' => ∃ (b : Int) (L : List (List Int)) (lv : V) (e3 e4 e5 : Option V), σ = [some (.ref p), some (.int b), some lv, e3, e4, e5] ∧ Same H H' ∧ Rep H' lv (dM L) ∧ L.length = m.length ∧ Rect (w - i) L ∧ b ≠ 0 ∧ b.natAbs ≤ 2 ^ 2100 ∧ Bd (2 ^ i * (B + 1) - 1) L ∧ Dv b (m.length - i) (ma L) ∧ Mn b (m.length - i) i (ma L) (ma m) m.length ∧ (sweepP (m.length - i) b L).1 = (sweepP m.length 1 m).1)
        ⟨1, m, _, _, _, _, rfl, Same.refl _, hv, rfl, hw, by decide, one_le _, by rw [Nat.pow_zero, Nat.one_mul, Nat.add_sub_cancel]; exact hB, Dv_one _ _, Mn_one _ _, rfl⟩ ?_ ?_
      · rintro i σ H' hi ⟨b, L, lv, e3, e4, e5, rfl, s1, repL, hL, rect, b0, bB, bdL, hdv, hmn, hsw⟩
        have minors : ∀ ρ κ : Nat → Nat, (∀ j, ρ j < m.length) → (D (i + 1) fun a c => ma m (ρ a) (κ c)).natAbs ≤ 2 ^ 2100 := fun ρ κ hρ => by
          refine Nat.le_trans (D_le4 (B := B) (n := i + 1) (by omega) fun a c _ _ => ?_) (Nat.pow_le_pow_right (by decide) ?_)
          · unfold ma
            refine gi_le (fun x hx => ?_) _
            rw [List.getD_eq_getElem?_getD, List.getElem?_eq_getElem (hρ a)] at hx
            exact hB _ (List.getElem_mem _) x hx
          · calc (B + 4) * (i + 1) ≤ 129 * 16 := Nat.mul_le_mul (by omega) (by omega)
              _ ≤ 2100 := by decide
        have pw : 2 ^ i ≤ 32768 := by
          have : i ≤ 15 := by omega
          calc 2 ^ i ≤ 2 ^ 15 := Nat.pow_le_pow_right (by decide) this
            _ = 32768 := by decide
        have eB : 2 ^ i * (B + 1) ≤ 32768 * 126 := Nat.mul_le_mul pw (by omega)
        have e1 : 1 ≤ 2 ^ i * (B + 1) := Nat.mul_pos (Nat.two_pow_pos i) (by omega)
        have eN : 2 ^ (i + 1) * (B + 1) - 1 = 2 * (2 ^ i * (B + 1) - 1) + 1 := by
          rw [Nat.pow_succ, Nat.mul_comm (2 ^ i) 2, Nat.mul_assoc]
          omega
        rw [eN]
        have eBi : 2 ^ i * (B + 1) - 1 ≤ 4128767 := by omega
        generalize 2 ^ i * (B + 1) - 1 = Bi at *
        obtain ⟨fr, hfr⟩ : ∃ fr, m.length - i = fr + 1 := ⟨m.length - i - 1, by omega⟩
        rw [hfr] at hsw hdv hmn
        rw [show (xs.length : Int) - (i : Nat) = ((fr + 1 : Nat) : Int) by omega]
        walk_at "rd"
        refine ⟨lv, L, fr + 1, rfl, repL, by omega, by omega, fun r hr => by rw [rect.w r hr]; omega, fun x H1 s2 rep1 => ?_⟩
        obtain ⟨po, ys, rfl, hpo, hys⟩ := id rep1
        have hly : ys.length = (pivP L (fr + 1)).length := by rw [hys.length, List.length_map]
        walk_at "rd"
        refine ⟨_, .inl hpo, ?_⟩
        refine ite2 (fun h0 => ?_) (fun h0 => ?_)
        · have e0 : pivP L (fr + 1) = [] := List.length_eq_zero_iff.mp (by omega)
          refine ⟨by decide, fun l1 n1 => ⟨by decide, fun t1 n2 => k _ _ (.ref l1) (((s1.trans s2).trans (Same.new n1)).trans (Same.new n2)) ?_⟩⟩
          rw [upd_same, ← hsw]
          unfold sweepP
          rw [e0]
        · have ne : pivP L (fr + 1) ≠ [] := fun z => h0 (by rw [hly, z]; rfl)
          obtain ⟨ol, orect, o0⟩ := piv_ne rfl (by omega) ne rect
          have obd := piv_bd (free := fr + 1) bdL
          obtain ⟨piv, others, eo⟩ : ∃ piv others, pivP L (fr + 1) = piv :: others := by
            cases z : pivP L (fr + 1) with
            | nil => exact absurd z ne
            | cons a l => exact ⟨a, l, rfl⟩
          obtain ⟨ndv, nmn, nb⟩ := sweep_next (by omega) rect b0 hdv hmn eo
          rw [sweepP, eo] at hsw
          rw [eo] at hys ol orect o0 obd hly
          dsimp only at hsw
          obtain ⟨y0, ys', rfl, rp0, rps⟩ := id hys
          obtain ⟨q0, rfl, hq0⟩ := rep_ints rp0
          have pl : piv.length = w - i := orect.w _ List.mem_cons_self
          have pbd : ∀ x ∈ piv, x.natAbs ≤ 2 ^ Bi := obd _ List.mem_cons_self
          have pn : gi piv 0 ≠ 0 := o0
          have lys : ys'.length = others.length := by rw [rps.length, List.length_map]
          simp only [hpo, Option.some.injEq, HO.lst.injEq, exists_eq_left']
          walk_at "rd"
          intro ps nps
          have c1 : cutV (V.ref q0 :: ys') (some 1) none = ys' := cut_from (V.ref q0 :: ys') 1 (by simp)
          rw [c1]
          have S12 : Same H1 (upd H1 ps (HO.lst ys')) := Same.new nps
          have hps := upd_same (H := H1) (a := ps) (o := HO.lst ys')
          generalize upd H1 ps (HO.lst ys') = H2 at *
          refine ⟨⟨_, .inl (.inl hps)⟩, ?_⟩
          refine comp_any (n := ys'.length) (B := H2) (Pσ := fun σ => ∃ e, σ = [e, some (.ref q0), some (.int b)]) (ds := (others.map (lessP piv b)).map dI) (Same.refl _) ⟨_, rfl⟩ (by simp [lys]) (by simp at ol; omega) (fun j H' hj s' => ⟨ys', ys'[j], .inl (.inl (s' _ _ hps)), by simp [hj]⟩) (fun H' s' => ⟨ys', .inl (.inl (s' _ _ hps)), Nat.le_refl _⟩) ?_ ?_
          · rintro D j x d σ' H' H'' hD hDo hs' hj hdj ⟨rfl, hy⟩ ⟨e, rfl⟩ R kR
            have hx := hy ys' (.inl (.inl (hs' _ _ hps)))
            obtain ⟨q, r, hr1, rfl, hq⟩ := rep_mat rps hx
            have rm : r ∈ piv :: others := List.mem_cons_of_mem _ (List.mem_of_getElem? hr1)
            have rl : r.length = w - i := orect.w r rm
            walk_at "rd"
            refine ⟨_, _, r, piv, b, rfl, rep_of_ints (hs' _ _ (S12 _ _ hq)), rep_of_ints (hs' _ _ (S12 _ _ hq0)), by omega, by omega, by omega, b0, log_of_le b0 bB (by omega), fun x hx => ?_, fun x hx => ?_, fun x H3 s3 rep => kR _ _ _ ⟨_, rfl⟩ s3 ?_⟩
            · have := bits_of_le (obd r rm x hx); omega
            · have := bits_of_le (pbd x hx); omega
            · have : d = dI (lessP piv b r) := by
                rw [List.getElem?_map, List.getElem?_map, hr1] at hdj
                exact (Option.some.inj hdj).symm
              rw [this]
              exact Rep.mono (new_cut hs' hDo) _ rep
          · intro D H3 hD s3 rep
            obtain ⟨_, zs, e, hz, hzs⟩ := Rep.mono newH_same _ rep
            cases e
            have hlz : zs.length = others.length := by rw [hzs.length, List.length_map, List.length_map]
            have hq3 := s3 _ _ (S12 _ _ hq0)
            have c2 : cutV (piv.map V.int) (some 1) none = (piv.drop 1).map V.int := by
              rw [List.map_drop]
              exact cut_from (piv.map V.int) 1 (by simp; omega)
            refine ⟨_, hq3, fun p4 n4 => ⟨by decide, fun p5 n5 => ?_⟩⟩
            rw [c2] at n5 ⊢
            have ol' : others.length + 1 = L.length := ol
            have a4 := (Same.new n5 (o := HO.lst [V.ref p4])) _ _ upd_same
            have S5 : Same H3 (upd (upd H3 p4 (HO.lst ((piv.drop 1).map V.int))) p5 (HO.lst [V.ref p4])) := (Same.new n4).trans (Same.new n5)
            generalize upd (upd H3 p4 (HO.lst ((piv.drop 1).map V.int))) p5 (HO.lst [V.ref p4]) = H5 at *
            refine ⟨D, rfl, zs, S5 _ _ hz, Nat.le_of_lt (small1000 (by omega)), fun p6 n6 => ?_⟩
            have S6 := S5.trans (Same.new n6 (o := HO.lst (zs ++ [V.ref p4])))
            refine ⟨_, S6 _ _ hq3, _, at_ints (by decide) (show (0 : Int).toNat < piv.length by omega), _, rfl, ((s1.trans s2).trans S12).trans (s3.trans S6), others.map (lessP piv b) ++ [piv.drop 1], ⟨p6, _, rfl, upd_same, ?_⟩, by simp; omega, ⟨fun r hr => ?_⟩, pn, nb _ minors, fun r hr x hx => ?_, by rw [show m.length - (i + 1) = fr by omega]; exact ndv, by rw [show m.length - (i + 1) = fr by omega]; exact nmn, ?_⟩
            · rw [List.map_append]
              exact Reps.append (Reps.mono S6 _ hzs) ⟨_, _, rfl, rep_of_ints ((Same.new n6) _ _ a4), rfl⟩
            · rcases List.mem_append.mp hr with hr | hr
              · obtain ⟨r', hr', rfl⟩ := List.mem_map.mp hr
                have := orect.w r' (List.mem_cons_of_mem _ hr')
                unfold lessP
                simp
                omega
              · rw [List.mem_singleton.mp hr]
                simp
                omega
            · rcases List.mem_append.mp hr with hr | hr
              · obtain ⟨r', hr', rfl⟩ := List.mem_map.mp hr
                exact less_le b0 pbd (obd r' (List.mem_cons_of_mem _ hr')) x hx
              · rw [List.mem_singleton.mp hr] at hx
                exact Nat.le_trans (pbd x (List.mem_of_mem_drop hx)) (Nat.pow_le_pow_right (by decide) (by omega))
            · rw [show m.length - (i + 1) = fr by omega]
              exact hsw
      · rintro σ H' ⟨b, L, lv, e3, e4, e5, rfl, s1, repL, hL, rect, b0, bB, bdL, hdv, hmn, hsw⟩
        walk_at "rd"
        refine ⟨by decide, fun t nt => k _ _ lv (s1.trans (Same.new nt)) ?_⟩
        rw [Nat.sub_self] at hsw
        rw [upd_same, ← hsw]
        rfl
end Rim4

set_option Elab.async false
set_option linter.all false
set_option maxRecDepth 100000
set_option maxHeartbeats 4000000
namespace Rim4
open PySem PySem.Spec PyProof.Rows L2 RimM RimD
local macro_rules | `(tactic| walk_at "rd") => `(tactic| simp only [tSeq, tAsg, gName, tTup, tLst, tCons, tNil, tVar, tC, tCB, tOp, rI, rI0, tTest, tIfS, tNext, tRet, tRetN, tDrop, tB, tAnd, tOr, tNot, tAndV, tOrV, tNotV, rU, tUn, tBM0, tBM, rBits, tCall, L2.start, rIxTH, rIxLH, rLenH, rEqTH, rEq, rNe, scal, tyV, CMul, CMulB, CDivB, CDivF, CPow, List.map_cons, List.map_nil, List.length_cons, List.length_nil, List.replicate, List.cons_append, List.nil_append, List.append_nil, List.set_cons_zero, List.set_cons_succ, List.getElem?_cons_zero, List.getElem?_cons_succ, Option.some.injEq, List.cons.injEq, V.int.injEq, V.bl.injEq, V.str.injEq, V.ref.injEq, V.ty.injEq, HO.tup.injEq, HO.lst.injEq, exists_eq_left, exists_eq_left', exists_and_left, and_assoc, and_true, true_and, upd_same, atI_0, atI_1, atI_2, Nat.zero_add, Nat.reduceAdd, Nat.reduceSub, decide_eq_true_eq, Bool.not_eq_true', decide_eq_false_iff_not, reduceCtorEq, false_or, or_false, true_or, or_true, plainT_int, plainT_bool, plainT_tuple, plainT_list, plainT_str, Bool.false_eq_true, if_false, if_true, Bool.not_false, Bool.not_true, Bool.not_not, gSub, rSetL, ixN_00, upd_upd, rCat, iRng1, tFor_eq, tPar, iList, tComp, pick, tYes, iZip, gTup, gCons, gNil, rSum, rListH, List.map, Option.bind, iRng2, iRngD, tSl, rSlH, tPart, tNoPart, tPar3])
variable {P : Program} {w : World} {K : PySem.W.Frag} {mg : Str → Option Value} {base : Heap}
/-- the cleared rows of a grid, their bottoms -/
def nums (g : List (List (Int × Int))) : List (List Int) := g.map fun r => tops r (lcmB r)
def botsP (g : List (List (Int × Int))) : Int := (g.map lcmB).foldl (fun b c => b * c) 1
theorem rep_rows {H : Hp} {xs : List V} {g : List (List (Int × Int))} {i : Nat} {x : V} (h : Reps H xs (g.map dRow)) (e : xs[i]? = some x) : ∃ q ys r, g[i]? = some r ∧ x = .ref q ∧ H q = some (.lst ys) ∧ Reps H ys (r.map dF) := by
  obtain ⟨d, hd, hr⟩ := h.of_get e
  rw [List.getElem?_map] at hd
  cases z : g[i]? with
  | none => rw [z] at hd; cases hd
  | some r =>
    rw [z] at hd
    cases hd
    obtain ⟨q, ys, e1, e2, e3⟩ := hr
    exact ⟨q, ys, r, rfl, e1, e2, e3⟩
theorem rep_clr {H : Hp} {v : V} {ns : List Int} {L : Int} (h : Rep H v (.tup [.lst (ns.map Dt.int), .int L])) : ∃ p q, v = .ref p ∧ H p = some (.tup [.ref q, .int L]) ∧ H q = some (.lst (ns.map V.int)) := by
  obtain ⟨p, xs, e, hp, x, r', e1, ⟨q, ys, e2, hq, hys⟩, y, r'', e3, hy, e4⟩ := h
  cases hy
  subst e1 e2 e3 e4
  rw [reps_ints hys] at hq
  exact ⟨p, q, e, hp, hq⟩
theorem tops_le {r : List (Int × Int)} (h : ∀ p ∈ r, Sm p) (h5 : r.length ≤ 16) : ∀ x ∈ tops r (lcmB r), x.natAbs ≤ 2 ^ 125 := fun x hx => by
  obtain ⟨e, he, rfl⟩ := List.mem_map.mp hx
  have bb := (bot_lcm h).bits
  have bl : Builtin.Int.intBits (lcmB r / e.2) ≤ 65 := PyProof.Rows.bits_of_natAbs_le (b := lcmB r) (by have := Int.natAbs_ediv_le_natAbs (lcmB r) e.2; omega) (by omega)
  have z := PyProof.Rows.bits_mul (h e he).top bl
  by_cases e0 : e.1 * (lcmB r / e.2) = 0
  · rw [e0]; exact Nat.zero_le _
  · rw [bits_pos e0] at z
    exact Nat.le_of_lt ((Nat.log2_lt (by omega)).mp (by omega))
theorem bots_snoc (g : List (List (Int × Int))) (r : List (Int × Int)) : botsP (g ++ [r]) = botsP g * lcmB r := by
  unfold botsP
  rw [List.map_append, List.foldl_append]
  rfl
abbrev s_determinant : Stmt := PySem.Challenge.pw_rimread_k04_determinants_of_many_rows.main.body.getD 16 (.Pass ⟨0, 0, 0, 0⟩)
theorem sc_determinant : FnScope ["grid", "rows", "bottom", "row", "whole"] ["grid"] (defScope s_determinant) := ⟨rfl, rfl, rfl, by decide +kernel, rfl, by decide +kernel, by decide +kernel⟩
theorem lk_determinant_0 : (defScope s_determinant).names.lookup ("grid" : Str) = some PySem.NameKind.local := by decide +kernel
theorem lk_determinant_1 : (defScope s_determinant).names.lookup ("rows" : Str) = some PySem.NameKind.local := by decide +kernel
theorem lk_determinant_2 : (defScope s_determinant).names.lookup ("bottom" : Str) = some PySem.NameKind.local := by decide +kernel
theorem lk_determinant_3 : (defScope s_determinant).names.lookup ("row" : Str) = some PySem.NameKind.local := by decide +kernel
theorem lk_determinant_4 : (defScope s_determinant).names.lookup ("whole" : Str) = some PySem.NameKind.local := by decide +kernel
theorem gk_determinant_cleared : (defScope s_determinant).names.lookup ("cleared" : Str) = some PySem.NameKind.globalImplicit := by decide +kernel
theorem gk_determinant_fraction : (defScope s_determinant).names.lookup ("fraction" : Str) = some PySem.NameKind.globalImplicit := by decide +kernel
theorem gk_determinant_swept : (defScope s_determinant).names.lookup ("swept" : Str) = some PySem.NameKind.globalImplicit := by decide +kernel
def sp_det : Sp := fun vs H Q _ => ∃ (v : V) (g : List (List (Int × Int))), vs = [v] ∧ Rep H v (.lst (g.map dRow)) ∧ g.length ≤ 16 ∧ (∀ r ∈ g, r.length = g.length ∧ ∀ p ∈ r, Sm p) ∧
  ∀ z H', Same H H' → H z = none → H' z = some (.tup [.int (nf (D g.length (ma (nums g))) (botsP g)).1, .int (nf (D g.length (ma (nums g))) (botsP g)).2]) → Q (.ref z) H'
theorem ok_determinant (T : Txt K mg) (F : Fn0 K mg "determinant" s_determinant) (C_cleared : Cal P w K mg base "cleared" ["entries"] 3 sp_cleared) (C_swept : Cal P w K mg base "swept" ["rows"] 2 sp_swp) (C_fraction : Cal P w K mg base "fraction" ["top", "bottom"] 2 sp_fraction) : Cal P w K mg base "determinant" ["grid"] 4 sp_det := by
  refine cal_of F sc_determinant (fun _ _ _ _ _ _ us hl => match us, hl with | [_], _ => rfl) ?len ?body
  case len => rintro vs H Q E ⟨a, b, rfl, _⟩; rfl
  case body =>
    intro f cdv A outer s H vs Q E hr h
    obtain ⟨v, g, rfl, hv, h5, hg, k⟩ := h
    obtain ⟨p, xs, rfl, hp, hxs⟩ := id hv
    have hl : xs.length = g.length := by rw [hxs.length, List.length_map]
    refine' ⟨_, ?D, ?R⟩
    case D =>
      refine' pss_cons ?g1 ?g2
      case g1 =>
        refine' ps_set1 (i := 1) sc_determinant.nd rfl lk_determinant_1 ?g3
        case g3 =>
          refine' pe_lst ?g4
          case g4 => exact pa_nil
      case g2 =>
        refine' pss_cons ?g5 ?g6
        case g5 =>
          refine' ps_set1 (i := 2) sc_determinant.nd rfl lk_determinant_2 ?g7
          case g7 => exact pe_int
        case g6 =>
          refine' pss_cons ?g8 ?g9
          case g8 =>
            refine' ps_for PassesOwn.never rfl ?g10 ?g11 ?g12
            case g10 =>
              refine' pi_listK (K := K) rfl ?g13
              case g13 => exact pv1 0 rfl lk_determinant_0
            case g11 => exact pg_name1 (i := 3) sc_determinant.nd rfl lk_determinant_3
            case g12 =>
              refine' pss_cons ?g14 ?g15
              case g14 =>
                refine' ps_set1 (i := 4) sc_determinant.nd rfl lk_determinant_4 ?g16
                case g16 =>
                  refine' pe_callD C_cleared (hr.mono (by decide)) gk_determinant_cleared ?g17
                  case g17 =>
                    refine' pa_c ?g18 ?g19
                    case g18 => exact pv1 3 rfl lk_determinant_3
                    case g19 => exact pa_nil
              case g15 =>
                refine' pss_cons ?g20 ?g21
                case g20 =>
                  refine' ps_expr1 ?g22
                  case g22 =>
                    refine' pe_bm PySem.F.plainAttrs_list PySem.F.slot_list_append PySem.F.type_list_append mt_append ?g23 ?g24
                    case g23 => exact pv1 1 rfl lk_determinant_1
                    case g24 =>
                      refine' pa_c ?g25 ?g26
                      case g25 =>
                        refine' pe_ix ix_tupH ?g27 ?g28 (fun _ _ => rfl)
                        case g27 => exact pv1 4 rfl lk_determinant_4
                        case g28 => exact pe_int
                      case g26 => exact pa_nil
                case g21 =>
                  refine' pss_one ?g29
                  case g29 =>
                    refine' ps_set1 (i := 2) sc_determinant.nd rfl lk_determinant_2 ?g30
                    case g30 =>
                      refine' pe_op op_mulB ?g31 ?g32
                      case g31 => exact pv1 2 rfl lk_determinant_2
                      case g32 =>
                        refine' pe_ix ix_tupH ?g33 ?g34 (fun _ _ => rfl)
                        case g33 => exact pv1 4 rfl lk_determinant_4
                        case g34 => exact pe_int
          case g9 =>
            refine' pss_one ?g35
            case g35 =>
              refine' ps_ret ?g36
              case g36 =>
                refine' pe_callD C_fraction (hr.mono (by decide)) gk_determinant_fraction ?g37
                case g37 =>
                  refine' pa_c ?g38 ?g39
                  case g38 =>
                    refine' pe_ix ix_tupH ?g40 ?g41 (fun _ _ => rfl)
                    case g40 =>
                      refine' pe_callD C_swept (hr.mono (by decide)) gk_determinant_swept ?g42
                      case g42 =>
                        refine' pa_c ?g43 ?g44
                        case g43 => exact pv1 1 rfl lk_determinant_1
                        case g44 => exact pa_nil
                    case g41 => exact pe_int
                  case g39 =>
                    refine' pa_c ?g45 ?g46
                    case g45 => exact pv1 2 rfl lk_determinant_2
                    case g46 => exact pa_nil
    case R =>
      walk_at "rd"
      refine ⟨by decide, fun l nl => ?_⟩
      refine ⟨⟨xs, .inl (.inl ((Same.new nl) _ _ hp))⟩, ?_⟩
      have pl : p ≠ l := ne_of_none hp nl
      refine go_list (xs := xs) (fun i σ H' => ∃ (c : Int) (e3 e4 : Option V) (ys : List V), σ = [some (.ref p), some (.ref l), some (.int c), e3, e4] ∧ Same H H' ∧ H' l = some (.lst ys) ∧ Reps (cutH (fun _ => none) l H') ys ((nums (g.take i)).map dI) ∧ c = botsP (g.take i) ∧ 0 < c ∧ Builtin.Int.intBits c ≤ 65 * i + 1)
        ⟨1, none, none, [], rfl, Same.new nl, upd_same, rfl, rfl, by decide, by decide +kernel⟩ ?_ ?_ ?_
      · rintro i σ H' hi ⟨c, e3, e4, ys, rfl, s1, _⟩
        exact .inl (.inl (s1 _ _ hp))
      · rintro i x σ H' hx ⟨c, e3, e4, ys, rfl, s1, hl1, reps, hc, c0, cb⟩
        obtain ⟨q, zs, r, hr0, rfl, hq, hzs⟩ := rep_rows hxs hx
        have hi : i < g.length := (List.getElem?_eq_some_iff.mp hr0).1
        obtain ⟨rl, rs⟩ := hg r (List.mem_of_getElem? hr0)
        have bot := bot_lcm rs
        have bp := bot.pos
        have bb := bot.bits
        have ly : ys.length ≤ 16 := by rw [reps.length]; simp [nums]; omega
        walk_at "rd"
        refine ⟨_, r, rfl, ⟨q, zs, rfl, s1 _ _ hq, Reps.mono s1 _ hzs⟩, rs, by omega, fun x1 H1 s2 rep1 => ?_⟩
        obtain ⟨t, q1, rfl, ht, hq1⟩ := rep_clr rep1
        obtain ⟨nt, ht1⟩ := newH_of ht
        obtain ⟨nq, hq2⟩ := newH_of hq1
        have tl : t ≠ l := fun z => by rw [z, hl1] at nt; cases nt
        have ql : q1 ≠ l := fun z => by rw [z, hl1] at nq; cases nq
        have hl2 := s2 _ _ hl1
        walk_at "rd"
        refine ⟨.inl ⟨_, .inl (.inl hl2)⟩, ?_⟩
        simp only [ht1, Option.some.injEq, HO.tup.injEq, exists_eq_left']
        walk_at "rd"
        have tk : g.take (i + 1) = g.take i ++ [r] := by rw [List.take_succ, hr0]; rfl
        have bm := PyProof.Rows.bits_mul cb bb
        refine ⟨l, ys, .ref q1, rfl, rfl, hl2, small1000 (by omega), _, by rw [upd_ne tl]; exact ht1, _, atI_1, _, rfl, by omega, fun b o hb => ?_, _, upd_same, ?_, ?_, Int.mul_pos c0 bp, by omega⟩
        · have hb2 := s2 _ _ (s1 _ _ hb)
          rw [upd_ne (ne_of_none hb nl)]
          exact hb2
        · rw [cutH_upd, tk]
          unfold nums
          rw [List.map_append, List.map_append]
          refine Reps.append (Reps.mono (cutH_mono s2) _ reps) ⟨_, _, rfl, rep_of_ints ?_, rfl⟩
          rw [cutH_at ql rfl]
          exact hq2
        · rw [tk, bots_snoc, hc]
      · rintro σ H' ⟨c, e3, e4, ys, rfl, s1, hl1, reps, hc, c0, cb⟩
        rw [List.take_of_length_le (by omega)] at hc reps
        rw [hl] at cb
        have bd : Bd 125 (nums g) := fun row hrow x hx => by
          obtain ⟨r, hr0, rfl⟩ := List.mem_map.mp hrow
          obtain ⟨rl, rs⟩ := hg r hr0
          exact tops_le rs (by omega) x hx
        have rect : Rect g.length (nums g) := ⟨fun row hrow => by
          obtain ⟨r, hr0, rfl⟩ := List.mem_map.mp hrow
          obtain ⟨rl, rs⟩ := hg r hr0
          simp [tops, rl]⟩
        have ln : (nums g).length = g.length := by simp [nums]
        have dle := D_le4 (B := 125) (n := g.length) (N := ma (nums g)) (by omega) fun i j hi hj => by
          unfold ma
          refine gi_le (fun x hx => ?_) j
          rw [List.getD_eq_getElem?_getD, List.getElem?_eq_getElem (by omega)] at hx
          exact bd _ (List.getElem_mem _) x hx
        have dbits := bits_of_le dle
        have dl : (125 + 4) * g.length ≤ 2064 := by omega
        walk_at "rd"
        refine ⟨.ref l, nums g, g.length, 125, rfl, ⟨l, ys, rfl, hl1, Reps.mono cutH_same _ reps⟩, by omega, by omega, by omega, rect, bd, by omega, fun x H1 left s2 hx => ?_⟩
        rw [sweep_is rect (by omega), ln] at hx
        walk_at "rd"
        simp only [hx, Option.some.injEq, HO.tup.injEq, exists_eq_left']
        walk_at "rd"
        refine ⟨_, _, rfl, by omega, by omega, by omega, fun z H2 s3 nz hz => ?_⟩
        rw [hc] at hz
        exact k z _ ((s1.trans s2).trans s3) ((s1.trans s2).free nz) hz
end Rim4

set_option Elab.async false
set_option linter.all false
set_option maxRecDepth 100000
set_option maxHeartbeats 4000000
namespace Rim4
open PySem PySem.Spec PyProof.Rows L2 RimM RimD
local macro_rules | `(tactic| walk_at "rd") => `(tactic| simp only [tSeq, tAsg, gName, tTup, tLst, tCons, tNil, tVar, tC, tCB, tOp, rI, rI0, tTest, tIfS, tNext, tRet, tRetN, tDrop, tB, tAnd, tOr, tNot, tAndV, tOrV, tNotV, rU, tUn, tBM0, tBM, rBits, tCall, L2.start, rIxTH, rIxLH, rLenH, rEqTH, rEq, rNe, scal, tyV, CMul, CMulB, CDivB, CDivF, CPow, List.map_cons, List.map_nil, List.length_cons, List.length_nil, List.replicate, List.cons_append, List.nil_append, List.append_nil, List.set_cons_zero, List.set_cons_succ, List.getElem?_cons_zero, List.getElem?_cons_succ, Option.some.injEq, List.cons.injEq, V.int.injEq, V.bl.injEq, V.str.injEq, V.ref.injEq, V.ty.injEq, HO.tup.injEq, HO.lst.injEq, exists_eq_left, exists_eq_left', exists_and_left, and_assoc, and_true, true_and, upd_same, atI_0, atI_1, atI_2, Nat.zero_add, Nat.reduceAdd, Nat.reduceSub, decide_eq_true_eq, Bool.not_eq_true', decide_eq_false_iff_not, reduceCtorEq, false_or, or_false, true_or, or_true, plainT_int, plainT_bool, plainT_tuple, plainT_list, plainT_str, Bool.false_eq_true, if_false, if_true, Bool.not_false, Bool.not_true, Bool.not_not, gSub, rSetL, ixN_00, upd_upd, rCat, iRng1, tFor_eq, tPar, iList, tComp, pick, tYes, iZip, gTup, gCons, gNil, rSum, rListH, List.map, Option.bind, iRng2, iRngD, tSl, rSlH, tPart, tNoPart, tPar3])
variable {P : Program} {w : World} {K : PySem.W.Frag} {mg : Str → Option Value} {base : Heap}
abbrev s__law_cell_at : Stmt := PySem.Challenge.pw_rimread_k04_determinants_of_many_rows.main.body.getD 18 (.Pass ⟨0, 0, 0, 0⟩)
theorem sc__law_cell_at : FnScope ["_law_script", "_law_k"] ["_law_script", "_law_k"] (defScope s__law_cell_at) := ⟨rfl, rfl, rfl, by decide +kernel, rfl, by decide +kernel, by decide +kernel⟩
theorem lk__law_cell_at_0 : (defScope s__law_cell_at).names.lookup ("_law_script" : Str) = some PySem.NameKind.local := by decide +kernel
theorem lk__law_cell_at_1 : (defScope s__law_cell_at).names.lookup ("_law_k" : Str) = some PySem.NameKind.local := by decide +kernel
theorem gk__law_cell_at_len : (defScope s__law_cell_at).names.lookup ("len" : Str) = some PySem.NameKind.globalImplicit := by decide +kernel
def sp_cell (K : PySem.W.Frag) : Sp := fun vs H Q _ => ∃ (a : Addr) (ns : List Int) (i : Int), vs = [.ref a, .int i] ∧ SqL K H a (ns.map V.int) ∧ 0 ≤ i ∧ ∀ z, Q (.int z) H
theorem ok__law_cell_at (T : Txt K mg) (F : Fn0 K mg "_law_cell_at" s__law_cell_at) : Cal P w K mg base "_law_cell_at" ["_law_script", "_law_k"] 1 (sp_cell K) := by
  refine cal_of F sc__law_cell_at (fun _ _ _ _ _ _ us hl => match us, hl with | [_, _], _ => rfl) ?len ?body
  case len => rintro vs H Q E ⟨a, b, c, rfl, _⟩; rfl
  case body =>
    intro f cdv A outer s H vs Q E hr h
    obtain ⟨a, ns, i, rfl, hS, h0, k⟩ := h
    refine' ⟨_, ?D, ?R⟩
    case D =>
      refine' pss_cons ?g1 ?g2
      case g1 =>
        refine' ps_if ?g3 ?g4 ?g5
        case g3 =>
          refine' pt_cmpR op_lt ?g6 ?g7 (nomark _)
          case g6 => exact pv1 1 rfl lk__law_cell_at_1
          case g7 =>
            refine' pe_callE call_len_seq gk__law_cell_at_len T.n_len bt_len ?g8
            case g8 =>
              refine' pa_c ?g9 ?g10
              case g9 => exact pv1 0 rfl lk__law_cell_at_0
              case g10 => exact pa_nil
        case g4 =>
          refine' pss_one ?g11
          case g11 =>
            refine' ps_ret ?g12
            case g12 =>
              refine' pe_ix (ix_listK (K := K) rfl) ?g13 ?g14 (fun _ _ => rfl)
              case g13 => exact pv1 0 rfl lk__law_cell_at_0
              case g14 => exact pv1 1 rfl lk__law_cell_at_1
        case g5 => exact pss_nil
      case g2 =>
        refine' pss_one ?g15
        case g15 =>
          refine' ps_ret ?g16
          case g16 => exact pe_int
    case R =>
      walk_at "rd"
      refine ⟨_, .inl hS, ?_⟩
      rw [List.length_map]
      refine ite2 (fun hl => ?_) (fun hl => ?_)
      · refine ⟨a, _, i, V.int (ns.getD i.toNat 0), rfl, rfl, hS, atI_nn h0 ?_, k _⟩
        have : i.toNat < ns.length := by omega
        simp [List.getElem?_map, this, List.getD]
      · exact k 0
abbrev s__law_big : Stmt := PySem.Challenge.pw_rimread_k04_determinants_of_many_rows.main.body.getD 19 (.Pass ⟨0, 0, 0, 0⟩)
theorem sc__law_big : FnScope ["_law_script", "_law_at", "_law_by", "_law_prime", "_law_cell", "_law_big_here", "_law_k", "_law_one"] ["_law_script", "_law_at"] (defScope s__law_big) := ⟨rfl, rfl, rfl, by decide +kernel, rfl, by decide +kernel, by decide +kernel⟩
theorem lk__law_big_0 : (defScope s__law_big).names.lookup ("_law_script" : Str) = some PySem.NameKind.local := by decide +kernel
theorem lk__law_big_1 : (defScope s__law_big).names.lookup ("_law_at" : Str) = some PySem.NameKind.local := by decide +kernel
theorem lk__law_big_2 : (defScope s__law_big).names.lookup ("_law_by" : Str) = some PySem.NameKind.local := by decide +kernel
theorem lk__law_big_3 : (defScope s__law_big).names.lookup ("_law_prime" : Str) = some PySem.NameKind.local := by decide +kernel
theorem lk__law_big_4 : (defScope s__law_big).names.lookup ("_law_cell" : Str) = some PySem.NameKind.local := by decide +kernel
theorem lk__law_big_5 : (defScope s__law_big).names.lookup ("_law_big_here" : Str) = some PySem.NameKind.local := by decide +kernel
theorem lk__law_big_6 : (defScope s__law_big).names.lookup ("_law_k" : Str) = some PySem.NameKind.local := by decide +kernel
theorem lk__law_big_7 : (defScope s__law_big).names.lookup ("_law_one" : Str) = some PySem.NameKind.local := by decide +kernel
theorem gk__law_big__law_cell_at : (defScope s__law_big).names.lookup ("_law_cell_at" : Str) = some PySem.NameKind.globalImplicit := by decide +kernel
theorem gk__law_big_range : (defScope s__law_big).names.lookup ("range" : Str) = some PySem.NameKind.globalImplicit := by decide +kernel
def sp_big (K : PySem.W.Frag) : Sp := fun vs H Q _ => ∃ (a : Addr) (ns : List Int), vs = [.ref a, .int 0] ∧ SqL K H a (ns.map V.int) ∧ ∀ z H', Same H H' → Q (.int z) H'
theorem by_at {a0 a1 a2 a3 a4 a5 a6 a7 : Int} (i : Int) (h0 : 0 ≤ i) (h1 : i < 8) (P : Int → Prop) (p0 : P a0) (p1 : P a1) (p2 : P a2) (p3 : P a3) (p4 : P a4) (p5 : P a5) (p6 : P a6) (p7 : P a7) :
    ∃ v, atI [V.int a0, .int a1, .int a2, .int a3, .int a4, .int a5, .int a6, .int a7] i = some (.int v) ∧ P v := by
  have : i = 0 ∨ i = 1 ∨ i = 2 ∨ i = 3 ∨ i = 4 ∨ i = 5 ∨ i = 6 ∨ i = 7 := by omega
  rcases this with rfl | rfl | rfl | rfl | rfl | rfl | rfl | rfl
  · exact ⟨_, rfl, p0⟩
  · exact ⟨_, rfl, p1⟩
  · exact ⟨_, rfl, p2⟩
  · exact ⟨_, rfl, p3⟩
  · exact ⟨_, rfl, p4⟩
  · exact ⟨_, rfl, p5⟩
  · exact ⟨_, rfl, p6⟩
  · exact ⟨_, rfl, p7⟩
theorem ok__law_big (T : Txt K mg) (F : Fn0 K mg "_law_big" s__law_big) (C__law_cell_at : Cal P w K mg base "_law_cell_at" ["_law_script", "_law_k"] 1 (sp_cell K)) : Cal P w K mg base "_law_big" ["_law_script", "_law_at"] 2 (sp_big K) := by
  refine cal_of F sc__law_big (fun _ _ _ _ _ _ us hl => match us, hl with | [_, _], _ => rfl) ?len ?body
  case len => rintro vs H Q E ⟨a, b, rfl, _⟩; rfl
  case body =>
    intro f cdv A outer s H vs Q E hr h
    obtain ⟨a, ns, rfl, hS, k⟩ := h
    refine' ⟨_, ?D, ?R⟩
    case D =>
      refine' pss_cons ?g1 ?g2
      case g1 =>
        refine' ps_set1 (i := 2) sc__law_big.nd rfl lk__law_big_2 ?g3
        case g3 =>
          refine' pe_tup ?g4
          case g4 =>
            refine' pa_c ?g5 ?g6
            case g5 => exact pe_int
            case g6 =>
              refine' pa_c ?g7 ?g8
              case g7 => exact pe_int
              case g8 =>
                refine' pa_c ?g9 ?g10
                case g9 => exact pe_int
                case g10 =>
                  refine' pa_c ?g11 ?g12
                  case g11 => exact pe_int
                  case g12 =>
                    refine' pa_c ?g13 ?g14
                    case g13 => exact pe_int
                    case g14 =>
                      refine' pa_c ?g15 ?g16
                      case g15 => exact pe_int
                      case g16 =>
                        refine' pa_c ?g17 ?g18
                        case g17 => exact pe_int
                        case g18 =>
                          refine' pa_c ?g19 ?g20
                          case g19 => exact pe_int
                          case g20 => exact pa_nil
      case g2 =>
        refine' pss_cons ?g21 ?g22
        case g21 =>
          refine' ps_set1 (i := 3) sc__law_big.nd rfl lk__law_big_3 ?g23
          case g23 =>
            refine' pe_tup ?g24
            case g24 =>
              refine' pa_c ?g25 ?g26
              case g25 => exact pe_int
              case g26 =>
                refine' pa_c ?g27 ?g28
                case g27 => exact pe_int
                case g28 =>
                  refine' pa_c ?g29 ?g30
                  case g29 => exact pe_int
                  case g30 =>
                    refine' pa_c ?g31 ?g32
                    case g31 => exact pe_int
                    case g32 =>
                      refine' pa_c ?g33 ?g34
                      case g33 => exact pe_int
                      case g34 =>
                        refine' pa_c ?g35 ?g36
                        case g35 => exact pe_int
                        case g36 =>
                          refine' pa_c ?g37 ?g38
                          case g37 => exact pe_int
                          case g38 =>
                            refine' pa_c ?g39 ?g40
                            case g39 => exact pe_int
                            case g40 => exact pa_nil
        case g22 =>
          refine' pss_cons ?g41 ?g42
          case g41 =>
            refine' ps_set1 (i := 4) sc__law_big.nd rfl lk__law_big_4 ?g43
            case g43 =>
              refine' pe_callD C__law_cell_at (hr.mono (by decide)) gk__law_big__law_cell_at ?g44
              case g44 =>
                refine' pa_c ?g45 ?g46
                case g45 => exact pv1 0 rfl lk__law_big_0
                case g46 =>
                  refine' pa_c ?g47 ?g48
                  case g47 => exact pv1 1 rfl lk__law_big_1
                  case g48 => exact pa_nil
          case g42 =>
            refine' pss_cons ?g49 ?g50
            case g49 =>
              refine' ps_if ?g51 ?g52 ?g53
              case g51 =>
                refine' pt_cmpR op_ge ?g54 ?g55 (nomark _)
                case g54 => exact pv1 4 rfl lk__law_big_4
                case g55 =>
                  refine' pe_op op_pow ?g56 ?g57
                  case g56 => exact pe_int
                  case g57 => exact pe_int
              case g52 =>
                refine' pss_one ?g58
                case g58 =>
                  refine' ps_ret ?g59
                  case g59 => exact pv1 4 rfl lk__law_big_4
              case g53 => exact pss_nil
            case g50 =>
              refine' pss_cons ?g60 ?g61
              case g60 =>
                refine' ps_set1 (i := 5) sc__law_big.nd rfl lk__law_big_5 ?g62
                case g62 => exact pe_int
              case g61 =>
                refine' pss_cons ?g63 ?g64
                case g63 =>
                  refine' ps_for PassesOwn.never rfl ?g65 ?g66 ?g67
                  case g65 =>
                    refine' pi_range1 gk__law_big_range T.n_range ?g68
                    case g68 =>
                      refine' pa_c ?g69 ?g70
                      case g69 => exact pe_int
                      case g70 => exact pa_nil
                  case g66 => exact pg_name1 (i := 6) sc__law_big.nd rfl lk__law_big_6
                  case g67 =>
                    refine' pss_cons ?g71 ?g72
                    case g71 =>
                      refine' ps_set1 (i := 7) sc__law_big.nd rfl lk__law_big_7 ?g73
                      case g73 =>
                        refine' pe_op op_add ?g74 ?g75
                        case g74 =>
                          refine' pe_op op_add ?g76 ?g77
                          case g76 =>
                            refine' pe_op op_mod ?g78 ?g79
                            case g78 =>
                              refine' pe_callD C__law_cell_at (hr.mono (by decide)) gk__law_big__law_cell_at ?g80
                              case g80 =>
                                refine' pa_c ?g81 ?g82
                                case g81 => exact pv1 0 rfl lk__law_big_0
                                case g82 =>
                                  refine' pa_c ?g83 ?g84
                                  case g83 =>
                                    refine' pe_op op_add ?g85 ?g86
                                    case g85 => exact pv1 1 rfl lk__law_big_1
                                    case g86 =>
                                      refine' pe_op op_mod ?g87 ?g88
                                      case g87 => exact pv1 6 rfl lk__law_big_6
                                      case g88 => exact pe_int
                                  case g84 => exact pa_nil
                            case g79 =>
                              refine' pe_op op_pow ?g89 ?g90
                              case g89 => exact pe_int
                              case g90 => exact pe_int
                          case g77 => exact pe_int
                        case g75 =>
                          refine' pe_op op_mul ?g91 ?g92
                          case g91 => exact pv1 6 rfl lk__law_big_6
                          case g92 => exact pv1 6 rfl lk__law_big_6
                    case g72 =>
                      refine' pss_one ?g93
                      case g93 =>
                        refine' ps_set1 (i := 5) sc__law_big.nd rfl lk__law_big_5 ?g94
                        case g94 =>
                          refine' pe_op op_add ?g95 ?g96
                          case g95 =>
                            refine' pe_op op_mul ?g97 ?g98
                            case g97 => exact pv1 5 rfl lk__law_big_5
                            case g98 => exact pe_int
                          case g96 =>
                            refine' pe_op op_mod ?g99 ?g100
                            case g99 =>
                              refine' pe_op op_mod ?g101 ?g102
                              case g101 =>
                                refine' pe_op op_mul ?g103 ?g104
                                case g103 => exact pv1 7 rfl lk__law_big_7
                                case g104 =>
                                  refine' pe_ix ix_tupH ?g105 ?g106 (fun _ _ => rfl)
                                  case g105 => exact pv1 2 rfl lk__law_big_2
                                  case g106 =>
                                    refine' pe_op op_mod ?g107 ?g108
                                    case g107 => exact pv1 6 rfl lk__law_big_6
                                    case g108 => exact pe_int
                              case g102 =>
                                refine' pe_ix ix_tupH ?g109 ?g110 (fun _ _ => rfl)
                                case g109 => exact pv1 3 rfl lk__law_big_3
                                case g110 =>
                                  refine' pe_op op_mod ?g111 ?g112
                                  case g111 => exact pv1 6 rfl lk__law_big_6
                                  case g112 => exact pe_int
                            case g100 => exact pe_int
                case g64 =>
                  refine' pss_one ?g113
                  case g113 =>
                    refine' ps_ret ?g114
                    case g114 => exact pv1 5 rfl lk__law_big_5
    case R =>
      walk_at "rd"
      refine ⟨by decide, fun p hp => ⟨by decide, fun q hq => ?_⟩⟩
      generalize e1 : upd H p (HO.tup _) = H1 at hq ⊢
      have s1 : Same H H1 := e1 ▸ Same.new hp
      have p1 : H1 p = some (.tup _) := e1 ▸ upd_same
      generalize e2 : upd H1 q (HO.tup _) = H2
      have s2 : Same H1 H2 := e2 ▸ Same.new hq
      have q2 : H2 q = some (.tup _) := e2 ▸ upd_same
      have p2 := s2 _ _ p1
      have sS : Same H H2 := s1.trans s2
      clear e1 e2
      refine ⟨a, ns, 0, rfl, sS.seq hS, by decide, fun z => ?_⟩
      walk_at "rd"
      refine ⟨by decide, by decide, by decide, ?_⟩
      refine ite2 (fun _ => k _ _ sS) (fun _ => ⟨by decide, by decide, ?_⟩)
      refine go_range (fun i σ H' => H' = H2 ∧ ∃ (b : Int) (v6 v7 : Option V), σ = [some (V.ref a), some (V.int 0), some (V.ref p), some (V.ref q), some (V.int z), some (V.int b), v6, v7]) ⟨rfl, 0, none, none, rfl⟩ ?_ ?_
      · rintro i σ H' hi ⟨rfl, b, v6, v7, rfl⟩
        have hi' : i < 60 := hi
        walk_at "rd"
        have m9 := Int.emod_nonneg (0 + (i : Int)) (show (9 : Int) ≠ 0 by decide)
        refine ⟨by decide, a, ns, _, rfl, sS.seq hS, by omega, fun y => ?_⟩
        walk_at "rd"
        refine ⟨by decide, by decide, by decide, by decide, .inl ⟨by omega, by omega⟩, .inr ⟨by decide, by decide⟩, by decide, ?_⟩
        have m8 := Int.emod_nonneg (0 + (i : Int)) (show (8 : Int) ≠ 0 by decide)
        have l8 := Int.emod_lt_of_pos (0 + (i : Int)) (show (0 : Int) < 8 by decide)
        obtain ⟨v, hv, v0, v1⟩ := by_at (a0 := 48271) (a1 := 69621) (a2 := 16807) (a3 := 39373) (a4 := 21401) (a5 := 60493) (a6 := 87721) (a7 := 31337) ((0 + (i : Int)) % 8) m8 l8 (fun v => 0 < v ∧ v < 100000) (by decide) (by decide) (by decide) (by decide) (by decide) (by decide) (by decide) (by decide)
        obtain ⟨u, hu, u0, u1⟩ := by_at (a0 := 99991) (a1 := 99989) (a2 := 99971) (a3 := 99961) (a4 := 99929) (a5 := 99923) (a6 := 99907) (a7 := 99901) ((0 + (i : Int)) % 8) m8 l8 (fun v => 0 < v ∧ v < 100000) (by decide) (by decide) (by decide) (by decide) (by decide) (by decide) (by decide) (by decide)
        simp only [p2, q2, Option.some.injEq, HO.tup.injEq, exists_eq_left']
        simp only [hv, hu]
        walk_at "rd"
        exact ⟨.inr ⟨by omega, by omega⟩, by decide, u0, by decide, _, rfl⟩
      · rintro σ H' ⟨rfl, b, v6, v7, rfl⟩
        walk_at "rd"
        exact k _ _ sS
abbrev s__law_digit : Stmt := PySem.Challenge.pw_rimread_k04_determinants_of_many_rows.main.body.getD 23 (.Pass ⟨0, 0, 0, 0⟩)
theorem sc__law_digit : FnScope ["_law_rest", "_law_many", "_law_digit_here"] ["_law_rest", "_law_many"] (defScope s__law_digit) := ⟨rfl, rfl, rfl, by decide +kernel, rfl, by decide +kernel, by decide +kernel⟩
theorem lk__law_digit_0 : (defScope s__law_digit).names.lookup ("_law_rest" : Str) = some PySem.NameKind.local := by decide +kernel
theorem lk__law_digit_1 : (defScope s__law_digit).names.lookup ("_law_many" : Str) = some PySem.NameKind.local := by decide +kernel
theorem lk__law_digit_2 : (defScope s__law_digit).names.lookup ("_law_digit_here" : Str) = some PySem.NameKind.local := by decide +kernel
def sp_digit : Sp := fun vs H Q _ => ∃ (l : Addr) (r m : Int), vs = [.ref l, .int m] ∧ H l = some (.lst [.int r]) ∧ 0 < m ∧ m.natAbs.log2 < 9000 ∧ Q (.int (r % m)) (upd H l (.lst [.int (r / m)]))
theorem ok__law_digit (T : Txt K mg) (F : Fn0 K mg "_law_digit" s__law_digit) : Cal P w K mg base "_law_digit" ["_law_rest", "_law_many"] 1 sp_digit := by
  refine cal_of F sc__law_digit (fun _ _ _ _ _ _ us hl => match us, hl with | [_, _], _ => rfl) ?len ?body
  case len => rintro vs H Q E ⟨a, b, c, rfl, _⟩; rfl
  case body =>
    intro f cdv A outer s H vs Q E hr h
    obtain ⟨l, r, m, rfl, hl, m0, ml, k⟩ := h
    refine' ⟨_, ?D, ?R⟩
    case D =>
      refine' pss_cons ?g1 ?g2
      case g1 =>
        refine' ps_set1 (i := 2) sc__law_digit.nd rfl lk__law_digit_2 ?g3
        case g3 =>
          refine' pe_op op_mod ?g4 ?g5
          case g4 =>
            refine' pe_ix ix_listH ?g6 ?g7 (fun _ _ => rfl)
            case g6 => exact pv1 0 rfl lk__law_digit_0
            case g7 => exact pe_int
          case g5 => exact pv1 1 rfl lk__law_digit_1
      case g2 =>
        refine' pss_cons ?g8 ?g9
        case g8 =>
          refine' ps_asg ?g10 (pg_sub ?g11 ?g12 set_list)
          case g10 =>
            refine' pe_op op_fdivB ?g13 ?g14
            case g13 =>
              refine' pe_ix ix_listH ?g15 ?g16 (fun _ _ => rfl)
              case g15 => exact pv1 0 rfl lk__law_digit_0
              case g16 => exact pe_int
            case g14 => exact pv1 1 rfl lk__law_digit_1
          case g11 => exact pv1 0 rfl lk__law_digit_0
          case g12 => exact pe_int
        case g9 =>
          refine' pss_one ?g17
          case g17 =>
            refine' ps_ret ?g18
            case g18 => exact pv1 2 rfl lk__law_digit_2
    case R =>
      walk_at "rd"
      simp only [hl]
      walk_at "rd"
      exact ⟨m0, m0, ml, k⟩
abbrev s__law_low : Stmt := PySem.Challenge.pw_rimread_k04_determinants_of_many_rows.main.body.getD 20 (.Pass ⟨0, 0, 0, 0⟩)
theorem sc__law_low : FnScope ["_law_top", "_law_bottom", "_law_one", "_law_other"] ["_law_top", "_law_bottom"] (defScope s__law_low) := ⟨rfl, rfl, rfl, by decide +kernel, rfl, by decide +kernel, by decide +kernel⟩
theorem lk__law_low_0 : (defScope s__law_low).names.lookup ("_law_top" : Str) = some PySem.NameKind.local := by decide +kernel
theorem lk__law_low_1 : (defScope s__law_low).names.lookup ("_law_bottom" : Str) = some PySem.NameKind.local := by decide +kernel
theorem lk__law_low_2 : (defScope s__law_low).names.lookup ("_law_one" : Str) = some PySem.NameKind.local := by decide +kernel
theorem lk__law_low_3 : (defScope s__law_low).names.lookup ("_law_other" : Str) = some PySem.NameKind.local := by decide +kernel
theorem gk__law_low_abs : (defScope s__law_low).names.lookup ("abs" : Str) = some PySem.NameKind.globalImplicit := by decide +kernel
def sp_low : Sp := fun vs H Q _ => ∃ t b : Int, vs = [.int t, .int b] ∧ 0 < b ∧ Builtin.Int.intBits b ≤ 8000 ∧ ∀ p H', Same H H' → Rep (newH H H') (.ref p) (dF (nf t b)) → Q (.ref p) H'
theorem ok__law_low (T : Txt K mg) (F : Fn0 K mg "_law_low" s__law_low) : Cal P w K mg base "_law_low" ["_law_top", "_law_bottom"] 1 sp_low := by
  refine cal_of F sc__law_low (fun _ _ _ _ _ _ us hl => match us, hl with | [_, _], _ => rfl) ?len ?body
  case len => rintro vs H Q E ⟨a, b, rfl, _⟩; rfl
  case body =>
    intro f cdv A outer s H vs Q E hr h
    obtain ⟨a, b, rfl, hb, lb, k⟩ := h
    refine' ⟨_, ?D, ?R⟩
    case D =>
      refine' pss_cons ?g1 ?g2
      case g1 =>
        refine' ps_par (i := 2) (j := 3) rfl sc__law_low.nd rfl rfl (by decide) lk__law_low_2 lk__law_low_3 ?g3 rfl
        case g3 =>
          refine' pa_c ?g4 ?g5
          case g4 =>
            refine' pe_callE call_abs gk__law_low_abs T.n_abs bt_abs ?g6
            case g6 =>
              refine' pa_c ?g7 ?g8
              case g7 => exact pv1 0 rfl lk__law_low_0
              case g8 => exact pa_nil
          case g5 =>
            refine' pa_c ?g9 ?g10
            case g9 => exact pv1 1 rfl lk__law_low_1
            case g10 => exact pa_nil
      case g2 =>
        refine' pss_cons ?g11 ?g12
        case g11 =>
          refine' ps_while PassesOwn.never ?g13 ?g14
          case g13 =>
            refine' pt_cmpR op_gt ?g15 ?g16 (nomark _)
            case g15 => exact pv1 3 rfl lk__law_low_3
            case g16 => exact pe_int
          case g14 =>
            refine' pss_one ?g17
            case g17 =>
              refine' ps_par (i := 2) (j := 3) rfl sc__law_low.nd rfl rfl (by decide) lk__law_low_2 lk__law_low_3 ?g18 rfl
              case g18 =>
                refine' pa_c ?g19 ?g20
                case g19 => exact pv1 3 rfl lk__law_low_3
                case g20 =>
                  refine' pa_c ?g21 ?g22
                  case g21 =>
                    refine' pe_op op_mod ?g23 ?g24
                    case g23 => exact pv1 2 rfl lk__law_low_2
                    case g24 => exact pv1 3 rfl lk__law_low_3
                  case g22 => exact pa_nil
        case g12 =>
          refine' pss_one ?g25
          case g25 =>
            refine' ps_ret ?g26
            case g26 =>
              refine' pe_tup ?g27
              case g27 =>
                refine' pa_c ?g28 ?g29
                case g28 =>
                  refine' pe_op op_fdivB ?g30 ?g31
                  case g30 => exact pv1 0 rfl lk__law_low_0
                  case g31 => exact pv1 2 rfl lk__law_low_2
                case g29 =>
                  refine' pa_c ?g32 ?g33
                  case g32 =>
                    refine' pe_op op_fdivB ?g34 ?g35
                    case g34 => exact pv1 1 rfl lk__law_low_1
                    case g35 => exact pv1 2 rfl lk__law_low_2
                  case g33 => exact pa_nil
    case R =>
      walk_at "rd"
      refine while_W (fun σ H1 => ∃ (x y : Int), σ = [some (.int a), some (.int b), some (.int x), some (.int y)] ∧ H1 = H ∧ 0 ≤ x ∧ 0 ≤ y ∧ Int.gcd x y = Int.gcd a b)
        (fun σ _ => match σ with | [_, _, _, some (.int y)] => y.toNat | _ => 0) ?_ ?_
      · refine ⟨_, _, rfl, rfl, ?_, by omega, ?_⟩
        · split <;> omega
        · split
          · rw [Int.neg_gcd]
          · rfl
      · rintro σ H1 ⟨x, y, rfl, rfl, hx, hy, e⟩
        walk_at "rd"
        refine ite2 (fun hne => ?_) (fun he => ?_)
        · refine ⟨_, N_ok, ?_⟩
          walk_at "rd"
          have h1 := Int.emod_nonneg x (show y ≠ 0 by omega)
          have h2 := Int.emod_lt_of_pos x hne
          exact ⟨hne, hy, h1, (gcd_step hx hne).trans e, by omega⟩
        · have hy0 : y = 0 := by omega
          have hx' : x = (Int.gcd a b : Nat) := by
            rw [← e, hy0, Int.gcd_zero_right]; omega
          have g0 := gpos (t := a) (b := b) (by omega)
          have hl := log_of (g := (Int.gcd a b : Int)) (b := b) (by omega) (Nat.le_of_dvd (by omega) (Int.natAbs_dvd_natAbs.mpr (Int.gcd_dvd_right ..))) lb
          subst hx'
          refine ⟨g0, hl, g0, hl, by decide, fun p hp => k p _ (Same.new hp) ⟨p, _, rfl, ?_, _, _, rfl, rfl, _, _, rfl, rfl, rfl⟩⟩
          rw [newH_at hp, upd_same, nf_pos hb]
end Rim4

set_option Elab.async false
set_option linter.all false
set_option maxRecDepth 100000
set_option maxHeartbeats 4000000
namespace Rim4
open PySem PySem.Spec PyProof.Rows L2 RimM RimD
local macro_rules | `(tactic| walk_at "rd") => `(tactic| simp only [tSeq, tAsg, gName, tTup, tLst, tCons, tNil, tVar, tC, tCB, tOp, rI, rI0, tTest, tIfS, tNext, tRet, tRetN, tDrop, tB, tAnd, tOr, tNot, tAndV, tOrV, tNotV, rU, tUn, tBM0, tBM, rBits, tCall, L2.start, rIxTH, rIxLH, rLenH, rEqTH, rEq, rNe, scal, tyV, CMul, CMulB, CDivB, CDivF, CPow, List.map_cons, List.map_nil, List.length_cons, List.length_nil, List.replicate, List.cons_append, List.nil_append, List.append_nil, List.set_cons_zero, List.set_cons_succ, List.getElem?_cons_zero, List.getElem?_cons_succ, Option.some.injEq, List.cons.injEq, V.int.injEq, V.bl.injEq, V.str.injEq, V.ref.injEq, V.ty.injEq, HO.tup.injEq, HO.lst.injEq, exists_eq_left, exists_eq_left', exists_and_left, and_assoc, and_true, true_and, upd_same, atI_0, atI_1, atI_2, Nat.zero_add, Nat.reduceAdd, Nat.reduceSub, decide_eq_true_eq, Bool.not_eq_true', decide_eq_false_iff_not, reduceCtorEq, false_or, or_false, true_or, or_true, plainT_int, plainT_bool, plainT_tuple, plainT_list, plainT_str, Bool.false_eq_true, if_false, if_true, Bool.not_false, Bool.not_true, Bool.not_not, gSub, rSetL, ixN_00, upd_upd, rCat, iRng1, tFor_eq, tPar, iList, tComp, pick, tYes, iZip, gTup, gCons, gNil, rSum, rListH, List.map, Option.bind, iRng2, iRngD, tSl, rSlH, tPart, tNoPart, tPar3])
variable {P : Program} {w : World} {K : PySem.W.Frag} {mg : Str → Option Value} {base : Heap}
theorem nf_top_le {t b : Int} (hb : 0 < b) : (nf t b).1.natAbs ≤ t.natAbs ∧ (nf t b).2.natAbs ≤ b.natAbs := by
  rw [nf_pos hb]
  exact ⟨by have := Int.natAbs_ediv_le_natAbs t (Int.gcd t b : Int); omega, by have := Int.natAbs_ediv_le_natAbs b (Int.gcd t b : Int); omega⟩
/-- all but l as it was -/
def But (l : Addr) (H H' : Hp) : Prop := ∀ b o, b ≠ l → H b = some o → H' b = some o
theorem But.refl (l : Addr) (H : Hp) : But l H H := fun _ _ _ h => h
theorem But.trans {l : Addr} {H H1 H2 : Hp} (a : But l H H1) (b : But l H1 H2) : But l H H2 := fun c o n h => b c o n (a c o n h)
theorem But.of {l : Addr} {H H' : Hp} (s : Same H H') : But l H H' := fun b o _ h => s b o h
theorem But.upd {l : Addr} {H H' : Hp} {o : HO} (a : But l H H') : But l H (L2.upd H' l o) := fun b z n h => by rw [upd_ne n]; exact a b z n h
theorem bits_2 {x y : Int} {n m : Nat} (hx : Builtin.Int.intBits x ≤ n) (hy : Builtin.Int.intBits y ≤ m) (h : n + m ≤ 9000) : Builtin.Int.intBits (x * y) ≤ n + m ∧ Builtin.Int.intBits x + Builtin.Int.intBits y ≤ 134217728 := ⟨PyProof.Rows.bits_mul hx hy, by omega⟩
/-- a reckoning of two fractions, as the law does it -/
def sp_two (t : Int × Int → Int × Int → Int) : Sp := fun vs H Q _ => ∃ v u p q, vs = [v, u] ∧ Rep H v (dF p) ∧ Rep H u (dF q) ∧ 0 < p.2 ∧ 0 < q.2 ∧ Builtin.Int.intBits p.1 ≤ 2000 ∧ Builtin.Int.intBits p.2 ≤ 2000 ∧ Builtin.Int.intBits q.1 ≤ 2000 ∧ Builtin.Int.intBits q.2 ≤ 2000 ∧
  ∀ z H', Same H H' → Rep (newH H H') (.ref z) (dF (nf (t p q) (p.2 * q.2))) → Q (.ref z) H'
abbrev s__law_add : Stmt := PySem.Challenge.pw_rimread_k04_determinants_of_many_rows.main.body.getD 21 (.Pass ⟨0, 0, 0, 0⟩)
theorem sc__law_add : FnScope ["_law_one", "_law_other"] ["_law_one", "_law_other"] (defScope s__law_add) := ⟨rfl, rfl, rfl, by decide +kernel, rfl, by decide +kernel, by decide +kernel⟩
theorem lk__law_add_0 : (defScope s__law_add).names.lookup ("_law_one" : Str) = some PySem.NameKind.local := by decide +kernel
theorem lk__law_add_1 : (defScope s__law_add).names.lookup ("_law_other" : Str) = some PySem.NameKind.local := by decide +kernel
theorem gk__law_add__law_low : (defScope s__law_add).names.lookup ("_law_low" : Str) = some PySem.NameKind.globalImplicit := by decide +kernel
theorem ok__law_add (T : Txt K mg) (F : Fn0 K mg "_law_add" s__law_add) (C__law_low : Cal P w K mg base "_law_low" ["_law_top", "_law_bottom"] 1 sp_low) : Cal P w K mg base "_law_add" ["_law_one", "_law_other"] 2 (sp_two (fun p q => p.1 * q.2 + q.1 * p.2)) := by
  refine cal_of F sc__law_add (fun _ _ _ _ _ _ us hl => match us, hl with | [_, _], _ => rfl) ?len ?body
  case len => rintro vs H Q E ⟨a, b, c, d, rfl, _⟩; rfl
  case body =>
    intro f cdv A outer s H vs Q E hr h
    obtain ⟨v, u, p, q, rfl, hv, hu, p0, q0, p1, p2, q1, q2, k⟩ := h
    obtain ⟨x, rfl, hx⟩ := rep_dF hv
    obtain ⟨y, rfl, hy⟩ := rep_dF hu
    have a3 := bits_2 p2 q2 (by decide)
    refine' ⟨_, ?D, ?R⟩
    case D =>
      refine' pss_one ?g1
      case g1 =>
        refine' ps_ret ?g2
        case g2 =>
          refine' pe_callD C__law_low (hr.mono (by decide)) gk__law_add__law_low ?g3
          case g3 =>
            refine' pa_c ?g4 ?g5
            case g4 =>
              refine' pe_op op_add ?g6 ?g7
              case g6 =>
                refine' pe_op op_mulB ?g8 ?g9
                case g8 =>
                  refine' pe_ix ix_tupH ?g10 ?g11 (fun _ _ => rfl)
                  case g10 => exact pv1 0 rfl lk__law_add_0
                  case g11 => exact pe_int
                case g9 =>
                  refine' pe_ix ix_tupH ?g12 ?g13 (fun _ _ => rfl)
                  case g12 => exact pv1 1 rfl lk__law_add_1
                  case g13 => exact pe_int
              case g7 =>
                refine' pe_op op_mulB ?g14 ?g15
                case g14 =>
                  refine' pe_ix ix_tupH ?g16 ?g17 (fun _ _ => rfl)
                  case g16 => exact pv1 1 rfl lk__law_add_1
                  case g17 => exact pe_int
                case g15 =>
                  refine' pe_ix ix_tupH ?g18 ?g19 (fun _ _ => rfl)
                  case g18 => exact pv1 0 rfl lk__law_add_0
                  case g19 => exact pe_int
            case g5 =>
              refine' pa_c ?g20 ?g21
              case g20 =>
                refine' pe_op op_mulB ?g22 ?g23
                case g22 =>
                  refine' pe_ix ix_tupH ?g24 ?g25 (fun _ _ => rfl)
                  case g24 => exact pv1 0 rfl lk__law_add_0
                  case g25 => exact pe_int
                case g23 =>
                  refine' pe_ix ix_tupH ?g26 ?g27 (fun _ _ => rfl)
                  case g26 => exact pv1 1 rfl lk__law_add_1
                  case g27 => exact pe_int
              case g21 => exact pa_nil
    case R =>
      walk_at "rd"
      simp only [hx, hy, Option.some.injEq, HO.tup.injEq, exists_eq_left']
      walk_at "rd"
      exact ⟨by omega, by omega, by omega, _, _, rfl, Int.mul_pos p0 q0, by omega, fun z H' s' rep => k z H' s' rep⟩
abbrev s__law_mul : Stmt := PySem.Challenge.pw_rimread_k04_determinants_of_many_rows.main.body.getD 22 (.Pass ⟨0, 0, 0, 0⟩)
theorem sc__law_mul : FnScope ["_law_one", "_law_other"] ["_law_one", "_law_other"] (defScope s__law_mul) := ⟨rfl, rfl, rfl, by decide +kernel, rfl, by decide +kernel, by decide +kernel⟩
theorem lk__law_mul_0 : (defScope s__law_mul).names.lookup ("_law_one" : Str) = some PySem.NameKind.local := by decide +kernel
theorem lk__law_mul_1 : (defScope s__law_mul).names.lookup ("_law_other" : Str) = some PySem.NameKind.local := by decide +kernel
theorem gk__law_mul__law_low : (defScope s__law_mul).names.lookup ("_law_low" : Str) = some PySem.NameKind.globalImplicit := by decide +kernel
theorem ok__law_mul (T : Txt K mg) (F : Fn0 K mg "_law_mul" s__law_mul) (C__law_low : Cal P w K mg base "_law_low" ["_law_top", "_law_bottom"] 1 sp_low) : Cal P w K mg base "_law_mul" ["_law_one", "_law_other"] 2 (sp_two (fun p q => p.1 * q.1)) := by
  refine cal_of F sc__law_mul (fun _ _ _ _ _ _ us hl => match us, hl with | [_, _], _ => rfl) ?len ?body
  case len => rintro vs H Q E ⟨a, b, c, d, rfl, _⟩; rfl
  case body =>
    intro f cdv A outer s H vs Q E hr h
    obtain ⟨v, u, p, q, rfl, hv, hu, p0, q0, p1, p2, q1, q2, k⟩ := h
    obtain ⟨x, rfl, hx⟩ := rep_dF hv
    obtain ⟨y, rfl, hy⟩ := rep_dF hu
    have a3 := bits_2 p2 q2 (by decide)
    refine' ⟨_, ?D, ?R⟩
    case D =>
      refine' pss_one ?g1
      case g1 =>
        refine' ps_ret ?g2
        case g2 =>
          refine' pe_callD C__law_low (hr.mono (by decide)) gk__law_mul__law_low ?g3
          case g3 =>
            refine' pa_c ?g4 ?g5
            case g4 =>
              refine' pe_op op_mulB ?g6 ?g7
              case g6 =>
                refine' pe_ix ix_tupH ?g8 ?g9 (fun _ _ => rfl)
                case g8 => exact pv1 0 rfl lk__law_mul_0
                case g9 => exact pe_int
              case g7 =>
                refine' pe_ix ix_tupH ?g10 ?g11 (fun _ _ => rfl)
                case g10 => exact pv1 1 rfl lk__law_mul_1
                case g11 => exact pe_int
            case g5 =>
              refine' pa_c ?g12 ?g13
              case g12 =>
                refine' pe_op op_mulB ?g14 ?g15
                case g14 =>
                  refine' pe_ix ix_tupH ?g16 ?g17 (fun _ _ => rfl)
                  case g16 => exact pv1 0 rfl lk__law_mul_0
                  case g17 => exact pe_int
                case g15 =>
                  refine' pe_ix ix_tupH ?g18 ?g19 (fun _ _ => rfl)
                  case g18 => exact pv1 1 rfl lk__law_mul_1
                  case g19 => exact pe_int
              case g13 => exact pa_nil
    case R =>
      walk_at "rd"
      simp only [hx, hy, Option.some.injEq, HO.tup.injEq, exists_eq_left']
      walk_at "rd"
      exact ⟨by omega, by omega, _, _, rfl, Int.mul_pos p0 q0, by omega, fun z H' s' rep => k z H' s' rep⟩
/-- what is drawn, one by one -/
theorem comp_drawD {lo : Int} {g : TG} {te : TE} {σ : L2.St} {H : Hp} {Q : VK} (n : Nat) (l : Addr) (r0 : Int) (Pσ : L2.St → Prop) (h0 : Pσ σ) (hz : n ≤ 1000) (hl : H l = some (.lst [.int r0])) (PF : Dt → Prop)
    (hs : ∀ D (i : Nat) σ' H' r, H D = none → (∃ o, H' D = some o) → But l H H' → H' l = some (.lst [.int r]) → i < n → Pσ σ' → ∀ R : L2.St → V → Hp → Prop,
      (∀ σ2 v d r' H3, Pσ σ2 → But l H' H3 → H3 l = some (.lst [.int r']) → Rep (newH H' H3) v d → PF d → R σ2 v H3) → g (.int (lo + i)) σ' H' fun σ2 H2 => te σ2 H2 fun v H3 => R σ2 v H3)
    (hd : ∀ D H' r xs ds, H D = none → But l H H' → H' l = some (.lst [.int r]) → ds.length = n → (∀ d ∈ ds, PF d) → H' D = some (.lst xs) → Reps (cutH H D H') xs ds → Q (.ref D) H') : CompGo (Itr lo n) g tYes te σ H Q := by
  intro D hD
  have hDl : D ≠ l := (ne_of_none hl hD).symm
  refine ⟨fun i m σ' H' => m = n - i ∧ i ≤ n ∧ Pσ σ' ∧ But l H H' ∧ (∃ r, H' l = some (.lst [.int r])) ∧ ∃ (ys : List V) (ds : List Dt), H' D = some (.lst ys) ∧ Reps (cutH H D H') ys ds ∧ ds.length = i ∧ (∀ d ∈ ds, PF d), ⟨n, by simp, Nat.zero_le _, h0, But.of (Same.new hD), ⟨r0, (Same.new hD) _ _ hl⟩, [], [], upd_same, rfl, rfl, by simp⟩, ?_⟩
  rintro i m σ' H' ⟨rfl, hi, hp, hb, ⟨r, hr⟩, ys, ds, hys, hrep, hpl, hpf⟩
  have hyl : ys.length = i := by rw [hrep.length, hpl]
  by_cases hlt : i < n
  · refine .inr ⟨hlt, fun σ2 H2 => Pσ σ2 ∧ But l H H2 ∧ (∃ r, H2 l = some (.lst [.int r])) ∧ ∃ (ys : List V) (ds : List Dt), H2 D = some (.lst ys) ∧ Reps (cutH H D H2) ys ds ∧ ds.length = i + 1 ∧ (∀ d ∈ ds, PF d), fun σ2 H2 ⟨a, b, c⟩ => ⟨n - (i + 1), by omega, rfl, hlt, a, b, c⟩, fun x H'' hy => ?_⟩
    obtain ⟨e1, e2⟩ := hy
    subst e1 e2
    simp only [tYes, if_true]
    refine hs D i σ' _ r hD ⟨_, hys⟩ hb hr hlt hp _ fun σ2 v d r' H3 hp2 b3 hl3 rep pf => ?_
    refine ⟨ys, b3 _ _ hDl hys, by rw [hyl]; exact small1000 (by omega), hp2, fun b o n h => ?_, ⟨r', by rw [upd_ne hDl.symm]; exact hl3⟩, ys ++ [v], ds ++ [d], upd_same, ?_, by simp [hpl], fun z hz => ?_⟩
    · rw [upd_ne (ne_of_none h hD)]
      exact b3 b o n (hb b o n h)
    · rw [cutH_upd]
      refine (Reps.mono (fun b o h => ?_) _ hrep).append ⟨v, [], rfl, Rep.mono (fun b o h => ?_) _ rep, rfl⟩
      · obtain ⟨z1, z2, z3⟩ := cutH_of h
        rw [cutH_at z1 z2]
        exact b3 b o (ne_of_none hl z2).symm z3
      · obtain ⟨z1, z2⟩ := newH_of h
        have hbl : b ≠ l := (ne_of_none hr z1).symm
        rw [cutH_at (ne_of_none hys z1).symm ?_]
        · exact z2
        · cases e : H b with
          | none => rfl
          | some o' => rw [hb b o' hbl e] at z1; cases z1
    · rcases List.mem_append.mp hz with hz | hz
      · exact hpf z hz
      · cases List.mem_singleton.mp hz
        exact pf
  · have e : i = n := by omega
    subst e
    refine .inl ⟨Nat.le_refl _, hd D H' r ys ds hD hb hr hpl hpf hys hrep⟩
end Rim4

set_option Elab.async false
set_option linter.all false
set_option maxRecDepth 100000
set_option maxHeartbeats 4000000
namespace Rim4
open PySem PySem.Spec PyProof.Rows L2 RimM RimD
local macro_rules | `(tactic| walk_at "rd") => `(tactic| simp only [tSeq, tAsg, gName, tTup, tLst, tCons, tNil, tVar, tC, tCB, tOp, rI, rI0, tTest, tIfS, tNext, tRet, tRetN, tDrop, tB, tAnd, tOr, tNot, tAndV, tOrV, tNotV, rU, tUn, tBM0, tBM, rBits, tCall, L2.start, rIxTH, rIxLH, rLenH, rEqTH, rEq, rNe, scal, tyV, CMul, CMulB, CDivB, CDivF, CPow, List.map_cons, List.map_nil, List.length_cons, List.length_nil, List.replicate, List.cons_append, List.nil_append, List.append_nil, List.set_cons_zero, List.set_cons_succ, List.getElem?_cons_zero, List.getElem?_cons_succ, Option.some.injEq, List.cons.injEq, V.int.injEq, V.bl.injEq, V.str.injEq, V.ref.injEq, V.ty.injEq, HO.tup.injEq, HO.lst.injEq, exists_eq_left, exists_eq_left', exists_and_left, and_assoc, and_true, true_and, upd_same, atI_0, atI_1, atI_2, Nat.zero_add, Nat.reduceAdd, Nat.reduceSub, decide_eq_true_eq, Bool.not_eq_true', decide_eq_false_iff_not, reduceCtorEq, false_or, or_false, true_or, or_true, plainT_int, plainT_bool, plainT_tuple, plainT_list, plainT_str, Bool.false_eq_true, if_false, if_true, Bool.not_false, Bool.not_true, Bool.not_not, gSub, rSetL, ixN_00, upd_upd, rCat, iRng1, tFor_eq, tPar, iList, tComp, pick, tYes, iZip, gTup, gCons, gNil, rSum, rListH, List.map, Option.bind, iRng2, iRngD, tSl, rSlH, tPart, tNoPart, tPar3])
variable {P : Program} {w : World} {K : PySem.W.Frag} {mg : Str → Option Value} {base : Heap}
/-- without the two lists that change -/
def hid (G l : Addr) (H : Hp) : Hp := fun b => if b = G ∨ b = l then none else H b
theorem hid_of {G l b : Addr} {H : Hp} {o : HO} (h : hid G l H b = some o) : b ≠ G ∧ b ≠ l ∧ H b = some o := by
  unfold hid at h
  split at h
  · cases h
  · rename_i z
    exact ⟨fun e => z (.inl e), fun e => z (.inr e), h⟩
theorem hid_at {G l b : Addr} {H : Hp} (h1 : b ≠ G) (h2 : b ≠ l) : hid G l H b = H b := by
  unfold hid
  rw [if_neg (fun z => z.elim h1 h2)]
theorem hid_same {G l : Addr} {H : Hp} : Same (hid G l H) H := fun b o h => (hid_of h).2.2
/-- all but the two as it was -/
def But2 (G l : Addr) (H H' : Hp) : Prop := ∀ b o, b ≠ G → b ≠ l → H b = some o → H' b = some o
theorem But2.refl (G l : Addr) (H : Hp) : But2 G l H H := fun _ _ _ _ h => h
theorem But2.trans {G l : Addr} {H H1 H2 : Hp} (a : But2 G l H H1) (b : But2 G l H1 H2) : But2 G l H H2 := fun c o h1 h2 h => b c o h1 h2 (a c o h1 h2 h)
theorem But2.of {G l : Addr} {H H' : Hp} (s : Same H H') : But2 G l H H' := fun b o _ _ h => s b o h
theorem But2.updl {G l : Addr} {H H' : Hp} {o : HO} (a : But2 G l H H') : But2 G l H (L2.upd H' l o) := fun b z h1 h2 h => by rw [upd_ne h2]; exact a b z h1 h2 h
theorem But2.updG {G l : Addr} {H H' : Hp} {o : HO} (a : But2 G l H H') : But2 G l H (L2.upd H' G o) := fun b z h1 h2 h => by rw [upd_ne h1]; exact a b z h1 h2 h
theorem But2.hid {G l : Addr} {H H' : Hp} (a : But2 G l H H') : Same (hid G l H) (hid G l H') := fun b o h => by
  obtain ⟨h1, h2, h3⟩ := hid_of h
  rw [hid_at h1 h2]
  exact a b o h1 h2 h3
/-- a number by 6 -/
def q6 (x : Int) : Int × Int := nf x 6
def row6 (r : List Int) : List (Int × Int) := r.map q6
theorem q6_low (x : Int) : Low (q6 x) := (nf_low (by decide)).1
theorem q6_bits {x : Int} {n : Nat} (h : x.natAbs ≤ 2 ^ n) : 0 < (q6 x).2 ∧ Builtin.Int.intBits (q6 x).1 ≤ n + 1 ∧ Builtin.Int.intBits (q6 x).2 ≤ 4 := by
  obtain ⟨a, c⟩ := nf_top_le (t := x) (b := 6) (by decide)
  exact ⟨(q6_low x).pos, bits_of_le (Nat.le_trans a h), PyProof.Rows.bits_of_natAbs_le (b := 6) (by exact c) (by decide +kernel)⟩
theorem q6_mul (f y : Int) : nf (f * (q6 y).1) (1 * (q6 y).2) = q6 (f * y) := by
  have := nf_mul (p := (f, 1)) (t := f) (b := 1) (t' := y) (b' := 6) (by show (0 : Int) < 1; decide) (by decide) (by decide) rfl
  rw [show (1 : Int) * 6 = 6 from rfl] at this
  exact this
theorem q6_add (x y : Int) : nf ((q6 x).1 * (q6 y).2 + (q6 y).1 * (q6 x).2) ((q6 x).2 * (q6 y).2) = q6 (x + y) := by
  have := nf_add (t := x) (t' := y) (b := 6) (s := 1) (by decide)
  rw [Int.mul_one, Int.mul_one] at this
  exact this
theorem Reps_set {H : Hp} {v : V} {d : Dt} (hv : Rep H v d) : ∀ (i : Nat) {xs : List V} {ds : List Dt}, Reps H xs ds → Reps H (xs.set i v) (ds.set i d)
  | i, xs, [], h => by rw [show xs = [] from h]; rfl
  | 0, xs, e :: ds, ⟨x, r, q, hx, hr⟩ => by rw [q]; exact ⟨v, r, rfl, hv, hr⟩
  | i + 1, xs, e :: ds, ⟨x, r, q, hx, hr⟩ => by rw [q]; exact ⟨x, _, rfl, hx, Reps_set hv i hr⟩
theorem ixN_nat {n i : Nat} (h : i < n) : ixN n (i : Int) = some i := by
  unfold ixN
  rw [if_pos (by omega), if_pos (by omega)]
  simp
theorem rep6_rows {H : Hp} {xs : List V} {N : List (List Int)} {i : Nat} (h : Reps H xs (N.map fun r => dRow (row6 r))) (hi : i < N.length) : ∃ q ys, xs[i]? = some (.ref q) ∧ H q = some (.lst ys) ∧ Reps H ys ((row6 (N.getD i [])).map dF) := by
  obtain ⟨x, hx, hr⟩ := h.get (i := i) (d := dRow (row6 (N.getD i []))) (by rw [List.getElem?_map, List.getD_eq_getElem?_getD, List.getElem?_eq_getElem hi]; rfl)
  obtain ⟨q, ys, rfl, hq, hys⟩ := hr
  exact ⟨q, ys, hx, hq, hys⟩
/-- what a grid at G is worth -/
structure Gd (G l : Addr) (n B : Nat) (N : List (List Int)) (H : Hp) : Prop where
  at_ : ∃ xs, H G = some (.lst xs) ∧ Reps (hid G l H) xs (N.map fun r => dRow (row6 r))
  len : N.length = n
  rows : ∀ r ∈ N, r.length = n ∧ ∀ x ∈ r, x.natAbs ≤ B
theorem digit_nat {r : Int} {n : Nat} (h : 0 < n) : ∃ k : Nat, r % n = k ∧ k < n := by
  have h0 : (n : Int) ≠ 0 := by omega
  have h1 := Int.emod_nonneg r h0
  have h2 := Int.emod_lt_of_pos r (show (0 : Int) < n by omega)
  exact ⟨(r % n).toNat, by omega, by omega⟩
theorem Gd.keep {G l : Addr} {n B : Nat} {N : List (List Int)} {H H' : Hp} (Gl : G ≠ l) (g : Gd G l n B N H) (s : But l H H') : Gd G l n B N H' := by
  obtain ⟨xs, h1, h2⟩ := g.at_
  exact ⟨⟨xs, s _ _ Gl h1, Reps.mono (But2.hid fun b o _ q h => s b o q h) _ h2⟩, g.len, g.rows⟩
theorem Gd.wide {G l : Addr} {n B B' : Nat} {N : List (List Int)} {H : Hp} (g : Gd G l n B N H) (h : B ≤ B') : Gd G l n B' N H := ⟨g.at_, g.len, fun r hr => ⟨(g.rows r hr).1, fun x hx => Nat.le_trans ((g.rows r hr).2 x hx) h⟩⟩
theorem pow3 {i : Nat} (h : i ≤ 20) : 18 * 3 ^ i ≤ 18 * 3 ^ 20 := Nat.mul_le_mul_left _ (Nat.pow_le_pow_right (by decide) h)
theorem bits_row {x : Int} (h : x.natAbs ≤ 18 * 3 ^ 20) : x.natAbs ≤ 2 ^ 36 := Nat.le_trans h (by decide)
abbrev s__law_mixed : Stmt := PySem.Challenge.pw_rimread_k04_determinants_of_many_rows.main.body.getD 24 (.Pass ⟨0, 0, 0, 0⟩)
theorem sc__law_mixed : FnScope ["_law_grid", "_law_rest", "_law_size", "_law_k", "_law_i", "_law_j", "_law_factor", "_law_sign"] ["_law_grid", "_law_rest"] (defScope s__law_mixed) := ⟨rfl, rfl, rfl, by decide +kernel, rfl, by decide +kernel, by decide +kernel⟩
theorem lk__law_mixed_0 : (defScope s__law_mixed).names.lookup ("_law_grid" : Str) = some PySem.NameKind.local := by decide +kernel
theorem lk__law_mixed_1 : (defScope s__law_mixed).names.lookup ("_law_rest" : Str) = some PySem.NameKind.local := by decide +kernel
theorem lk__law_mixed_2 : (defScope s__law_mixed).names.lookup ("_law_size" : Str) = some PySem.NameKind.local := by decide +kernel
theorem lk__law_mixed_3 : (defScope s__law_mixed).names.lookup ("_law_k" : Str) = some PySem.NameKind.local := by decide +kernel
theorem lk__law_mixed_4 : (defScope s__law_mixed).names.lookup ("_law_i" : Str) = some PySem.NameKind.local := by decide +kernel
theorem lk__law_mixed_5 : (defScope s__law_mixed).names.lookup ("_law_j" : Str) = some PySem.NameKind.local := by decide +kernel
theorem lk__law_mixed_6 : (defScope s__law_mixed).names.lookup ("_law_factor" : Str) = some PySem.NameKind.cell := by decide +kernel
theorem lk__law_mixed_7 : (defScope s__law_mixed).names.lookup ("_law_sign" : Str) = some PySem.NameKind.local := by decide +kernel
theorem gk__law_mixed__law_digit : (defScope s__law_mixed).names.lookup ("_law_digit" : Str) = some PySem.NameKind.globalImplicit := by decide +kernel
theorem gk__law_mixed_len : (defScope s__law_mixed).names.lookup ("len" : Str) = some PySem.NameKind.globalImplicit := by decide +kernel
theorem gk__law_mixed_range : (defScope s__law_mixed).names.lookup ("range" : Str) = some PySem.NameKind.globalImplicit := by decide +kernel
theorem gk__law_mixed_zip : (defScope s__law_mixed).names.lookup ("zip" : Str) = some PySem.NameKind.globalImplicit := by decide +kernel
def sp_mix : Sp := fun vs H Q _ => ∃ (G l : Addr) (r : Int) (N : List (List Int)) (n : Nat), vs = [.ref G, .ref l] ∧ H l = some (.lst [.int r]) ∧ G ≠ l ∧ 1 ≤ n ∧ n ≤ 16 ∧ Gd G l n 18 N H ∧
  ∀ H' (r' s : Int) (N' : List (List Int)), But2 G l H H' → H' l = some (.lst [.int r']) → Gd G l n (18 * 3 ^ 20) N' H' → (s = 1 ∨ s = -1) → D n (ma N') = s * D n (ma N) → Q (.int s) H'
theorem ok__law_mixed (T : Txt K mg) (F : Fn0 K mg "_law_mixed" s__law_mixed) (C__law_digit : Cal P w K mg base "_law_digit" ["_law_rest", "_law_many"] 1 sp_digit) (C__law_mul : Cal P w K mg base "_law_mul" ["_law_one", "_law_other"] 2 (sp_two (fun p q => p.1 * q.1))) (C__law_add : Cal P w K mg base "_law_add" ["_law_one", "_law_other"] 2 (sp_two (fun p q => p.1 * q.2 + q.1 * p.2))) : Cal P w K mg base "_law_mixed" ["_law_grid", "_law_rest"] 3 sp_mix := by
  refine cal_of F sc__law_mixed (fun _ _ _ _ _ _ us hl => match us, hl with | [_, _], _ => rfl) ?len ?body
  case len => rintro vs H Q E ⟨a, b, c, d, e, rfl, _⟩; rfl
  case body =>
    intro f cdv A outer s H vs Q E hr h
    obtain ⟨G, l, r, N, n, rfl, hl, Gl, n1, n16, gd, k⟩ := h
    obtain ⟨xs0, hG0, hR0⟩ := gd.at_
    have xl0 : xs0.length = n := by rw [hR0.length, List.length_map, gd.len]
    have n0 : (0 : Int) < n := by omega
    have nlog : (n : Int).natAbs.log2 < 9000 := Nat.lt_of_le_of_lt (Nat.log2_le_self _) (by omega)
    refine' ⟨_, ?D, ?R⟩
    case D =>
      refine' pss_cons ?g1 ?g2
      case g1 =>
        refine' ps_set1 (i := 2) sc__law_mixed.nd rfl lk__law_mixed_2 ?g3
        case g3 =>
          refine' pe_callE call_lenH gk__law_mixed_len T.n_len bt_len ?g4
          case g4 =>
            refine' pa_c ?g5 ?g6
            case g5 => exact pv1 0 rfl lk__law_mixed_0
            case g6 => exact pa_nil
      case g2 =>
        refine' pss_cons ?g7 ?g8
        case g7 =>
          refine' ps_for PassesOwn.never rfl ?g9 ?g10 ?g11
          case g9 =>
            refine' pi_range1 gk__law_mixed_range T.n_range ?g12
            case g12 =>
              refine' pa_c ?g13 ?g14
              case g13 =>
                refine' pe_callD C__law_digit (hr.mono (by decide)) gk__law_mixed__law_digit ?g15
                case g15 =>
                  refine' pa_c ?g16 ?g17
                  case g16 => exact pv1 1 rfl lk__law_mixed_1
                  case g17 =>
                    refine' pa_c ?g18 ?g19
                    case g18 => exact pe_int
                    case g19 => exact pa_nil
              case g14 => exact pa_nil
          case g10 => exact pg_name1 (i := 3) sc__law_mixed.nd rfl lk__law_mixed_3
          case g11 =>
            refine' pss_cons ?g20 ?g21
            case g20 =>
              refine' ps_set1 (i := 4) sc__law_mixed.nd rfl lk__law_mixed_4 ?g22
              case g22 =>
                refine' pe_callD C__law_digit (hr.mono (by decide)) gk__law_mixed__law_digit ?g23
                case g23 =>
                  refine' pa_c ?g24 ?g25
                  case g24 => exact pv1 1 rfl lk__law_mixed_1
                  case g25 =>
                    refine' pa_c ?g26 ?g27
                    case g26 => exact pv1 2 rfl lk__law_mixed_2
                    case g27 => exact pa_nil
            case g21 =>
              refine' pss_cons ?g28 ?g29
              case g28 =>
                refine' ps_set1 (i := 5) sc__law_mixed.nd rfl lk__law_mixed_5 ?g30
                case g30 =>
                  refine' pe_callD C__law_digit (hr.mono (by decide)) gk__law_mixed__law_digit ?g31
                  case g31 =>
                    refine' pa_c ?g32 ?g33
                    case g32 => exact pv1 1 rfl lk__law_mixed_1
                    case g33 =>
                      refine' pa_c ?g34 ?g35
                      case g34 => exact pv1 2 rfl lk__law_mixed_2
                      case g35 => exact pa_nil
              case g29 =>
                refine' pss_cons ?g36 ?g37
                case g36 =>
                  refine' ps_setc (i := 6) sc__law_mixed.nd rfl lk__law_mixed_6 rfl ?g38 rfl
                  case g38 =>
                    refine' pe_tup ?g39
                    case g39 =>
                      refine' pa_c ?g40 ?g41
                      case g40 =>
                        refine' pe_op op_sub ?g42 ?g43
                        case g42 =>
                          refine' pe_callD C__law_digit (hr.mono (by decide)) gk__law_mixed__law_digit ?g44
                          case g44 =>
                            refine' pa_c ?g45 ?g46
                            case g45 => exact pv1 1 rfl lk__law_mixed_1
                            case g46 =>
                              refine' pa_c ?g47 ?g48
                              case g47 => exact pe_int
                              case g48 => exact pa_nil
                        case g43 => exact pe_int
                      case g41 =>
                        refine' pa_c ?g49 ?g50
                        case g49 => exact pe_int
                        case g50 => exact pa_nil
                case g37 =>
                  refine' pss_one ?g51
                  case g51 =>
                    refine' ps_if ?g52 ?g53 ?g54
                    case g52 =>
                      refine' pt_cmpR op_ne ?g55 ?g56 (nomark _)
                      case g55 => exact pv1 4 rfl lk__law_mixed_4
                      case g56 => exact pv1 5 rfl lk__law_mixed_5
                    case g53 =>
                      refine' pss_one ?g57
                      case g57 =>
                        refine' ps_asg ?g58 (pg_sub ?g59 ?g60 set_list)
                        case g58 =>
                          refine' pe_comp (N' := ["_law_one", "_law_two", "_law_factor"]) (ix := [none, none, some 6]) rfl rfl (scp_of ?g61) ?g62 (fun _ _ _ => ?g63) (fun _ _ _ => ?g64) (fun _ _ _ => ?g65)
                          case g61 => exact (by show scpB (defScope s__law_mixed) ["_law_grid", "_law_rest", "_law_size", "_law_k", "_law_i", "_law_j", "_law_factor", "_law_sign"] _ _ _ = true; decide +kernel)
                          case g62 =>
                            refine' pi_zip (K := K) rfl gk__law_mixed_zip T.n_zip ?g66
                            case g66 =>
                              refine' pa_c ?g67 ?g68
                              case g67 =>
                                refine' pe_ix ix_listH ?g69 ?g70 (fun _ _ => rfl)
                                case g69 => exact pv1 0 rfl lk__law_mixed_0
                                case g70 => exact pv1 4 rfl lk__law_mixed_4
                              case g68 =>
                                refine' pa_c ?g71 ?g72
                                case g71 =>
                                  refine' pe_ix ix_listH ?g73 ?g74 (fun _ _ => rfl)
                                  case g73 => exact pv1 0 rfl lk__law_mixed_0
                                  case g74 => exact pv1 5 rfl lk__law_mixed_5
                                case g72 => exact pa_nil
                          case g63 =>
                            refine' pg_tupK (K := K) (n := 2) rfl rfl ?g75
                            case g75 =>
                              refine' pgs_cons ?g76 ?g77
                              case g76 => exact pg_name1 (i := 0) (by show List.Nodup (["_law_one", "_law_two", "_law_factor"] : List Str); decide +kernel) rfl rfl
                              case g77 =>
                                refine' pgs_cons ?g78 ?g79
                                case g78 => exact pg_name1 (i := 1) (by show List.Nodup (["_law_one", "_law_two", "_law_factor"] : List Str); decide +kernel) rfl rfl
                                case g79 => exact pgs_nil
                          case g64 => exact pf_nil
                          case g65 =>
                            refine' pe_callD C__law_add (hr.mono (by decide)) rfl ?g80
                            case g80 =>
                              refine' pa_c ?g81 ?g82
                              case g81 => exact pv1 0 rfl rfl
                              case g82 =>
                                refine' pa_c ?g83 ?g84
                                case g83 =>
                                  refine' pe_callD C__law_mul (hr.mono (by decide)) rfl ?g85
                                  case g85 =>
                                    refine' pa_c ?g86 ?g87
                                    case g86 => exact pvc 2 rfl rfl
                                    case g87 =>
                                      refine' pa_c ?g88 ?g89
                                      case g88 => exact pv1 1 rfl rfl
                                      case g89 => exact pa_nil
                                case g84 => exact pa_nil
                        case g59 => exact pv1 0 rfl lk__law_mixed_0
                        case g60 => exact pv1 4 rfl lk__law_mixed_4
                    case g54 => exact pss_nil
        case g8 =>
          refine' pss_cons ?g90 ?g91
          case g90 =>
            refine' ps_set1 (i := 7) sc__law_mixed.nd rfl lk__law_mixed_7 ?g92
            case g92 => exact pe_int
          case g91 =>
            refine' pss_cons ?g93 ?g94
            case g93 =>
              refine' ps_for PassesOwn.never rfl ?g95 ?g96 ?g97
              case g95 =>
                refine' pi_range1 gk__law_mixed_range T.n_range ?g98
                case g98 =>
                  refine' pa_c ?g99 ?g100
                  case g99 =>
                    refine' pe_callD C__law_digit (hr.mono (by decide)) gk__law_mixed__law_digit ?g101
                    case g101 =>
                      refine' pa_c ?g102 ?g103
                      case g102 => exact pv1 1 rfl lk__law_mixed_1
                      case g103 =>
                        refine' pa_c ?g104 ?g105
                        case g104 => exact pe_int
                        case g105 => exact pa_nil
                  case g100 => exact pa_nil
              case g96 => exact pg_name1 (i := 3) sc__law_mixed.nd rfl lk__law_mixed_3
              case g97 =>
                refine' pss_cons ?g106 ?g107
                case g106 =>
                  refine' ps_set1 (i := 4) sc__law_mixed.nd rfl lk__law_mixed_4 ?g108
                  case g108 =>
                    refine' pe_callD C__law_digit (hr.mono (by decide)) gk__law_mixed__law_digit ?g109
                    case g109 =>
                      refine' pa_c ?g110 ?g111
                      case g110 => exact pv1 1 rfl lk__law_mixed_1
                      case g111 =>
                        refine' pa_c ?g112 ?g113
                        case g112 => exact pv1 2 rfl lk__law_mixed_2
                        case g113 => exact pa_nil
                case g107 =>
                  refine' pss_cons ?g114 ?g115
                  case g114 =>
                    refine' ps_set1 (i := 5) sc__law_mixed.nd rfl lk__law_mixed_5 ?g116
                    case g116 =>
                      refine' pe_callD C__law_digit (hr.mono (by decide)) gk__law_mixed__law_digit ?g117
                      case g117 =>
                        refine' pa_c ?g118 ?g119
                        case g118 => exact pv1 1 rfl lk__law_mixed_1
                        case g119 =>
                          refine' pa_c ?g120 ?g121
                          case g120 => exact pv1 2 rfl lk__law_mixed_2
                          case g121 => exact pa_nil
                  case g115 =>
                    refine' pss_one ?g122
                    case g122 =>
                      refine' ps_if ?g123 ?g124 ?g125
                      case g123 =>
                        refine' pt_cmpR op_ne ?g126 ?g127 (nomark _)
                        case g126 => exact pv1 4 rfl lk__law_mixed_4
                        case g127 => exact pv1 5 rfl lk__law_mixed_5
                      case g124 =>
                        refine' pss_cons ?g128 ?g129
                        case g128 =>
                          refine' ps_asg ?g130 ?g131
                          case g130 =>
                            refine' pe_tup ?g132
                            case g132 =>
                              refine' pa_c ?g133 ?g134
                              case g133 =>
                                refine' pe_ix ix_listH ?g135 ?g136 (fun _ _ => rfl)
                                case g135 => exact pv1 0 rfl lk__law_mixed_0
                                case g136 => exact pv1 5 rfl lk__law_mixed_5
                              case g134 =>
                                refine' pa_c ?g137 ?g138
                                case g137 =>
                                  refine' pe_ix ix_listH ?g139 ?g140 (fun _ _ => rfl)
                                  case g139 => exact pv1 0 rfl lk__law_mixed_0
                                  case g140 => exact pv1 4 rfl lk__law_mixed_4
                                case g138 => exact pa_nil
                          case g131 =>
                            refine' pg_tupK (K := K) (n := 2) rfl rfl ?g141
                            case g141 =>
                              refine' pgs_cons ?g142 ?g143
                              case g142 =>
                                refine' pg_sub ?g144 ?g145 set_list
                                case g144 => exact pv1 0 rfl lk__law_mixed_0
                                case g145 => exact pv1 4 rfl lk__law_mixed_4
                              case g143 =>
                                refine' pgs_cons ?g146 ?g147
                                case g146 =>
                                  refine' pg_sub ?g148 ?g149 set_list
                                  case g148 => exact pv1 0 rfl lk__law_mixed_0
                                  case g149 => exact pv1 5 rfl lk__law_mixed_5
                                case g147 => exact pgs_nil
                        case g129 =>
                          refine' pss_one ?g150
                          case g150 =>
                            refine' ps_set1 (i := 7) sc__law_mixed.nd rfl lk__law_mixed_7 ?g151
                            case g151 =>
                              refine' pe_un un_neg ?g152
                              case g152 => exact pv1 7 rfl lk__law_mixed_7
                      case g125 => exact pss_nil
            case g94 =>
              refine' pss_one ?g153
              case g153 =>
                refine' ps_ret ?g154
                case g154 => exact pv1 7 rfl lk__law_mixed_7
    case R =>
      walk_at "rd"
      refine ⟨_, .inl hG0, ?_⟩
      try walk_at "rd"
      rw [xl0]
      refine ⟨l, r, 21, rfl, hl, by decide, by decide +kernel, ?_⟩
      walk_at "rd"
      obtain ⟨c1, hc1, cl1⟩ := digit_nat (r := r) (n := 21) (by decide)
      rw [show r % 21 = ((c1 : Nat) : Int) from hc1]
      refine ⟨by omega, by omega, ?_⟩
      rw [show Int.toNat (c1 : Int) = c1 by omega]
      refine go_range (fun i σ H' => ∃ (r' : Int) (N' : List (List Int)) (z3 z4 z5 z6 z7 : Option V), σ = [some (.ref G), some (.ref l), some (.int n), z3, z4, z5, z6, z7] ∧ But2 G l H H' ∧ H' l = some (.lst [.int r']) ∧ Gd G l n (18 * 3 ^ i) N' H' ∧ D n (ma N') = D n (ma N)) ⟨_, N, _, _, _, _, _, rfl, But2.updl (But2.refl G l H), upd_same, Gd.keep Gl (by simpa using gd) (But.upd (But.refl l H)), rfl⟩ ?_ ?_
      · rintro i σ H' hi ⟨r', N', z3, z4, z5, z6, z7, rfl, b1, hl1, g1, e1⟩
        walk_at "rd"
        refine ⟨l, r', n, rfl, hl1, n0, nlog, ?_⟩
        try walk_at "rd"
        refine ⟨l, _, n, rfl, upd_same, n0, nlog, ?_⟩
        try walk_at "rd"
        refine ⟨l, _, 5, rfl, upd_same, by decide, by decide +kernel, ?_⟩
        try walk_at "rd"
        obtain ⟨a, ha, an⟩ := digit_nat (r := r') (n := n) (by omega)
        obtain ⟨b, hb, bn⟩ := digit_nat (r := r' / n) (n := n) (by omega)
        rw [ha, hb]
        refine ⟨by decide, fun p np => ?_⟩
        have pl : p ≠ l := fun z => by rw [z, upd_same] at np; cases np
        have hlm : upd (upd H' l (HO.lst [V.int (r' / n / n / 5)])) p (HO.tup [V.int (r' / n / n % 5 - 2), V.int 1]) l = some (.lst [.int (r' / n / n / 5)]) := by rw [upd_ne (Ne.symm pl), upd_same]
        have hpm := upd_same (H := upd H' l (HO.lst [V.int (r' / n / n / 5)])) (a := p) (o := HO.tup [V.int (r' / n / n % 5 - 2), V.int 1])
        have Bm : But l H' (upd (upd H' l (HO.lst [V.int (r' / n / n / 5)])) p (HO.tup [V.int (r' / n / n % 5 - 2), V.int 1])) := (But.upd (But.refl l H')).trans (But.of (Same.new np))
        have f5 := Int.emod_nonneg (r' / n / n) (show (5 : Int) ≠ 0 by decide)
        have f6 := Int.emod_lt_of_pos (r' / n / n) (show (0 : Int) < 5 by decide)
        generalize upd (upd H' l (HO.lst [V.int (r' / n / n / 5)])) p (HO.tup [V.int (r' / n / n % 5 - 2), V.int 1]) = Hm at *
        obtain ⟨fc, efc⟩ : ∃ fc : Int, r' / n / n % 5 - 2 = fc := ⟨_, rfl⟩
        rw [efc] at hpm
        have fb : fc.natAbs ≤ 2 := by omega
        have gm := Gd.keep Gl g1 Bm
        have B2 : But2 G l H Hm := b1.trans fun b o _ h2 h => Bm b o h2 h
        have le3 : 18 * 3 ^ i ≤ 18 * 3 ^ (i + 1) := Nat.mul_le_mul_left _ (Nat.pow_le_pow_right (by decide) (by omega))
        refine ite2 (fun hab => ?_) (fun _ => ⟨B2, _, hlm, N', gm.wide le3, e1⟩)
        have hab' : a ≠ b := fun z => hab (by rw [z])
        obtain ⟨xs, hG, hR⟩ := gm.at_
        obtain ⟨qa, ya, xa, hqa, rya⟩ := rep6_rows hR (i := a) (by rw [gm.len]; exact an)
        obtain ⟨qb, yb, xb, hqb, ryb⟩ := rep6_rows hR (i := b) (by rw [gm.len]; exact bn)
        have row : ∀ c, c < n → (N'.getD c []).length = n ∧ ∀ x ∈ N'.getD c [], x.natAbs ≤ 2 ^ 36 := fun c hc => by
          have hm : N'.getD c [] ∈ N' := by
            rw [List.getD_eq_getElem?_getD, List.getElem?_eq_getElem (by rw [gm.len]; exact hc)]
            exact List.getElem_mem _
          exact ⟨(gm.rows _ hm).1, fun x hx => bits_row (Nat.le_trans ((gm.rows _ hm).2 x hx) (pow3 (by omega)))⟩
        obtain ⟨la, wa⟩ := row a an
        obtain ⟨lb, wb⟩ := row b bn
        have hqa' := (hid_of hqa).2.2
        have hqb' := (hid_of hqb).2.2
        have lya : ya.length = n := by rw [rya.length, List.length_map, row6, List.length_map, la]
        have lyb : yb.length = n := by rw [ryb.length, List.length_map, row6, List.length_map, lb]
        refine ⟨xs, hG, .ref qa, atI_nn (by omega) (show xs[((a : Nat) : Int).toNat]? = some (.ref qa) by rw [show ((a : Nat) : Int).toNat = a by omega]; exact xa), xs, hG, .ref qb, atI_nn (by omega) (show xs[((b : Nat) : Int).toNat]? = some (.ref qb) by rw [show ((b : Nat) : Int).toNat = b by omega]; exact xb), qa, rfl, qb, rfl, ⟨_, .inl (.inl hqa')⟩, ⟨_, .inl (.inl hqb')⟩, ?_⟩
        refine comp_any (n := n) (B := Hm) (Pσ := fun σ => ∃ e1 e2, σ = [e1, e2, some (.ref p)]) (ds := (row6 (List.zipWith (fun x y => x + fc * y) (N'.getD a []) (N'.getD b []))).map dF) (Same.refl _) ⟨_, _, rfl⟩ (by rw [List.length_map, row6, List.length_map, List.length_zipWith, la, lb, Nat.min_self]) (by omega)
          (fun j H2 hj s2 => ⟨ya, yb, ya[j]'(by omega), yb[j]'(by omega), .inl (.inl (s2 _ _ hqa')), .inl (.inl (s2 _ _ hqb')), by simp [show j < ya.length by omega], by simp [show j < yb.length by omega]⟩) (fun H2 s2 => ⟨ya, yb, .inl (.inl (s2 _ _ hqa')), .inl (.inl (s2 _ _ hqb')), .inl (by omega)⟩) ?_ ?_
        · rintro D j x d σ' H2 H2' hD hDo s2 hj hdj ⟨t, x, y, rfl, hT, rfl, hx, hy⟩ ⟨e1, e2, rfl⟩ R kR
          have hx' := hx _ (.inl (.inl (s2 _ _ hqa')))
          have hy' := hy _ (.inl (.inl (s2 _ _ hqb')))
          obtain ⟨qx, px, hpx, rfl, hqx⟩ := rep_at (r := row6 (N'.getD a [])) rya hx'
          obtain ⟨qy, py, hpy, rfl, hqy⟩ := rep_at (r := row6 (N'.getD b [])) ryb hy'
          rw [row6, List.getElem?_map] at hpx hpy
          have e1' : (N'.getD a [])[j]? = some ((N'.getD a [])[j]'(by omega)) := List.getElem?_eq_getElem _
          have e2' : (N'.getD b [])[j]? = some ((N'.getD b [])[j]'(by omega)) := List.getElem?_eq_getElem _
          rw [e1'] at hpx
          rw [e2'] at hpy
          have bx := wa _ (List.getElem_mem (show j < (N'.getD a []).length by omega))
          have bY := wb _ (List.getElem_mem (show j < (N'.getD b []).length by omega))
          have hd2 : d = dF (q6 ((N'.getD a [])[j]'(by omega) + fc * (N'.getD b [])[j]'(by omega))) := by
            rw [List.getElem?_map, row6, List.getElem?_map, List.getElem?_zipWith, e1', e2'] at hdj
            exact (Option.some.inj hdj).symm
          generalize (N'.getD a [])[j]'(by omega) = u at *
          generalize (N'.getD b [])[j]'(by omega) = v at *
          obtain rfl : q6 u = px := Option.some.inj hpx
          obtain rfl : q6 v = py := Option.some.inj hpy
          have S3 : Same H2 (upd H2 t (HO.tup [.ref qx, .ref qy])) := Same.new hT
          obtain ⟨u0, u1, u2⟩ := q6_bits bx
          obtain ⟨v0, v1, v2⟩ := q6_bits bY
          have fbits : Builtin.Int.intBits fc ≤ 2 := PyProof.Rows.bits_of_natAbs_le (b := 2) (by omega) (by decide +kernel)
          have one1 : Builtin.Int.intBits 1 ≤ 1 := by decide +kernel
          have fvb : (fc * v).natAbs ≤ 2 ^ 37 := by
            rw [Int.natAbs_mul]
            exact Nat.le_trans (Nat.mul_le_mul fb bY) (by decide)
          obtain ⟨w0, w1, w2⟩ := q6_bits fvb
          walk_at "rd"
          refine ⟨_, .inl (.inl upd_same), rfl, _, _, rfl, _, _, rfl, rfl, ?_⟩
          try walk_at "rd"
          refine ⟨.ref p, .ref qy, (fc, 1), q6 v, rfl, ⟨p, _, rfl, S3 _ _ (s2 _ _ hpm), _, _, rfl, rfl, _, _, rfl, rfl, rfl⟩, ⟨qy, _, rfl, S3 _ _ (s2 _ _ (hid_of hqy).2.2), _, _, rfl, rfl, _, _, rfl, rfl, rfl⟩, by show (0 : Int) < 1; decide, v0, by show Builtin.Int.intBits fc ≤ _; omega, by show Builtin.Int.intBits 1 ≤ _; omega, by omega, by omega, fun z H3 s3 rep3 => ?_⟩
          have q3 : nf ((fc, (1 : Int)).1 * (q6 v).1) ((fc, (1 : Int)).2 * (q6 v).2) = q6 (fc * v) := q6_mul fc v
          rw [q3] at rep3
          refine ⟨.ref qx, .ref z, q6 u, q6 (fc * v), rfl, ⟨qx, _, rfl, s3 _ _ (S3 _ _ (s2 _ _ (hid_of hqx).2.2)), _, _, rfl, rfl, _, _, rfl, rfl, rfl⟩, Rep.mono newH_same _ rep3, u0, w0, by omega, by omega, by omega, by omega, fun z2 H4 s4 rep4 => ?_⟩
          rw [q6_add] at rep4
          refine kR _ _ _ ⟨_, _, rfl⟩ ((S3.trans s3).trans s4) ?_
          rw [hd2]
          refine Rep.mono (fun b o h => ?_) _ rep4
          obtain ⟨z1, z2⟩ := newH_of h
          obtain ⟨oD, hDo⟩ := hDo
          have bD : b ≠ D := (ne_of_none (s3 _ _ (S3 _ _ hDo)) z1).symm
          rw [cutH_at bD (s2.free (S3.free (s3.free z1)))]
          exact z2
        · intro D H2 hD s2 rep
          have DG : D ≠ G := (ne_of_none hG hD).symm
          have Dl : D ≠ l := (ne_of_none hlm hD).symm
          have lenx : xs.length = n := by rw [hR.length, List.length_map, gm.len]
          have hG2 := s2 _ _ hG
          refine ⟨xs, hG2, a, by rw [lenx]; exact ixN_nat an, But2.updG (B2.trans (But2.of s2)), _, by rw [upd_ne (Ne.symm Gl)]; exact s2 _ _ hlm, mixR N' a b fc, ⟨⟨_, upd_same, ?_⟩, ?_, ?_⟩, ?_⟩
          · have same : Same (hid G l Hm) (hid G l (upd H2 G (HO.lst (xs.set a (V.ref D))))) := fun b o h => by
              obtain ⟨h1, h2, h3⟩ := hid_of h
              rw [hid_at h1 h2, upd_ne h1]
              exact s2 _ _ h3
            have new : Same (newH Hm H2) (hid G l (upd H2 G (HO.lst (xs.set a (V.ref D))))) := fun b o h => by
              obtain ⟨h1, h2⟩ := newH_of h
              have bG : b ≠ G := (ne_of_none hG h1).symm
              rw [hid_at bG (ne_of_none hlm h1).symm, upd_ne bG]
              exact h2
            unfold mixR
            rw [List.map_set]
            exact Reps_set (Rep.mono new _ rep) a (Reps.mono same _ hR)
          · unfold mixR
            rw [List.length_set]
            exact gm.len
          · intro r hr
            have := mix_rows gm.len gm.rows an bn fb r hr
            refine ⟨this.1, fun x hx => Nat.le_trans (this.2 x hx) ?_⟩
            rw [Nat.pow_succ]
            omega
          · rw [D_mix gm.len (fun r hr => (gm.rows r hr).1) an bn hab', e1]
      · rintro σ H' ⟨r', N', z3, z4, z5, z6, z7, rfl, b1, hl1, g1, e1⟩
        walk_at "rd"
        refine ⟨l, r', 7, rfl, hl1, by decide, by decide +kernel, ?_⟩
        walk_at "rd"
        obtain ⟨c2, hc2, cl2⟩ := digit_nat (r := r') (n := 7) (by decide)
        rw [show r' % 7 = ((c2 : Nat) : Int) from hc2]
        refine ⟨by omega, by omega, ?_⟩
        rw [show Int.toNat (c2 : Int) = c2 by omega]
        refine go_range (fun i σ H2 => ∃ (r2 s2 : Int) (N2 : List (List Int)) (z3 z4 z5 z6 : Option V), σ = [some (.ref G), some (.ref l), some (.int n), z3, z4, z5, z6, some (.int s2)] ∧ But2 G l H H2 ∧ H2 l = some (.lst [.int r2]) ∧ Gd G l n (18 * 3 ^ 20) N2 H2 ∧ (s2 = 1 ∨ s2 = -1) ∧ D n (ma N2) = s2 * D n (ma N)) ⟨_, 1, N', _, _, _, _, rfl, But2.updl b1, upd_same, (Gd.keep Gl g1 (But.upd (But.refl l H'))).wide (pow3 (by omega)), .inl rfl, by rw [Int.one_mul]; exact e1⟩ ?_ ?_
        · rintro i σ H2 hi ⟨r2, s2, N2, z3, z4, z5, z6, rfl, b2, hl2, g2, hs2, e2⟩
          walk_at "rd"
          refine ⟨l, r2, n, rfl, hl2, n0, nlog, ?_⟩
          try walk_at "rd"
          refine ⟨l, _, n, rfl, upd_same, n0, nlog, ?_⟩
          try walk_at "rd"
          obtain ⟨a, ha, an⟩ := digit_nat (r := r2) (n := n) (by omega)
          obtain ⟨b, hb, bn⟩ := digit_nat (r := r2 / n) (n := n) (by omega)
          rw [ha, hb]
          have gm := Gd.keep Gl g2 (But.upd (But.refl l H2) (o := HO.lst [V.int (r2 / n / n)]))
          have hlm := upd_same (H := H2) (a := l) (o := HO.lst [V.int (r2 / n / n)])
          have B2 : But2 G l H (upd H2 l (HO.lst [V.int (r2 / n / n)])) := But2.updl b2
          generalize upd H2 l (HO.lst [V.int (r2 / n / n)]) = Hm at *
          refine ite2 (fun hab => ?_) (fun _ => ⟨B2, N2, gm, hs2, e2⟩)
          have hab' : a ≠ b := fun z => hab (by rw [z])
          obtain ⟨xs, hG, hR⟩ := gm.at_
          have lenx : xs.length = n := by rw [hR.length, List.length_map, gm.len]
          obtain ⟨qa, ya, xa, hqa, rya⟩ := rep6_rows hR (i := a) (by rw [gm.len]; exact an)
          obtain ⟨qb, yb, xb, hqb, ryb⟩ := rep6_rows hR (i := b) (by rw [gm.len]; exact bn)
          refine ⟨xs, hG, .ref qb, atI_nn (by omega) (show xs[((b : Nat) : Int).toNat]? = some (.ref qb) by rw [show ((b : Nat) : Int).toNat = b by omega]; exact xb), xs, hG, .ref qa, atI_nn (by omega) (show xs[((a : Nat) : Int).toNat]? = some (.ref qa) by rw [show ((a : Nat) : Int).toNat = a by omega]; exact xa), by decide, fun p np => ?_⟩
          have S3 : Same Hm (upd Hm p (HO.tup [.ref qb, .ref qa])) := Same.new np
          refine ⟨[.ref qb, .ref qa], .inl (.inl upd_same), rfl, _, _, rfl, xs, S3 _ _ hG, a, by rw [lenx]; exact ixN_nat an, _, _, rfl, b, by rw [List.length_set, lenx]; exact ixN_nat bn, rfl, But2.updG (B2.trans (But2.of S3)), _, by rw [upd_ne (Ne.symm Gl)]; exact S3 _ _ hlm, swapR N2 a b, ⟨⟨_, upd_same, ?_⟩, ?_, ?_⟩, ?_, ?_⟩
          · have same : Same (hid G l Hm) (hid G l (upd (upd Hm p (HO.tup [.ref qb, .ref qa])) G (HO.lst ((xs.set a (V.ref qb)).set b (V.ref qa))))) := fun c o h => by
              obtain ⟨h1, h2, h3⟩ := hid_of h
              rw [hid_at h1 h2, upd_ne h1]
              exact S3 _ _ h3
            unfold swapR
            rw [List.map_set, List.map_set]
            exact Reps_set (Rep.mono same (dRow (row6 (N2.getD a []))) ⟨qa, ya, rfl, hqa, rya⟩) b (Reps_set (Rep.mono same (dRow (row6 (N2.getD b []))) ⟨qb, yb, rfl, hqb, ryb⟩) a (Reps.mono same _ hR))
          · unfold swapR
            rw [List.length_set, List.length_set]
            exact gm.len
          · exact swap_rows gm.len gm.rows an bn
          · omega
          · rw [D_swapR gm.len an bn hab', e2, Int.neg_mul]
        · rintro σ H2 ⟨r2, s2, N2, z3, z4, z5, z6, rfl, b2, hl2, g2, hs2, e2⟩
          walk_at "rd"
          exact k _ _ _ _ b2 hl2 g2 hs2 e2
end Rim4

set_option Elab.async false
set_option linter.all false
set_option maxRecDepth 100000
set_option maxHeartbeats 4000000
namespace Rim4
open PySem PySem.Spec PyProof.Rows L2 RimM RimD
local macro_rules | `(tactic| walk_at "rd") => `(tactic| simp only [tSeq, tAsg, gName, tTup, tLst, tCons, tNil, tVar, tC, tCB, tOp, rI, rI0, tTest, tIfS, tNext, tRet, tRetN, tDrop, tB, tAnd, tOr, tNot, tAndV, tOrV, tNotV, rU, tUn, tBM0, tBM, rBits, tCall, L2.start, rIxTH, rIxLH, rLenH, rEqTH, rEq, rNe, scal, tyV, CMul, CMulB, CDivB, CDivF, CPow, List.map_cons, List.map_nil, List.length_cons, List.length_nil, List.replicate, List.cons_append, List.nil_append, List.append_nil, List.set_cons_zero, List.set_cons_succ, List.getElem?_cons_zero, List.getElem?_cons_succ, Option.some.injEq, List.cons.injEq, V.int.injEq, V.bl.injEq, V.str.injEq, V.ref.injEq, V.ty.injEq, HO.tup.injEq, HO.lst.injEq, exists_eq_left, exists_eq_left', exists_and_left, and_assoc, and_true, true_and, upd_same, atI_0, atI_1, atI_2, Nat.zero_add, Nat.reduceAdd, Nat.reduceSub, decide_eq_true_eq, Bool.not_eq_true', decide_eq_false_iff_not, reduceCtorEq, false_or, or_false, true_or, or_true, plainT_int, plainT_bool, plainT_tuple, plainT_list, plainT_str, Bool.false_eq_true, if_false, if_true, Bool.not_false, Bool.not_true, Bool.not_not, gSub, rSetL, ixN_00, upd_upd, rCat, iRng1, tFor_eq, tPar, iList, tComp, pick, tYes, iZip, gTup, gCons, gNil, rSum, rListH, List.map, Option.bind, iRng2, iRngD, tSl, rSlH, tPart, tNoPart, tPar3])
variable {P : Program} {w : World} {K : PySem.W.Frag} {mg : Str → Option Value} {base : Heap}
theorem pr_congr : ∀ {n : Nat} {f g : Nat → Int}, (∀ k, k < n → f k = g k) → pr n f = pr n g
  | 0, _, _, _ => rfl
  | n + 1, f, g, h => by
    show pr n f * f n = pr n g * g n
    rw [pr_congr fun k hk => h k (by omega), h n (by omega)]
/-- rows with nothing beneath the diagonal -/
structure Tri (n : Nat) (N : List (List Int)) : Prop where
  wid : ∀ r ∈ N, r.length = n ∧ ∀ x ∈ r, x.natAbs ≤ 18
  nil : ∀ k j, k < N.length → j < k → ma N k j = 0
theorem getD_snoc {N : List (List Int)} {row : List Int} (k : Nat) : (N ++ [row]).getD k [] = if k = N.length then row else N.getD k [] := by
  rw [List.getD_eq_getElem?_getD]
  by_cases h : k < N.length
  · rw [List.getElem?_append_left h, if_neg (by omega), ← List.getD_eq_getElem?_getD]
  · rw [List.getElem?_append_right (by omega)]
    by_cases e : k = N.length
    · subst e; simp
    · rw [if_neg e, List.getElem?_eq_none (by simp; omega), List.getD_eq_getElem?_getD, List.getElem?_eq_none (by omega)]
theorem Tri.snoc {n : Nat} {N : List (List Int)} {row : List Int} (t : Tri n N) (h1 : row.length = n) (h2 : ∀ x ∈ row, x.natAbs ≤ 18) (h3 : ∀ j, j < N.length → gi row j = 0) : Tri n (N ++ [row]) := by
  refine ⟨fun r hr => ?_, fun k j hk hj => ?_⟩
  · rcases List.mem_append.mp hr with hr | hr
    · exact t.wid r hr
    · rw [List.mem_singleton.mp hr]; exact ⟨h1, h2⟩
  · unfold ma
    rw [getD_snoc]
    by_cases e : k = N.length
    · rw [if_pos e]; exact h3 j (by omega)
    · rw [if_neg e]; exact t.nil k j (by simp at hk; omega) hj
def dia (N : List (List Int)) (k : Nat) : Int := ma N k k
theorem dia_snoc {N : List (List Int)} {row : List Int} : pr (N.length + 1) (dia (N ++ [row])) = pr N.length (dia N) * gi row N.length := by
  show pr N.length (dia (N ++ [row])) * dia (N ++ [row]) N.length = _
  have e : dia (N ++ [row]) N.length = gi row N.length := by
    unfold dia ma
    rw [getD_snoc, if_pos rfl]
  rw [e, pr_congr fun k hk => ?_]
  unfold dia ma
  rw [getD_snoc, if_neg (by omega)]
theorem q6_of {t b x : Int} (hb : b ≠ 0) (h : t * 6 = x * b) : nf t b = q6 x := nf_eq hb (by decide) h
theorem drawn6 {d e : Int} (h0 : 0 ≤ d) (h1 : d < 7) (g0 : 0 ≤ e) (g1 : e < 3) : ∃ x : Int, nf (d - 3) (1 + e) = q6 x ∧ x.natAbs ≤ 18 := by
  have : e = 0 ∨ e = 1 ∨ e = 2 := by omega
  rcases this with rfl | rfl | rfl
  · exact ⟨(d - 3) * 6, q6_of (by decide) (by omega), by omega⟩
  · exact ⟨(d - 3) * 3, q6_of (by decide) (by omega), by omega⟩
  · exact ⟨(d - 3) * 2, q6_of (by decide) (by omega), by omega⟩
theorem one6 {e : Int} (g0 : 0 ≤ e) (g1 : e < 3) : ∃ x : Int, ((1 : Int), 1 + e) = q6 x ∧ x.natAbs ≤ 18 := by
  have : e = 0 ∨ e = 1 ∨ e = 2 := by omega
  rcases this with rfl | rfl | rfl
  · exact ⟨6, by decide, by decide⟩
  · exact ⟨3, by decide, by decide⟩
  · exact ⟨2, by decide, by decide⟩
theorem q6_0 : q6 0 = (0, 1) := by decide
theorem gi_app {r : List Int} {x : Int} (j : Nat) (h : j < r.length) : gi (r ++ [x]) j = gi r j := by
  unfold gi
  rw [List.getD_eq_getElem?_getD, List.getElem?_append_left h, ← List.getD_eq_getElem?_getD]
theorem gi_set {r : List Int} {x : Int} (i j : Nat) (h : i ≠ j) : gi (r.set i x) j = gi r j := by
  unfold gi
  rw [List.getD_eq_getElem?_getD, List.getElem?_set_ne h, ← List.getD_eq_getElem?_getD]
theorem deq_fr (p q : Int × Int) : deq (dF p) (dF q) = some (decide (p = q)) := by
  obtain ⟨a, b⟩ := p
  obtain ⟨c, d⟩ := q
  have : decide ((a, b) = (c, d)) = (a == c && (b == d && true)) := by
    rw [Bool.eq_iff_iff]
    simp
  rw [this]
  rfl
theorem dep_dF (p : Int × Int) : dep (dF p) ≤ 1 := by simp [dF, dep, deps]
theorem rep_of {H : Hp} {z : Addr} {p : Int × Int} (h : H z = some (.tup [.int p.1, .int p.2])) : Rep H (.ref z) (dF p) := ⟨z, _, rfl, h, _, _, rfl, rfl, _, _, rfl, rfl, rfl⟩
mutual
theorem deq_refl : ∀ d : Dt, deq d d = some true
  | .non => rfl
  | .bl a => by simp [deq]
  | .int a => by simp [deq]
  | .str a => by simp [deq]
  | .tup xs => deqs_refl xs
  | .lst xs => by rw [deq, if_pos rfl]; exact deqs_refl xs
theorem deqs_refl : ∀ ds : List Dt, deqs ds ds = some true
  | [] => rfl
  | d :: ds => by rw [deqs, deq_refl d, deqs_refl ds]; rfl
end
/-- a row that is being made at R, the grid at G, the rest at l; all else in S -/
structure Row (S H : Hp) (l G R dv : Addr) (r : Int) (xs ys : List V) (N : List (List Int)) (row : List Int) (due : Int × Int) : Prop where
  sm : Same S H
  sl : S l = none
  sG : S G = none
  sR : S R = none
  hl : H l = some (.lst [.int r])
  hG : H G = some (.lst xs)
  hR : H R = some (.lst ys)
  rx : Reps S xs (N.map fun r => dRow (row6 r))
  ry : Reps S ys ((row6 row).map dF)
  du : S dv = some (.tup [.int due.1, .int due.2])
theorem Row.ne {S H : Hp} {l G R dv : Addr} {r : Int} {xs ys : List V} {N : List (List Int)} {row : List Int} {due : Int × Int} (h : Row S H l G R dv r xs ys N row due) (c1 : l ≠ G) (c2 : l ≠ R) (c3 : G ≠ R) (r' : Int) : Row S (upd H l (.lst [.int r'])) l G R dv r' xs ys N row due :=
  ⟨same_put h.sm h.sl, h.sl, h.sG, h.sR, upd_same, by rw [upd_ne c1.symm]; exact h.hG, by rw [upd_ne c2.symm]; exact h.hR, h.rx, h.ry, h.du⟩
theorem Row.call {S H H' : Hp} {l G R dv : Addr} {r : Int} {xs ys : List V} {N : List (List Int)} {row : List Int} {due : Int × Int} (h : Row S H l G R dv r xs ys N row due) (s : Same H H') : Row (grow S H H') H' l G R dv r xs ys N row due :=
  ⟨grow_in h.sm s, by rw [grow_old h.hl]; exact h.sl, by rw [grow_old h.hG]; exact h.sG, by rw [grow_old h.hR]; exact h.sR, s _ _ h.hl, s _ _ h.hG, s _ _ h.hR, Reps.mono (grow_same h.sm) _ h.rx, Reps.mono (grow_same h.sm) _ h.ry, grow_same h.sm _ _ h.du⟩
theorem Row.put {S H : Hp} {l G R dv : Addr} {r : Int} {xs ys ys' : List V} {N : List (List Int)} {row row' : List Int} {due : Int × Int} (h : Row S H l G R dv r xs ys N row due) (c2 : l ≠ R) (c3 : G ≠ R) (hy : Reps S ys' ((row6 row').map dF)) : Row S (upd H R (.lst ys')) l G R dv r xs ys' N row' due :=
  ⟨same_put h.sm h.sR, h.sl, h.sG, h.sR, by rw [upd_ne c2]; exact h.hl, by rw [upd_ne c3]; exact h.hG, upd_same, h.rx, hy, h.du⟩
theorem rep6_at {H : Hp} {xs : List V} {N : List (List Int)} {i : Nat} {x : V} (h : Reps H xs (N.map fun r => dRow (row6 r))) (e : xs[i]? = some x) : ∃ q ys r, N[i]? = some r ∧ x = .ref q ∧ H q = some (.lst ys) ∧ Reps H ys ((row6 r).map dF) := by
  obtain ⟨d, hd, hr⟩ := h.of_get e
  rw [List.getElem?_map] at hd
  cases z : N[i]? with
  | none => rw [z] at hd; cases hd
  | some r =>
    rw [z] at hd
    cases hd
    obtain ⟨q, ys, e1, e2, e3⟩ := hr
    exact ⟨q, ys, r, rfl, e1, e2, e3⟩
def bts (g : List (List (Int × Int))) (i : Nat) : Int := lcmB (g.getD i [])
theorem bots_pr (g : List (List (Int × Int))) : botsP g = pr g.length (bts g) := by
  have z : ∀ n, n ≤ g.length → botsP (g.take n) = pr n (bts g) := fun n => by
    induction n with
    | zero => intro _; rfl
    | succ n ih =>
      intro h
      have e : g[n]? = some (g[n]) := List.getElem?_eq_getElem (by omega)
      rw [List.take_succ, e]
      show botsP (g.take n ++ [g[n]]) = pr n (bts g) * bts g n
      rw [bots_snoc, ih (by omega)]
      unfold bts
      rw [List.getD_eq_getElem?_getD, e]
      rfl
  have := z g.length (Nat.le_refl _)
  rwa [List.take_length] at this
/-- a row of sixths is small -/
theorem sm_row6 {r : List Int} (h : ∀ x ∈ r, x.natAbs ≤ 18 * 3 ^ 20) : ∀ p ∈ row6 r, Sm p := fun p hp => by
  obtain ⟨x, hx, rfl⟩ := List.mem_map.mp hp
  obtain ⟨u0, u1, u2⟩ := q6_bits (bits_row (h x hx))
  exact ⟨u0, by omega, u2⟩
theorem det6 {n : Nat} {N : List (List Int)} (hn : N.length = n) (hr : ∀ r ∈ N, r.length = n ∧ ∀ x ∈ r, x.natAbs ≤ 18 * 3 ^ 20) : nf (D (N.map row6).length (ma (nums (N.map row6)))) (botsP (N.map row6)) = nf (D n (ma N)) (6 ^ n) := by
  have gl : (N.map row6).length = n := by rw [List.length_map, hn]
  rw [bots_pr, gl]
  have at_ : ∀ i, i < n → ∃ r, r ∈ N ∧ N.getD i [] = r ∧ (N.map row6).getD i [] = row6 r ∧ (nums (N.map row6)).getD i [] = tops (row6 r) (lcmB (row6 r)) := fun i hi => by
    have e : N[i]? = some N[i] := List.getElem?_eq_getElem (by omega)
    refine ⟨N[i], List.getElem_mem _, by rw [List.getD_eq_getElem?_getD, e]; rfl, by rw [List.getD_eq_getElem?_getD, List.getElem?_map, e]; rfl, ?_⟩
    unfold nums
    rw [List.getD_eq_getElem?_getD, List.getElem?_map, List.getElem?_map, e]
    rfl
  refine D_over (L := bts (N.map row6)) (fun i hi => ?_) (by decide) fun i j hi hj => ?_
  · obtain ⟨r, hm, _, e2, _⟩ := at_ i hi
    unfold bts
    rw [e2]
    have := (bot_lcm (sm_row6 (hr r hm).2)).pos
    omega
  · obtain ⟨r, hm, e1, e2, e3⟩ := at_ i hi
    have bot := bot_lcm (sm_row6 (hr r hm).2)
    have rj : r[j]? = some (r[j]'(by have := (hr r hm).1; omega)) := List.getElem?_eq_getElem _
    generalize r[j]'(by have := (hr r hm).1; omega) = x at rj
    have a1 : ma N i j = x := by
      unfold ma gi
      rw [e1, List.getD_eq_getElem?_getD, rj]
      rfl
    have a2 : ma (nums (N.map row6)) i j = (q6 x).1 * (lcmB (row6 r) / (q6 x).2) := by
      unfold ma gi
      rw [e3, tops, List.getD_eq_getElem?_getD, List.getElem?_map, row6, List.getElem?_map, rj]
      rfl
    have a3 : bts (N.map row6) i = lcmB (row6 r) := by unfold bts; rw [e2]
    have dv := bot.dvd (q6 x) (List.mem_map.mpr ⟨x, List.mem_of_getElem? rj, rfl⟩)
    have e6 := (nf_low (t := x) (b := 6) (by decide)).2
    rw [a1, a2, a3]
    calc 6 * ((q6 x).1 * (lcmB (row6 r) / (q6 x).2)) = ((q6 x).1 * 6) * (lcmB (row6 r) / (q6 x).2) := by ac_rfl
      _ = (x * (q6 x).2) * (lcmB (row6 r) / (q6 x).2) := by rw [show (q6 x).1 * 6 = x * (q6 x).2 from e6.symm]
      _ = x * (lcmB (row6 r) / (q6 x).2 * (q6 x).2) := by ac_rfl
      _ = lcmB (row6 r) * x := by rw [Int.ediv_mul_cancel dv, Int.mul_comm]
theorem turn_rows {n B : Nat} {N : List (List Int)} (hn : N.length = n) (hr : ∀ r ∈ N, r.length = n ∧ ∀ x ∈ r, x.natAbs ≤ B) : ∀ r ∈ turnR n N, r.length = n ∧ ∀ x ∈ r, x.natAbs ≤ B := fun r h => by
  obtain ⟨j, hj, rfl⟩ := List.mem_map.mp h
  refine ⟨by rw [List.length_map, hn], fun x hx => ?_⟩
  obtain ⟨q, hq, rfl⟩ := List.mem_map.mp hx
  unfold gi
  rw [List.getD_eq_getElem?_getD]
  cases e : q[j]? with
  | none => simp
  | some y => exact (hr q hq).2 y (List.mem_of_getElem? e)
abbrev s_law : Stmt := PySem.Challenge.pw_rimread_k04_determinants_of_many_rows.main.body.getD 25 (.Pass ⟨0, 0, 0, 0⟩)
theorem sc_law : FnScope ["_law_script", "_law_rest", "_law_size", "_law_due", "_law_grid", "_law_i", "_law_row", "_law_j", "_law_sign", "_law_turned"] ["_law_script"] (defScope s_law) := ⟨rfl, rfl, rfl, by decide +kernel, rfl, by decide +kernel, by decide +kernel⟩
theorem lk_law_0 : (defScope s_law).names.lookup ("_law_script" : Str) = some PySem.NameKind.local := by decide +kernel
theorem lk_law_1 : (defScope s_law).names.lookup ("_law_rest" : Str) = some PySem.NameKind.local := by decide +kernel
theorem lk_law_2 : (defScope s_law).names.lookup ("_law_size" : Str) = some PySem.NameKind.local := by decide +kernel
theorem lk_law_3 : (defScope s_law).names.lookup ("_law_due" : Str) = some PySem.NameKind.local := by decide +kernel
theorem lk_law_4 : (defScope s_law).names.lookup ("_law_grid" : Str) = some PySem.NameKind.cell := by decide +kernel
theorem lk_law_5 : (defScope s_law).names.lookup ("_law_i" : Str) = some PySem.NameKind.local := by decide +kernel
theorem lk_law_6 : (defScope s_law).names.lookup ("_law_row" : Str) = some PySem.NameKind.local := by decide +kernel
theorem lk_law_7 : (defScope s_law).names.lookup ("_law_j" : Str) = some PySem.NameKind.local := by decide +kernel
theorem lk_law_8 : (defScope s_law).names.lookup ("_law_sign" : Str) = some PySem.NameKind.local := by decide +kernel
theorem lk_law_9 : (defScope s_law).names.lookup ("_law_turned" : Str) = some PySem.NameKind.local := by decide +kernel
theorem gk_law__law_big : (defScope s_law).names.lookup ("_law_big" : Str) = some PySem.NameKind.globalImplicit := by decide +kernel
theorem gk_law__law_digit : (defScope s_law).names.lookup ("_law_digit" : Str) = some PySem.NameKind.globalImplicit := by decide +kernel
theorem gk_law__law_low : (defScope s_law).names.lookup ("_law_low" : Str) = some PySem.NameKind.globalImplicit := by decide +kernel
theorem gk_law__law_mixed : (defScope s_law).names.lookup ("_law_mixed" : Str) = some PySem.NameKind.globalImplicit := by decide +kernel
theorem gk_law__law_mul : (defScope s_law).names.lookup ("_law_mul" : Str) = some PySem.NameKind.globalImplicit := by decide +kernel
theorem gk_law_determinant : (defScope s_law).names.lookup ("determinant" : Str) = some PySem.NameKind.globalImplicit := by decide +kernel
theorem gk_law_range : (defScope s_law).names.lookup ("range" : Str) = some PySem.NameKind.globalImplicit := by decide +kernel
def sp_law (K : PySem.W.Frag) : Sp := fun vs H Q _ => ∃ (a : Addr) (ns : List Int), vs = [.ref a] ∧ SqL K H a (ns.map V.int) ∧ ∀ H', Q (.bl true) H'
theorem ok_law {f : Addr} {fd : FuncData} (T : Txt K mg) (F : Fun K "law" "law" s_law f fd) (C__law_big : Cal P w K mg base "_law_big" ["_law_script", "_law_at"] 2 (sp_big K)) (C__law_digit : Cal P w K mg base "_law_digit" ["_law_rest", "_law_many"] 1 sp_digit) (C__law_low : Cal P w K mg base "_law_low" ["_law_top", "_law_bottom"] 1 sp_low)
    (C__law_mul : Cal P w K mg base "_law_mul" ["_law_one", "_law_other"] 2 (sp_two (fun p q => p.1 * q.1))) (C__law_mixed : Cal P w K mg base "_law_mixed" ["_law_grid", "_law_rest"] 3 sp_mix) (C_determinant : Cal P w K mg base "determinant" ["grid"] 4 sp_det) : FnOk P w K mg base CX0 5 f fd ["_law_script"] (sp_law K) := by
  refine F.ok sc_law ?len ?body
  case len => rintro vs H Q E ⟨a, b, rfl, _⟩; rfl
  case body =>
    intro cdv A outer s H vs Q E hr h
    obtain ⟨a, ns, rfl, hS, k⟩ := h
    refine' ⟨_, ?D, ?R⟩
    case D =>
      refine' pss_cons ?g1 ?g2
      case g1 =>
        refine' ps_set1 (i := 1) sc_law.nd rfl lk_law_1 ?g3
        case g3 =>
          refine' pe_lst ?g4
          case g4 =>
            refine' pa_c ?g5 ?g6
            case g5 =>
              refine' pe_callD C__law_big (hr.mono (by decide)) gk_law__law_big ?g7
              case g7 =>
                refine' pa_c ?g8 ?g9
                case g8 => exact pv1 0 rfl lk_law_0
                case g9 =>
                  refine' pa_c ?g10 ?g11
                  case g10 => exact pe_int
                  case g11 => exact pa_nil
            case g6 => exact pa_nil
      case g2 =>
        refine' pss_cons ?g12 ?g13
        case g12 =>
          refine' ps_set1 (i := 2) sc_law.nd rfl lk_law_2 ?g14
          case g14 =>
            refine' pe_op op_add ?g15 ?g16
            case g15 => exact pe_int
            case g16 =>
              refine' pe_callD C__law_digit (hr.mono (by decide)) gk_law__law_digit ?g17
              case g17 =>
                refine' pa_c ?g18 ?g19
                case g18 => exact pv1 1 rfl lk_law_1
                case g19 =>
                  refine' pa_c ?g20 ?g21
                  case g20 => exact pe_int
                  case g21 => exact pa_nil
        case g13 =>
          refine' pss_cons ?g22 ?g23
          case g22 =>
            refine' ps_set1 (i := 3) sc_law.nd rfl lk_law_3 ?g24
            case g24 =>
              refine' pe_tup ?g25
              case g25 =>
                refine' pa_c ?g26 ?g27
                case g26 => exact pe_int
                case g27 =>
                  refine' pa_c ?g28 ?g29
                  case g28 => exact pe_int
                  case g29 => exact pa_nil
          case g23 =>
            refine' pss_cons ?g30 ?g31
            case g30 =>
              refine' ps_setc (i := 4) sc_law.nd rfl lk_law_4 rfl ?g32 rfl
              case g32 =>
                refine' pe_lst ?g33
                case g33 => exact pa_nil
            case g31 =>
              refine' pss_cons ?g34 ?g35
              case g34 =>
                refine' ps_for PassesOwn.never rfl ?g36 ?g37 ?g38
                case g36 =>
                  refine' pi_range1 gk_law_range T.n_range ?g39
                  case g39 =>
                    refine' pa_c ?g40 ?g41
                    case g40 => exact pv1 2 rfl lk_law_2
                    case g41 => exact pa_nil
                case g37 => exact pg_name1 (i := 5) sc_law.nd rfl lk_law_5
                case g38 =>
                  refine' pss_cons ?g42 ?g43
                  case g42 =>
                    refine' ps_comp (i := 6) (N' := ["_law_j"]) (ix := [none]) rfl rfl sc_law.nd rfl lk_law_6 rfl (scp_of ?g44) ?g45 (fun _ _ _ => ?g46) (fun _ _ _ => ?g47) (fun _ _ _ => ?g48)
                    case g44 => exact (by show scpB (defScope s_law) ["_law_script", "_law_rest", "_law_size", "_law_due", "_law_grid", "_law_i", "_law_row", "_law_j", "_law_sign", "_law_turned"] _ _ _ = true; decide +kernel)
                    case g45 =>
                      refine' pi_range1 gk_law_range T.n_range ?g49
                      case g49 =>
                        refine' pa_c ?g50 ?g51
                        case g50 => exact pv1 5 rfl lk_law_5
                        case g51 => exact pa_nil
                    case g46 => exact pg_name1 (i := 0) (by show List.Nodup (["_law_j"] : List Str); decide +kernel) rfl rfl
                    case g47 => exact pf_nil
                    case g48 =>
                      refine' pe_tup ?g52
                      case g52 =>
                        refine' pa_c ?g53 ?g54
                        case g53 => exact pe_int
                        case g54 =>
                          refine' pa_c ?g55 ?g56
                          case g55 => exact pe_int
                          case g56 => exact pa_nil
                  case g43 =>
                    refine' pss_cons ?g57 ?g58
                    case g57 =>
                      refine' ps_for PassesOwn.never rfl ?g59 ?g60 ?g61
                      case g59 =>
                        refine' pi_range2 gk_law_range T.n_range ?g62
                        case g62 =>
                          refine' pa_c ?g63 ?g64
                          case g63 => exact pv1 5 rfl lk_law_5
                          case g64 =>
                            refine' pa_c ?g65 ?g66
                            case g65 => exact pv1 2 rfl lk_law_2
                            case g66 => exact pa_nil
                      case g60 => exact pg_name1 (i := 7) sc_law.nd rfl lk_law_7
                      case g61 =>
                        refine' pss_one ?g67
                        case g67 =>
                          refine' ps_expr1 ?g68
                          case g68 =>
                            refine' pe_bm PySem.F.plainAttrs_list PySem.F.slot_list_append PySem.F.type_list_append mt_append ?g69 ?g70
                            case g69 => exact pv1 6 rfl lk_law_6
                            case g70 =>
                              refine' pa_c ?g71 ?g72
                              case g71 =>
                                refine' pe_callD C__law_low (hr.mono (by decide)) gk_law__law_low ?g73
                                case g73 =>
                                  refine' pa_c ?g74 ?g75
                                  case g74 =>
                                    refine' pe_op op_sub ?g76 ?g77
                                    case g76 =>
                                      refine' pe_callD C__law_digit (hr.mono (by decide)) gk_law__law_digit ?g78
                                      case g78 =>
                                        refine' pa_c ?g79 ?g80
                                        case g79 => exact pv1 1 rfl lk_law_1
                                        case g80 =>
                                          refine' pa_c ?g81 ?g82
                                          case g81 => exact pe_int
                                          case g82 => exact pa_nil
                                    case g77 => exact pe_int
                                  case g75 =>
                                    refine' pa_c ?g83 ?g84
                                    case g83 =>
                                      refine' pe_op op_add ?g85 ?g86
                                      case g85 => exact pe_int
                                      case g86 =>
                                        refine' pe_callD C__law_digit (hr.mono (by decide)) gk_law__law_digit ?g87
                                        case g87 =>
                                          refine' pa_c ?g88 ?g89
                                          case g88 => exact pv1 1 rfl lk_law_1
                                          case g89 =>
                                            refine' pa_c ?g90 ?g91
                                            case g90 => exact pe_int
                                            case g91 => exact pa_nil
                                    case g84 => exact pa_nil
                              case g72 => exact pa_nil
                    case g58 =>
                      refine' pss_cons ?g92 ?g93
                      case g92 =>
                        refine' ps_cut ?g94
                        case g94 =>
                          refine' ps_if ?g95 ?g96 ?g97
                          case g95 =>
                            refine' pt_cmpR (op_eqD (hr.units)) ?g98 ?g99 (nomark _)
                            case g98 =>
                              refine' pe_ix ix_listH ?g100 ?g101 (fun _ _ => rfl)
                              case g100 => exact pv1 6 rfl lk_law_6
                              case g101 => exact pv1 5 rfl lk_law_5
                            case g99 =>
                              refine' pe_tup ?g102
                              case g102 =>
                                refine' pa_c ?g103 ?g104
                                case g103 => exact pe_int
                                case g104 =>
                                  refine' pa_c ?g105 ?g106
                                  case g105 => exact pe_int
                                  case g106 => exact pa_nil
                          case g96 =>
                            refine' pss_one ?g107
                            case g107 =>
                              refine' ps_asg ?g108 (pg_sub ?g109 ?g110 set_list)
                              case g108 =>
                                refine' pe_tup ?g111
                                case g111 =>
                                  refine' pa_c ?g112 ?g113
                                  case g112 => exact pe_int
                                  case g113 =>
                                    refine' pa_c ?g114 ?g115
                                    case g114 =>
                                      refine' pe_op op_add ?g116 ?g117
                                      case g116 => exact pe_int
                                      case g117 =>
                                        refine' pe_callD C__law_digit (hr.mono (by decide)) gk_law__law_digit ?g118
                                        case g118 =>
                                          refine' pa_c ?g119 ?g120
                                          case g119 => exact pv1 1 rfl lk_law_1
                                          case g120 =>
                                            refine' pa_c ?g121 ?g122
                                            case g121 => exact pe_int
                                            case g122 => exact pa_nil
                                    case g115 => exact pa_nil
                              case g109 => exact pv1 6 rfl lk_law_6
                              case g110 => exact pv1 5 rfl lk_law_5
                          case g97 => exact pss_nil
                      case g93 =>
                        refine' pss_cons ?g123 ?g124
                        case g123 =>
                          refine' ps_cut ?g125
                          case g125 =>
                            refine' ps_if ?g126 ?g127 ?g128
                            case g126 =>
                              refine' pt_cmpR op_eq ?g129 ?g130 (nomark _)
                              case g129 => exact pv1 5 rfl lk_law_5
                              case g130 =>
                                refine' pe_callD C__law_digit (hr.mono (by decide)) gk_law__law_digit ?g131
                                case g131 =>
                                  refine' pa_c ?g132 ?g133
                                  case g132 => exact pv1 1 rfl lk_law_1
                                  case g133 =>
                                    refine' pa_c ?g134 ?g135
                                    case g134 => exact pe_int
                                    case g135 => exact pa_nil
                            case g127 =>
                              refine' pss_one ?g136
                              case g136 =>
                                refine' ps_asg ?g137 (pg_sub ?g138 ?g139 set_list)
                                case g137 =>
                                  refine' pe_tup ?g140
                                  case g140 =>
                                    refine' pa_c ?g141 ?g142
                                    case g141 => exact pe_int
                                    case g142 =>
                                      refine' pa_c ?g143 ?g144
                                      case g143 => exact pe_int
                                      case g144 => exact pa_nil
                                case g138 => exact pv1 6 rfl lk_law_6
                                case g139 => exact pv1 5 rfl lk_law_5
                            case g128 => exact pss_nil
                        case g124 =>
                          refine' pss_cons ?g145 ?g146
                          case g145 =>
                            refine' ps_set1 (i := 3) sc_law.nd rfl lk_law_3 ?g147
                            case g147 =>
                              refine' pe_callD C__law_mul (hr.mono (by decide)) gk_law__law_mul ?g148
                              case g148 =>
                                refine' pa_c ?g149 ?g150
                                case g149 => exact pv1 3 rfl lk_law_3
                                case g150 =>
                                  refine' pa_c ?g151 ?g152
                                  case g151 =>
                                    refine' pe_ix ix_listH ?g153 ?g154 (fun _ _ => rfl)
                                    case g153 => exact pv1 6 rfl lk_law_6
                                    case g154 => exact pv1 5 rfl lk_law_5
                                  case g152 => exact pa_nil
                          case g146 =>
                            refine' pss_one ?g155
                            case g155 =>
                              refine' ps_expr1 ?g156
                              case g156 =>
                                refine' pe_bm PySem.F.plainAttrs_list PySem.F.slot_list_append PySem.F.type_list_append mt_append ?g157 ?g158
                                case g157 => exact pvc 4 rfl lk_law_4
                                case g158 =>
                                  refine' pa_c ?g159 ?g160
                                  case g159 => exact pv1 6 rfl lk_law_6
                                  case g160 => exact pa_nil
              case g35 =>
                refine' pss_cons ?g161 ?g162
                case g161 =>
                  refine' ps_set1 (i := 8) sc_law.nd rfl lk_law_8 ?g163
                  case g163 =>
                    refine' pe_callD C__law_mixed (hr.mono (by decide)) gk_law__law_mixed ?g164
                    case g164 =>
                      refine' pa_c ?g165 ?g166
                      case g165 => exact pvc 4 rfl lk_law_4
                      case g166 =>
                        refine' pa_c ?g167 ?g168
                        case g167 => exact pv1 1 rfl lk_law_1
                        case g168 => exact pa_nil
                case g162 =>
                  refine' pss_cons ?g169 ?g170
                  case g169 =>
                    refine' ps_set1 (i := 3) sc_law.nd rfl lk_law_3 ?g171
                    case g171 =>
                      refine' pe_tup ?g172
                      case g172 =>
                        refine' pa_c ?g173 ?g174
                        case g173 =>
                          refine' pe_op op_mulB ?g175 ?g176
                          case g175 =>
                            refine' pe_ix ix_tupH ?g177 ?g178 (fun _ _ => rfl)
                            case g177 => exact pv1 3 rfl lk_law_3
                            case g178 => exact pe_int
                          case g176 => exact pv1 8 rfl lk_law_8
                        case g174 =>
                          refine' pa_c ?g179 ?g180
                          case g179 =>
                            refine' pe_ix ix_tupH ?g181 ?g182 (fun _ _ => rfl)
                            case g181 => exact pv1 3 rfl lk_law_3
                            case g182 => exact pe_int
                          case g180 => exact pa_nil
                  case g170 =>
                    refine' pss_cons ?g183 ?g184
                    case g183 =>
                      refine' ps_comp (i := 9) (N' := ["_law_j", "_law_grid"]) (ix := [none, some 4]) rfl rfl sc_law.nd rfl lk_law_9 rfl (scp_of ?g185) ?g186 (fun _ _ _ => ?g187) (fun _ _ _ => ?g188) (fun _ _ _ => ?g189)
                      case g185 => exact (by show scpB (defScope s_law) ["_law_script", "_law_rest", "_law_size", "_law_due", "_law_grid", "_law_i", "_law_row", "_law_j", "_law_sign", "_law_turned"] _ _ _ = true; decide +kernel)
                      case g186 =>
                        refine' pi_range1 gk_law_range T.n_range ?g190
                        case g190 =>
                          refine' pa_c ?g191 ?g192
                          case g191 => exact pv1 2 rfl lk_law_2
                          case g192 => exact pa_nil
                      case g187 => exact pg_namec (i := 0) (by show List.Nodup (["_law_j", "_law_grid"] : List Str); decide +kernel) rfl rfl rfl
                      case g188 => exact pf_nil
                      case g189 =>
                        refine' pe_comp (N' := ["_law_row", "_law_j"]) (ix := [none, some 0]) rfl rfl (scp_of ?g193) ?g194 (fun _ _ _ => ?g195) (fun _ _ _ => ?g196) (fun _ _ _ => ?g197)
                        case g193 => exact (by show scpB (relS _ (defScope s_law)) ["_law_j", "_law_grid"] _ _ _ = true; decide +kernel)
                        case g194 =>
                          refine' pi_listK (K := K) rfl ?g198
                          case g198 => exact pvc 1 rfl rfl
                        case g195 => exact pg_name1 (i := 0) (by show List.Nodup (["_law_row", "_law_j"] : List Str); decide +kernel) rfl rfl
                        case g196 => exact pf_nil
                        case g197 =>
                          refine' pe_ix ix_listH ?g199 ?g200 (fun _ _ => rfl)
                          case g199 => exact pv1 0 rfl rfl
                          case g200 => exact pvc 1 rfl rfl
                    case g184 =>
                      refine' pss_one ?g201
                      case g201 =>
                        refine' ps_ret ?g202
                        case g202 =>
                          refine' pe_and ?g203 ?g204
                          case g203 =>
                            refine' pe_cmpR (op_eqD (hr.units)) ?g205 ?g206 (nomark _)
                            case g205 =>
                              refine' pe_callD C_determinant (hr.mono (by decide)) gk_law_determinant ?g207
                              case g207 =>
                                refine' pa_c ?g208 ?g209
                                case g208 =>
                                  refine' pe_comp (N' := ["_law_row"]) (ix := [none]) rfl rfl (scp_of ?g210) ?g211 (fun _ _ _ => ?g212) (fun _ _ _ => ?g213) (fun _ _ _ => ?g214)
                                  case g210 => exact (by show scpB (defScope s_law) ["_law_script", "_law_rest", "_law_size", "_law_due", "_law_grid", "_law_i", "_law_row", "_law_j", "_law_sign", "_law_turned"] _ _ _ = true; decide +kernel)
                                  case g211 =>
                                    refine' pi_listK (K := K) rfl ?g215
                                    case g215 => exact pvc 4 rfl lk_law_4
                                  case g212 => exact pg_name1 (i := 0) (by show List.Nodup (["_law_row"] : List Str); decide +kernel) rfl rfl
                                  case g213 => exact pf_nil
                                  case g214 =>
                                    refine' pe_callT call_listH rfl T.n_list bt_list ?g216
                                    case g216 =>
                                      refine' pa_c ?g217 ?g218
                                      case g217 => exact pv1 0 rfl rfl
                                      case g218 => exact pa_nil
                                case g209 => exact pa_nil
                            case g206 => exact pv1 3 rfl lk_law_3
                          case g204 =>
                            refine' pe_one ?g219
                            case g219 =>
                              refine' pe_cmpR (op_eqD (hr.units)) ?g220 ?g221 (nomark _)
                              case g220 =>
                                refine' pe_callD C_determinant (hr.mono (by decide)) gk_law_determinant ?g222
                                case g222 =>
                                  refine' pa_c ?g223 ?g224
                                  case g223 => exact pv1 9 rfl lk_law_9
                                  case g224 => exact pa_nil
                              case g221 => exact pv1 3 rfl lk_law_3
    case R =>
      walk_at "rd"
      refine ⟨a, ns, rfl, hS, fun z H1 s1 => ?_⟩
      walk_at "rd"
      refine ⟨by decide, fun l nl => ?_⟩
      try walk_at "rd"
      refine ⟨l, z, 16, rfl, upd_same, by decide, by decide +kernel, ?_⟩
      try walk_at "rd"
      obtain ⟨n0, hn0, nn⟩ := digit_nat (r := z) (n := 16) (by decide)
      rw [show z % 16 = ((n0 : Nat) : Int) from hn0]
      obtain ⟨n, hn⟩ : ∃ n : Nat, 1 + (n0 : Int) = (n : Int) := ⟨n0 + 1, by omega⟩
      rw [hn]
      refine ⟨by decide, fun d0 nd0 => ⟨by decide, fun G nG => ⟨by omega, by omega, ?_⟩⟩⟩
      rw [show Int.toNat (n : Int) = n by omega]
      have lG : l ≠ G := fun z => by rw [← z, upd_ne (fun z => by rw [← z, upd_same] at nd0; cases nd0), upd_same] at nG; cases nG
      have dl : d0 ≠ l := fun z => by rw [z, upd_same] at nd0; cases nd0
      have dG : d0 ≠ G := fun z => by rw [← z, upd_same] at nG; cases nG
      refine go_range (fun i σ H' => ∃ (S : Hp) (r : Int) (N : List (List Int)) (xs : List V) (dv : Addr) (e5 e6 e7 : Option V), σ = [some (.ref a), some (.ref l), some (.int n), some (.ref dv), some (.ref G), e5, e6, e7, none, none] ∧ Same S H' ∧ S l = none ∧ S G = none ∧ H' l = some (.lst [.int r]) ∧ H' G = some (.lst xs) ∧ Reps S xs (N.map fun r => dRow (row6 r)) ∧ N.length = i ∧ Tri n N ∧ S dv = some (.tup [.int (nf (pr i (dia N)) (6 ^ i)).1, .int (nf (pr i (dia N)) (6 ^ i)).2]))
        ⟨onlyH d0 (.tup [.int 1, .int 1]), z / 16, [], [], d0, _, _, _, rfl, ?_, ?_, ?_, ?_, upd_same, rfl, rfl, ⟨fun r h => (nomatch h), fun k j h => (nomatch h)⟩, ?_⟩ ?_ ?_
      · exact only_same (by rw [upd_ne dG, upd_same])
      · unfold onlyH; rw [if_neg dl.symm]
      · unfold onlyH; rw [if_neg dG.symm]
      · rw [upd_ne lG, upd_ne dl.symm, upd_same]
      · unfold onlyH; rw [if_pos rfl]; rfl
      · rintro i σ H' hi ⟨S, r, N, xs, dv, e5, e6, e7, rfl, sm, sl, sG, hl, hG, rx, Nl, tri, hdv⟩
        have xl : xs.length = i := by rw [rx.length, List.length_map, Nl]
        walk_at "rd"
        refine ⟨by omega, by omega, ?_⟩
        rw [show Int.toNat (0 + (i : Int)) = i by omega]
        refine comp_anyD (n := i) (B := H') (Pσ := fun σ => ∃ e, σ = [e]) (ds := (row6 (List.replicate i 0)).map dF) (Same.refl _) ⟨_, rfl⟩ (by simp [row6]) (by omega) (fun j H2 hj s2 => hj) (fun H2 s2 => Nat.le_refl _) ?_ ?_
        · rintro D j x d σ' H2 H2' hD ⟨oD, hDo⟩ s2 hj hdj ⟨rfl, rfl⟩ ⟨e, rfl⟩ R kR
          walk_at "rd"
          refine ⟨by decide, fun t nt => kR _ _ _ ⟨_, rfl⟩ (Same.new nt) ?_⟩
          have hd2 : d = dF (q6 0) := by
            rw [List.getElem?_map, row6, List.getElem?_map, List.getElem?_replicate, if_pos hj] at hdj
            exact (Option.some.inj hdj).symm
          rw [hd2, q6_0]
          refine rep_of ?_
          rw [cutH_at (ne_of_none hDo nt).symm (s2.free nt), upd_same]
        · intro R H2 ys nR s2 hR ry
          have lR : l ≠ R := ne_of_none hl nR
          have GR : G ≠ R := ne_of_none hG nR
          have row0 : Row (growX S H' H2 R) H2 l G R dv r xs ys N (List.replicate i 0) (nf (pr i (dia N)) (6 ^ i)) := ⟨growX_in sm s2, by rw [growX_old hl nR]; exact sl, by rw [growX_old hG nR]; exact sG, growX_D, s2 _ _ hl, s2 _ _ hG, hR, Reps.mono (growX_same sm nR) _ rx, Reps.mono growX_cut _ ry, growX_same sm nR _ _ hdv⟩
          clear hdv rx sm sl sG hl hG hR ry
          try walk_at "rd"
          refine ⟨by omega, by omega, by omega, by omega, ?_⟩
          rw [show Int.toNat ((n : Int) - (0 + (i : Int))) = n - i by omega]
          refine go_range (fun j σ H3 => ∃ (S : Hp) (r : Int) (ys : List V) (row : List Int) (e7 : Option V), σ = [some (.ref a), some (.ref l), some (.int n), some (.ref dv), some (.ref G), some (.int (0 + i)), some (.ref R), e7, none, none] ∧ Row S H3 l G R dv r xs ys N row (nf (pr i (dia N)) (6 ^ i)) ∧ row.length = i + j ∧ (∀ x ∈ row, x.natAbs ≤ 18) ∧ ∀ t, t < i → gi row t = 0) ⟨_, _, _, _, _, rfl, row0, by simp, fun x hx => by rw [(List.mem_replicate.mp hx).2]; decide, fun t ht => by unfold gi; simp [List.getD_eq_getElem?_getD, ht]⟩ ?_ ?_
          · rintro j σ H3 hj ⟨S, r, ys, row, e7, rfl, R0, rowl, rowb, rowz⟩
            have yl : ys.length = i + j := by rw [R0.ry.length, List.length_map, row6, List.length_map, rowl]
            walk_at "rd"
            refine ⟨.inl ⟨_, .inl (.inl R0.hR)⟩, ?_⟩
            refine ⟨l, r, 7, rfl, R0.hl, by decide, by decide +kernel, _, rfl, ?_⟩
            have R1 := R0.ne lG lR GR (r / 7)
            refine ⟨l, r / 7, 3, rfl, R1.hl, by decide, by decide +kernel, _, rfl, ?_⟩
            have R2 := R1.ne lG lR GR (r / 7 / 3)
            have a0 := Int.emod_nonneg r (show (7 : Int) ≠ 0 by decide)
            have a1 := Int.emod_lt_of_pos r (show (0 : Int) < 7 by decide)
            have b0 := Int.emod_nonneg (r / 7) (show (3 : Int) ≠ 0 by decide)
            have b1 := Int.emod_lt_of_pos (r / 7) (show (0 : Int) < 3 by decide)
            obtain ⟨x, ex, bx⟩ := drawn6 a0 a1 b0 b1
            refine ⟨_, _, rfl, by omega, Nat.le_trans (PyProof.Rows.bits_of_natAbs_le (b := 3) (n := 2) (by omega) (by decide +kernel)) (by decide), fun p H4 s4 rep => ?_⟩
            rw [ex] at rep
            have R3 := R2.call s4
            refine ⟨R, ys, .ref p, rfl, rfl, R3.hR, small1000 (by omega), ?_⟩
            refine ⟨_, _, _, row ++ [x], R3.put lR GR (ys' := ys ++ [.ref p]) ?_, by simp; omega, fun y hy => ?_, fun t ht => ?_⟩
            · rw [row6, List.map_append, List.map_append]
              exact R3.ry.append ⟨_, _, rfl, Rep.mono grow_new _ rep, rfl⟩
            · rcases List.mem_append.mp hy with h | h
              · exact rowb y h
              · rw [List.mem_singleton.mp h]; exact bx
            · rw [gi_app t (by omega)]
              exact rowz t ht
          · rintro σ H3 ⟨S, r, ys, row, e7, rfl, R0, rowl, rowb, rowz⟩
            have rown : row.length = n := by omega
            walk_at "rd"
            refine ⟨fun σ H4 => ∃ (S : Hp) (r : Int) (ys : List V) (row : List Int) (e7 : Option V), σ = [some (.ref a), some (.ref l), some (.int n), some (.ref dv), some (.ref G), some (.int (0 + i)), some (.ref R), e7, none, none] ∧ Row S H4 l G R dv r xs ys N row (nf (pr i (dia N)) (6 ^ i)) ∧ row.length = n ∧ (∀ x ∈ row, x.natAbs ≤ 18) ∧ ∀ t, t < i → gi row t = 0, ?_, ?_⟩
            · have yl : ys.length = n := by rw [R0.ry.length, List.length_map, row6, List.length_map, rown]
              obtain ⟨qi, pi, hpi, exi, hqi⟩ := rep_at (r := row6 row) R0.ry (i := i) (x := ys[i]'(by omega)) (by simp [show i < ys.length by omega])
              walk_at "rd"
              refine ⟨ys, R0.hR, .ref qi, atI_nn (by omega) (show ys[((0 : Int) + (i : Nat)).toNat]? = some (.ref qi) by rw [show ((0 : Int) + (i : Nat)).toNat = i by omega, ← exi]; simp [show i < ys.length by omega]), by decide, fun p np => ?_⟩
              have S1 : Same H3 (upd H3 p (HO.tup [.int 0, .int 1])) := Same.new np
              have R1 := R0.call S1
              refine ⟨qi, p, dF pi, dF (0, 1), _, rfl, rfl, rep_of (S1 _ _ (R0.sm _ _ hqi)), rep_of upd_same, deq_fr _ _, by have := dep_dF pi; omega, _, rfl, ?_⟩
              by_cases hz : pi = (0, 1)
              · rw [decide_eq_true hz, if_pos rfl]
                have b0 := Int.emod_nonneg r (show (3 : Int) ≠ 0 by decide)
                have b1 := Int.emod_lt_of_pos r (show (0 : Int) < 3 by decide)
                obtain ⟨x, ex, bx⟩ := one6 b0 b1
                refine ⟨l, r, 3, rfl, R1.hl, by decide, by decide +kernel, _, rfl, by decide, fun p2 np2 => ?_⟩
                have R2 := R1.ne lG lR GR (r / 3)
                have R3 := R2.call (Same.new np2 (o := HO.tup [.int 1, .int (1 + r % 3)]))
                refine ⟨ys, R3.hR, i, by rw [yl, Int.zero_add]; exact ixN_nat hi, _, _, _, row.set i x, R3.put lR GR (ys' := ys.set i (.ref p2)) ?_, by simp [rown], fun y hy => ?_, fun t ht => ?_⟩
                · rw [row6, List.map_set, List.map_set, ← ex]
                  refine Reps_set (rep_of ?_) i R3.ry
                  rw [grow_at np2, upd_same]
                · rcases List.mem_or_eq_of_mem_set hy with h | h
                  · exact rowb y h
                  · rw [h]; exact bx
                · rw [gi_set i t (by omega)]
                  exact rowz t ht
              · rw [decide_eq_false hz, if_neg (by decide)]
                exact ⟨_, _, _, row, R1, rown, rowb, rowz⟩
            · rintro σ H4 ⟨S, r, ys, row, e7, rfl, R0, rown, rowb, rowz⟩
              walk_at "rd"
              refine ⟨fun σ H4 => ∃ (S : Hp) (r : Int) (ys : List V) (row : List Int) (e7 : Option V), σ = [some (.ref a), some (.ref l), some (.int n), some (.ref dv), some (.ref G), some (.int (0 + i)), some (.ref R), e7, none, none] ∧ Row S H4 l G R dv r xs ys N row (nf (pr i (dia N)) (6 ^ i)) ∧ row.length = n ∧ (∀ x ∈ row, x.natAbs ≤ 18) ∧ ∀ t, t < i → gi row t = 0, ?_, ?_⟩
              · have yl : ys.length = n := by rw [R0.ry.length, List.length_map, row6, List.length_map, rown]
                walk_at "rd"
                refine ⟨l, r, 64, rfl, R0.hl, by decide, by decide +kernel, ?_⟩
                have R1 := R0.ne lG lR GR (r / 64)
                try walk_at "rd"
                refine ite2 (fun _ => ⟨by decide, fun p np => ?_⟩) (fun _ => ⟨_, _, _, row, R1, rown, rowb, rowz⟩)
                have R3 := R1.call (Same.new np (o := HO.tup [.int 0, .int 1]))
                refine ⟨ys, R3.hR, i, by rw [yl, Int.zero_add]; exact ixN_nat hi, _, _, _, row.set i 0, R3.put lR GR (ys' := ys.set i (.ref p)) ?_, by simp [rown], fun y hy => ?_, fun t ht => ?_⟩
                · rw [row6, List.map_set, List.map_set, q6_0]
                  refine Reps_set (rep_of ?_) i R3.ry
                  rw [grow_at np, upd_same]
                · rcases List.mem_or_eq_of_mem_set hy with h | h
                  · exact rowb y h
                  · rw [h]; decide
                · rw [gi_set i t (by omega)]
                  exact rowz t ht
              · rintro σ H5 ⟨S, r, ys, row, e7, rfl, R0, rown, rowb, rowz⟩
                have yl : ys.length = n := by rw [R0.ry.length, List.length_map, row6, List.length_map, rown]
                obtain ⟨qi, pi, hpi, exi, hqi⟩ := rep_at (r := row6 row) R0.ry (i := i) (x := ys[i]'(by omega)) (by simp [show i < ys.length by omega])
                have hri : row[i]? = some (row[i]'(by omega)) := List.getElem?_eq_getElem _
                have gri : gi row i = row[i]'(by omega) := by unfold gi; rw [List.getD_eq_getElem?_getD, hri]; rfl
                have epi : pi = q6 (gi row i) := by
                  rw [row6, List.getElem?_map, hri] at hpi
                  rw [gri]
                  exact (Option.some.inj hpi).symm
                subst epi
                have xb : (gi row i).natAbs ≤ 2 ^ 5 := by rw [gri]; exact Nat.le_trans (rowb _ (List.getElem_mem _)) (by decide)
                obtain ⟨u0, u1, u2⟩ := q6_bits xb
                have p6 : (6 : Int) ^ i ≠ 0 := Int.pow_ne_zero (by decide)
                have dlow := nf_low (t := pr i (dia N)) p6
                have dle := nf_abs_le (t := pr i (dia N)) p6
                have prb : (pr i (dia N)).natAbs ≤ 2 ^ (5 * i) := pr_le fun c hc => by
                  unfold dia ma
                  refine gi_le (fun x hx => ?_) c
                  have hm : N.getD c [] ∈ N := by
                    rw [List.getD_eq_getElem?_getD, List.getElem?_eq_getElem (by omega)]
                    exact List.getElem_mem _
                  exact Nat.le_trans ((tri.wid _ hm).2 x hx) (by decide)
                have p6b : ((6 : Int) ^ i).natAbs ≤ 2 ^ 48 := by
                  rw [Int.natAbs_pow]
                  exact Nat.le_trans (Nat.pow_le_pow_right (by decide) (show i ≤ 16 by omega)) (by decide)
                have bt := bits_of_le (Nat.le_trans dle.1 prb)
                have bb := bits_of_le (Nat.le_trans dle.2 p6b)
                have e1 := nf_mul (p := nf (pr i (dia N)) (6 ^ i)) (t := pr i (dia N)) (b := 6 ^ i) (t' := gi row i) (b' := 6) dlow.1.pos p6 (by decide) dlow.2.symm
                have e2 : pr (i + 1) (dia (N ++ [row])) = pr i (dia N) * gi row i := by rw [← Nl]; exact dia_snoc
                walk_at "rd"
                refine ⟨ys, R0.hR, .ref qi, atI_nn (by omega) (show ys[((0 : Int) + (i : Nat)).toNat]? = some (.ref qi) by rw [show ((0 : Int) + (i : Nat)).toNat = i by omega, ← exi]; simp [show i < ys.length by omega]), ?_⟩
                refine ⟨.ref dv, .ref qi, nf (pr i (dia N)) (6 ^ i), q6 (gi row i), rfl, rep_of (R0.sm _ _ R0.du), rep_of (R0.sm _ _ hqi), dlow.1.pos, u0, by omega, by omega, by omega, by omega, fun z H6 s6 rep => ?_⟩
                rw [show nf ((nf (pr i (dia N)) (6 ^ i)).1 * (q6 (gi row i)).1) ((nf (pr i (dia N)) (6 ^ i)).2 * (q6 (gi row i)).2) = nf (pr (i + 1) (dia (N ++ [row]))) (6 ^ (i + 1)) by rw [e2, Int.pow_succ]; exact e1] at rep
                have R1 := R0.call s6
                obtain ⟨_, ez, hz⟩ := rep_dF (Rep.mono (grow_new (S := S)) _ rep)
                cases ez
                have zR : z ≠ R := fun q => by rw [q, R1.sR] at hz; cases hz
                refine ⟨.inl ⟨_, .inl (.inl R1.hG)⟩, G, xs, .ref R, rfl, rfl, R1.hG, small1000 (by omega), upd (grow S H5 H6) R (.lst ys), r, N ++ [row], xs ++ [.ref R], z, rfl, ?_, ?_, ?_, ?_, upd_same, ?_, by simp [Nl], tri.snoc rown rowb (fun t ht => rowz t (by omega)), by rw [upd_ne zR]; exact hz⟩
                · intro b o h
                  by_cases hb : b = R
                  · subst hb
                    rw [upd_same] at h
                    rw [upd_ne GR.symm, ← h]
                    exact R1.hR
                  · rw [upd_ne hb] at h
                    rw [upd_ne (fun q => by rw [q, R1.sG] at h; cases h)]
                    exact R1.sm _ _ h
                · rw [upd_ne lR]; exact R1.sl
                · rw [upd_ne GR]; exact R1.sG
                · rw [upd_ne lG]; exact R1.hl
                · have up : Same (grow S H5 H6) (upd (grow S H5 H6) R (.lst ys)) := Same.new R1.sR
                  rw [List.map_append]
                  exact (Reps.mono up _ R1.rx).append ⟨_, _, rfl, ⟨R, ys, rfl, upd_same, Reps.mono up _ R1.ry⟩, rfl⟩
      · rintro σ H' ⟨S, r, N, xs, dv, e5, e6, e7, rfl, sm, sl, sG, hl, hG, rx, Nl, tri, hdv⟩
        have dvG : dv ≠ G := ne_of_none hdv sG
        have dvl : dv ≠ l := ne_of_none hdv sl
        have p6 : (6 : Int) ^ n ≠ 0 := Int.pow_ne_zero (by decide)
        have dle := nf_abs_le (t := pr n (dia N)) p6
        have prb : (pr n (dia N)).natAbs ≤ 2 ^ (5 * n) := pr_le fun c hc => by
          unfold dia ma
          refine gi_le (fun x hx => ?_) c
          have hm : N.getD c [] ∈ N := by
            rw [List.getD_eq_getElem?_getD, List.getElem?_eq_getElem (by omega)]
            exact List.getElem_mem _
          exact Nat.le_trans ((tri.wid _ hm).2 x hx) (by decide)
        have bt := bits_of_le (Nat.le_trans dle.1 prb)
        have dt : D n (ma N) = pr n (dia N) := D_tri fun i j hj hi => tri.nil i j (by omega) hj
        walk_at "rd"
        refine ⟨G, l, r, N, n, rfl, hl, lG.symm, by omega, by omega, ⟨⟨xs, hG, Reps.mono (fun b o h => by rw [hid_at (ne_of_none h sG) (ne_of_none h sl)]; exact sm _ _ h) _ rx⟩, Nl, tri.wid⟩, fun H2 r2 sg N2 b2 hl2 gd2 hs hD => ?_⟩
        have hdv2 := b2 _ _ dvG dvl (sm _ _ hdv)
        have sgb : Builtin.Int.intBits sg ≤ 1 := by rcases hs with rfl | rfl <;> decide +kernel
        refine ⟨_, hdv2, _, atI_0, _, rfl, _, rfl, by omega, _, hdv2, _, atI_1, by decide, fun p np => ⟨by omega, by omega, ?_⟩⟩
        rw [show Int.toNat (n : Int) = n by omega]
        have hp3 := upd_same (H := H2) (a := p) (o := HO.tup [.int ((nf (pr n (dia N)) (6 ^ n)).1 * sg), .int (nf (pr n (dia N)) (6 ^ n)).2])
        have gd3 := Gd.keep lG.symm gd2 (But.of (Same.new np (o := HO.tup [.int ((nf (pr n (dia N)) (6 ^ n)).1 * sg), .int (nf (pr n (dia N)) (6 ^ n)).2])))
        generalize upd H2 p (HO.tup [.int ((nf (pr n (dia N)) (6 ^ n)).1 * sg), .int (nf (pr n (dia N)) (6 ^ n)).2]) = H3 at *
        obtain ⟨xs2, hG2, hR2⟩ := gd3.at_
        have hR3 : Reps H3 xs2 (N2.map fun r => dRow (row6 r)) := Reps.mono hid_same _ hR2
        have l2 : xs2.length = n := by rw [hR3.length, List.length_map, gd3.len]
        have tl : (turnR n N2).length = n := by simp [turnR]
        refine comp_any (n := n) (B := fun _ => none) (Pσ := fun σ => ∃ e, σ = [e, some (.ref G)]) (ds := (turnR n N2).map fun r => dRow (row6 r)) (fun b o e => by cases e) ⟨_, rfl⟩ (by rw [List.length_map, tl]) (by omega) (fun i H4 hi s4 => hi) (fun H4 s4 => Nat.le_refl _) ?_ ?_
        · rintro D j x d σ' H4 H4' hD ⟨od, hDo⟩ s4 hj hdj ⟨rfl, rfl⟩ ⟨e, rfl⟩ R kR
          have hG4 := s4 _ _ hG2
          have hd2 : d = dRow (row6 (N2.map fun r => gi r j)) := by
            rw [List.getElem?_map, turnR, List.getElem?_map, List.getElem?_range hj] at hdj
            exact (Option.some.inj hdj).symm
          walk_at "rd"
          refine ⟨⟨xs2, .inl (.inl hG4)⟩, ?_⟩
          refine comp_any (n := xs2.length) (B := onlyH D od) (Pσ := fun σ => ∃ e, σ = [e, some (.int (0 + j))]) (ds := (row6 (N2.map fun r => gi r j)).map dF) (only_same hDo) ⟨_, rfl⟩ (by simp [row6, l2, gd3.len]) (by omega) (fun i H5 hi s5 => ⟨xs2, xs2[i], .inl (.inl (s5 _ _ hG4)), by simp [hi]⟩) (fun H5 s5 => ⟨xs2, .inl (.inl (s5 _ _ hG4)), Nat.le_refl _⟩) ?_ ?_
          · rintro D2 i x d2 σ2 H5 H5' hD2 hD2o s5 hi hdi ⟨rfl, hy⟩ ⟨e2, rfl⟩ R2 kR2
            have hx := hy xs2 (.inl (.inl (s5 _ _ hG4)))
            obtain ⟨q, ys, row, hrow, rfl, hq, hys⟩ := rep6_at hR3 hx
            have rl := (gd3.rows row (List.mem_of_getElem? hrow)).1
            have yl : ys.length = n := by rw [hys.length, List.length_map, row6, List.length_map, rl]
            obtain ⟨q2, z, hz, e3, hq2⟩ := rep_at (r := row6 row) hys (i := j) (x := ys[j]'(by omega)) (by simp [show j < ys.length by omega])
            have hq' := s5 _ _ (s4 _ _ hq)
            walk_at "rd"
            simp only [hq', Option.some.injEq, HO.lst.injEq, exists_eq_left']
            refine ⟨_, atI_nn (by omega) (show ys[((0 : Int) + (j : Nat)).toNat]? = some (ys[j]'(by omega)) by rw [show ((0 : Int) + (j : Nat)).toNat = j by omega]; simp [show j < ys.length by omega]), ?_⟩
            refine kR2 _ _ _ ⟨_, rfl⟩ (Same.refl _) ?_
            have hd3 : d2 = dF z := by
              rw [List.getElem?_map, row6, List.getElem?_map, List.getElem?_map, hrow] at hdi
              rw [row6, List.getElem?_map] at hz
              have rj : row[j]? = some (row[j]'(by omega)) := List.getElem?_eq_getElem _
              have gj : gi row j = row[j]'(by omega) := by unfold gi; rw [List.getD_eq_getElem?_getD, rj]; rfl
              rw [rj] at hz
              rw [← Option.some.inj hz, ← gj]
              exact (Option.some.inj hdi).symm
            rw [hd3, e3]
            exact Rep.mono (old_only (s4.trans s5) hD (s4.free hD2)) _ (rep_of hq2)
          · intro D2 H5 hD2 s5 rep
            refine kR _ _ _ ⟨_, rfl⟩ s5 ?_
            rw [hd2]
            exact Rep.mono new_only _ rep
        · intro D1 H4 hD1 s4 repT
          have repT' : Rep H4 (.ref D1) (.lst ((turnR n N2).map fun r => dRow (row6 r))) := repT
          have hG4 := s4 _ _ hG2
          have hR4 := Reps.mono s4 _ hR3
          refine ⟨⟨xs2, .inl (.inl hG4)⟩, ?_⟩
          refine comp_any (n := xs2.length) (B := fun _ => none) (Pσ := fun σ => ∃ e, σ = [e]) (ds := N2.map fun r => dRow (row6 r)) (fun b o e => by cases e) ⟨_, rfl⟩ (by rw [List.length_map, l2, gd3.len]) (by omega) (fun i H5 hi s5 => ⟨xs2, xs2[i], .inl (.inl (s5 _ _ hG4)), by simp [hi]⟩) (fun H5 s5 => ⟨xs2, .inl (.inl (s5 _ _ hG4)), Nat.le_refl _⟩) ?_ ?_
          · rintro D i x d σ' H5 H5' hD ⟨od, hDo⟩ s5 hi hdi ⟨rfl, hy⟩ ⟨e, rfl⟩ R kR
            have hx := hy xs2 (.inl (.inl (s5 _ _ hG4)))
            obtain ⟨q, ys, row, hrow, rfl, hq, hys⟩ := rep6_at hR4 hx
            have hd2 : d = dRow (row6 row) := by rw [List.getElem?_map, hrow] at hdi; exact (Option.some.inj hdi).symm
            walk_at "rd"
            refine ⟨ys, .inl (s5 _ _ hq), fun t nt => kR _ _ _ ⟨_, rfl⟩ (Same.new nt) ?_⟩
            rw [hd2]
            exact ⟨t, ys, rfl, by rw [cutH_at (ne_of_none hDo nt).symm rfl, upd_same], Reps.mono (old_cut (s5.trans (Same.new nt)) hD) _ hys⟩
          · intro D2 H5 hD2 s5 repC
            have gl : (N2.map row6).length = n := by rw [List.length_map, gd3.len]
            have gl' : ((turnR n N2).map row6).length = n := by rw [List.length_map, tl]
            have mm : ∀ M : List (List Int), (M.map row6).map dRow = M.map fun r => dRow (row6 r) := fun M => by rw [List.map_map]; rfl
            obtain ⟨VV, eV⟩ : ∃ VV : Int × Int, VV = ((nf (pr n (dia N)) (6 ^ n)).1 * sg, (nf (pr n (dia N)) (6 ^ n)).2) := ⟨_, rfl⟩
            have v1 : VV.1 = (nf (pr n (dia N)) (6 ^ n)).1 * sg := by rw [eV]
            have v2 : VV.2 = (nf (pr n (dia N)) (6 ^ n)).2 := by rw [eV]
            have due : nf (D n (ma N2)) (6 ^ n) = VV := by
              rw [hD, dt, eV]
              exact nf_sign p6 hs
            rw [← v1, ← v2] at hp3
            have ok : ∀ {M : List (List Int)}, M.length = n → (∀ r ∈ M, r.length = n ∧ ∀ x ∈ r, x.natAbs ≤ 18 * 3 ^ 20) → ∀ r ∈ M.map row6, r.length = (M.map row6).length ∧ ∀ p ∈ r, Sm p := fun {M} hM hr r hm => by
              obtain ⟨q, hq, rfl⟩ := List.mem_map.mp hm
              exact ⟨by rw [row6, List.length_map, List.length_map, hM]; exact (hr q hq).1, sm_row6 (hr q hq).2⟩
            refine ⟨_, N2.map row6, rfl, by rw [mm]; exact repC, by omega, ok gd3.len gd3.rows, fun zf H6 s6 nz6 hz6 => ?_⟩
            rw [det6 gd3.len gd3.rows, due] at hz6
            have hp6 := s6 _ _ (s5 _ _ (s4 _ _ hp3))
            refine ⟨zf, p, dF VV, dF VV, true, rfl, rfl, rep_of hz6, rep_of hp6, deq_refl _, by have := dep_dF VV; omega, _, rfl, ?_⟩
            rw [if_pos rfl]
            refine ⟨_, (turnR n N2).map row6, rfl, by rw [mm]; exact Rep.mono (s5.trans s6) _ repT', by omega, ok tl (turn_rows gd3.len gd3.rows), fun zg H7 s7 nz7 hz7 => ?_⟩
            rw [det6 tl (turn_rows gd3.len gd3.rows), D_turnR gd3.len, due] at hz7
            exact ⟨zg, p, dF VV, dF VV, true, rfl, rfl, rep_of hz7, rep_of (s7 _ _ hp6), deq_refl _, by have := dep_dF VV; omega, k _⟩
end Rim4

set_option Elab.async false
set_option linter.all false
set_option maxRecDepth 100000
set_option maxHeartbeats 4000000
namespace Rim4
open PySem PySem.Spec PyProof.Rows L2 RimM RimD
theorem all_mk {l : PySem.W.OpenLaw} {w : World} {K : PySem.W.Frag} {mg : Str → Option Value} {fa : Addr} (hfa : mg "law" = some (.ref fa)) (T : Txt K mg)  (F_greatest_divisor : Fn0 K mg "greatest_divisor" s_greatest_divisor) (F_fraction : Fn0 K mg "fraction" s_fraction) (F_common_bottom : Fn0 K mg "common_bottom" s_common_bottom) (F_cleared : Fn0 K mg "cleared" s_cleared) (F_with_pivot : Fn0 K mg "with_pivot" s_with_pivot) (F_lessened : Fn0 K mg "lessened" s_lessened) (F_swept : Fn0 K mg "swept" s_swept) (F_determinant : Fn0 K mg "determinant" s_determinant) (F__law_cell_at : Fn0 K mg "_law_cell_at" s__law_cell_at) (F__law_big : Fn0 K mg "_law_big" s__law_big) (F__law_low : Fn0 K mg "_law_low" s__law_low) (F__law_add : Fn0 K mg "_law_add" s__law_add) (F__law_mul : Fn0 K mg "_law_mul" s__law_mul) (F__law_digit : Fn0 K mg "_law_digit" s__law_digit) (F__law_mixed : Fn0 K mg "_law_mixed" s__law_mixed) (F_law : Fn0 K mg "law" s_law) :
    ∃ fd : FuncData, (∀ (s : Shared) (v : Value), BindsTo s fd ⟨[v], []⟩ [("_law_script", v)]) ∧ ∀ base : Heap, K.In base → base.Ns mainGlobals mg → FnOk l.prog w K mg base CX0 5 fa fd ["_law_script"] (sp_law K) := by
  obtain ⟨f, fd, FL, m⟩ := F_law
  have e := hfa.symm.trans m
  cases e
  refine ⟨fd, ?_, fun base _ _ => ?_⟩
  · obtain ⟨oc, od, kV, doc, pm, an, cdv, ct, osl, rfl, lk, hcd⟩ := FL.ex
    exact fun s v => .of_eq rfl
  · have c1 := ok_greatest_divisor (P := l.prog) (w := w) (base := base) T F_greatest_divisor
    have c2 := ok_fraction T F_fraction c1
    have c3 := ok_common_bottom T F_common_bottom c1
    have c4 := ok_cleared T F_cleared c3
    have c5 := ok_with_pivot (P := l.prog) (w := w) (base := base) T F_with_pivot
    have c6 := ok_lessened (P := l.prog) (w := w) (base := base) T F_lessened
    have c7 := ok_swept T F_swept c5 c6
    have c8 := ok_determinant T F_determinant c4 c7 c2
    have d1 := ok__law_cell_at (P := l.prog) (w := w) (base := base) T F__law_cell_at
    have d2 := ok__law_big T F__law_big d1
    have d3 := ok__law_low (P := l.prog) (w := w) (base := base) T F__law_low
    have d4 := ok__law_digit (P := l.prog) (w := w) (base := base) T F__law_digit
    have d5 := ok__law_add T F__law_add d3
    have d6 := ok__law_mul T F__law_mul d3
    have d7 := ok__law_mixed T F__law_mixed d4 d6 d5
    exact ok_law T FL d2 d4 d3 d6 d7 c8
theorem walk {l : PySem.W.OpenLaw} {q : Program} {loose : List Str} {XP : (Str → Option Value) → Heap → Prop} {YP : World → Heap → Prop} {d : DefRec} {K : Params → PySem.W.Frag} (hn : l.most = some 63) (hdf : d.params.defaults = [])
    (hY : ∀ (w : World) (h : Heap), YP w h → (K w.params).In h)
    (F : ∀ (w : World) (mg : Str → Option Value) (fa : Addr) (h : Heap), (K w.params).In h → h.Ns mainGlobals mg → mg d.name = some (.ref fa) →
      ∃ fd : FuncData, (∀ (s : Shared) (u : Value), BindsTo s fd ⟨[u], []⟩ [("_law_script", u)]) ∧ ∀ base : Heap, (K w.params).In base → base.Ns mainGlobals mg → FnOk l.prog w (K w.params) mg base CX0 5 fa fd ["_law_script"] (sp_law (K w.params))) :
    PySem.W.WalkO q loose XP YP l.row.toRowW d [] (fun f vs => PySem.call f vs) :=
  L2.walk_of (n := 63) (k := 5) (x := "_law_script") (CX := fun _ => CX0) (sp := fun w => sp_law (K w.params)) hn (by decide) hdf ⟨rfl, by decide, by decide⟩ hY F (fun _ _ a ns hl _ hS => ⟨a, ns, rfl, hS, fun _ => rfl⟩) fun _ _ _ _ _ z => z
end Rim4
open PySem PySem.W PyProof.Rows
set_option maxRecDepth 100000 in
set_option maxHeartbeats 0 in
theorem PySem.Challenge.cw_rimread_k04_determinants_of_many_rows_holds : PySem.Challenge.rw_rimread_k04_determinants_of_many_rows.Holds := by
  w_on; o_law; k_head; (case hw => w_witness2)
  k_fill
  refine Rim4.walk (l := PySem.Challenge.rw_rimread_k04_determinants_of_many_rows) rfl rfl (fun w h Y => PySem.W.kIn_of Y) ?F
  case F =>
    intro w mg fa h KX G hmg
    refine Rim4.all_mk  hmg ⟨?n_max, ?n_min, ?n_abs, ?n_len, ?n_range, ?n_list, ?n_zip, ?c1⟩ ?f_greatest_divisor ?f_fraction ?f_common_bottom ?f_cleared ?f_with_pivot ?f_lessened ?f_swept ?f_determinant ?f__law_cell_at ?f__law_big ?f__law_low ?f__law_add ?f__law_mul ?f__law_digit ?f__law_mixed ?f_law
    case c1 => refine' L2.mg_int KX G ?a; (case a => k_is)
    case n_max => refine' PySem.W.mg_none_of KX G ?a; (case a => k_is)
    case n_min => refine' PySem.W.mg_none_of KX G ?a; (case a => k_is)
    case n_abs => refine' PySem.W.mg_none_of KX G ?a; (case a => k_is)
    case n_len => refine' PySem.W.mg_none_of KX G ?a; (case a => k_is)
    case n_range => refine' PySem.W.mg_none_of KX G ?a; (case a => k_is)
    case n_list => refine' PySem.W.mg_none_of KX G ?a; (case a => k_is)
    case n_zip => refine' PySem.W.mg_none_of KX G ?a; (case a => k_is)
    case f_greatest_divisor => refine' L2.fn0_mk KX G ?a ?l ?c ?k; (case a => k_is); (case l => k_is); (case c => k_is); (case k => k_is)
    case f_fraction => refine' L2.fn0_mk KX G ?a ?l ?c ?k; (case a => k_is); (case l => k_is); (case c => k_is); (case k => k_is)
    case f_common_bottom => refine' L2.fn0_mk KX G ?a ?l ?c ?k; (case a => k_is); (case l => k_is); (case c => k_is); (case k => k_is)
    case f_cleared => refine' L2.fn0_mk KX G ?a ?l ?c ?k; (case a => k_is); (case l => k_is); (case c => k_is); (case k => k_is)
    case f_with_pivot => refine' L2.fn0_mk KX G ?a ?l ?c ?k; (case a => k_is); (case l => k_is); (case c => k_is); (case k => k_is)
    case f_lessened => refine' L2.fn0_mk KX G ?a ?l ?c ?k; (case a => k_is); (case l => k_is); (case c => k_is); (case k => k_is)
    case f_swept => refine' L2.fn0_mk KX G ?a ?l ?c ?k; (case a => k_is); (case l => k_is); (case c => k_is); (case k => k_is)
    case f_determinant => refine' L2.fn0_mk KX G ?a ?l ?c ?k; (case a => k_is); (case l => k_is); (case c => k_is); (case k => k_is)
    case f__law_cell_at => refine' L2.fn0_mk KX G ?a ?l ?c ?k; (case a => k_is); (case l => k_is); (case c => k_is); (case k => k_is)
    case f__law_big => refine' L2.fn0_mk KX G ?a ?l ?c ?k; (case a => k_is); (case l => k_is); (case c => k_is); (case k => k_is)
    case f__law_low => refine' L2.fn0_mk KX G ?a ?l ?c ?k; (case a => k_is); (case l => k_is); (case c => k_is); (case k => k_is)
    case f__law_add => refine' L2.fn0_mk KX G ?a ?l ?c ?k; (case a => k_is); (case l => k_is); (case c => k_is); (case k => k_is)
    case f__law_mul => refine' L2.fn0_mk KX G ?a ?l ?c ?k; (case a => k_is); (case l => k_is); (case c => k_is); (case k => k_is)
    case f__law_digit => refine' L2.fn0_mk KX G ?a ?l ?c ?k; (case a => k_is); (case l => k_is); (case c => k_is); (case k => k_is)
    case f__law_mixed => refine' L2.fn0_mk KX G ?a ?l ?c ?k; (case a => k_is); (case l => k_is); (case c => k_is); (case k => k_is)
    case f_law => refine' L2.fn0_mk KX G ?a ?l ?c ?k; (case a => k_is); (case l => k_is); (case c => k_is); (case k => k_is)

