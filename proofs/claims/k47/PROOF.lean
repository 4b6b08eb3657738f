import PyProof.Rows.All
import Wide.All
import OpenK.AllK
import Wide.FinOn
import Lean
import PyProof.EqAt
import PyProof.EqKinds
import PyProof.TupleCall
import PySem.Challenge.RW_rimread_k47_minors
set_option Elab.async false
set_option linter.all false
set_option maxRecDepth 100000
namespace L2
open PySem PySem.Spec PyProof.Rows
abbrev Key := Sum Int Str
def keyIs : Key → Value → Bool
  | .inl k, v => Value.isInt k v
  | .inr x, v => Value.isStrOf x v
def keyH (w : World) : Key → Int
  | .inl k => hashInt k
  | .inr x => hashStr w x
theorem keyIs_shape : ∀ {k : Key} {v : Value}, keyIs k v = true → (∃ i t, k = Sum.inl i ∧ v = Value.int i t) ∨ (∃ x t, k = Sum.inr x ∧ v = Value.str x t)
  | .inl i, v, h => by
    obtain ⟨t, e⟩ := Value.isInt_shape (k := i) (v := v) h
    exact .inl ⟨i, t, rfl, e⟩
  | .inr x, v, h => by
    obtain ⟨t, e⟩ := Value.isStrOf_shape (x := x) (v := v) h
    exact .inr ⟨x, t, rfl, e⟩
theorem key_ll (a b : Int) : decide ((Sum.inl a : Key) = Sum.inl b) = (a == b) := by
  by_cases e : a = b
  · subst e; simp
  · have h : ¬ (Sum.inl a : Key) = Sum.inl b := fun q => e (Sum.inl.inj q)
    rw [decide_eq_false h]
    exact (beq_eq_false_iff_ne.mpr e).symm
theorem key_rr (a b : Str) : decide ((Sum.inr a : Key) = Sum.inr b) = decide (a = b) := by
  by_cases e : a = b
  · subst e; simp
  · have h : ¬ (Sum.inr a : Key) = Sum.inr b := fun q => e (Sum.inr.inj q)
    rw [decide_eq_false h, decide_eq_false e]
theorem key_lr (a : Int) (b : Str) : decide ((Sum.inl a : Key) = Sum.inr b) = false := decide_eq_false (fun q => nomatch q)
theorem key_rl (a : Str) (b : Int) : decide ((Sum.inr a : Key) = Sum.inl b) = false := decide_eq_false (fun q => nomatch q)
def mixKind (prog : Program) (w : World) : PySem.KeyKind prog w Key where
  is := keyIs
  hash := keyH w
  inj := fun v a b ha hb => by
    rcases keyIs_shape ha with ⟨i, t, rfl, rfl⟩ | ⟨x, t, rfl, rfl⟩
    · rcases keyIs_shape hb with ⟨j, u, rfl, e⟩ | ⟨y, u, rfl, e⟩
      · injection e with e1 _; rw [e1]
      · exact nomatch e
    · rcases keyIs_shape hb with ⟨j, u, rfl, e⟩ | ⟨y, u, rfl, e⟩
      · exact nomatch e
      · injection e with e1 _; rw [e1]
  byValue := fun k v h => by
    rcases keyIs_shape h with ⟨i, t, rfl, rfl⟩ | ⟨x, t, rfl, rfl⟩ <;> rfl
  pyHash := fun hv h => by
    rcases keyIs_shape hv with ⟨i, t, rfl, rfl⟩ | ⟨x, t, rfl, rfl⟩
    · exact wpAny_pyHash_int h
    · exact wpAny_pyHash_str h
  eqBool := fun hu hv h => by
    rcases keyIs_shape hu with ⟨i, t, rfl, rfl⟩ | ⟨x, t, rfl, rfl⟩
    · rcases keyIs_shape hv with ⟨j, u, rfl, rfl⟩ | ⟨y, u, rfl, rfl⟩
      · rw [key_ll] at h; exact wpAny_eqBool_int h
      · rw [key_lr] at h; exact SeqAt.EqAt.int_str i t y u _ _ _ _ h
    · rcases keyIs_shape hv with ⟨j, u, rfl, rfl⟩ | ⟨y, u, rfl, rfl⟩
      · rw [key_rl] at h; exact SeqAt.EqAt.str_int x t j u _ _ _ _ h
      · rw [key_rr] at h; exact wpAny_eqBool_str h
  «strs» := fun k x t v h => by
    rcases keyIs_shape h with ⟨i, u, rfl, e⟩ | ⟨y, u, rfl, e⟩
    · exact nomatch e
    · injection e with e1 _
      subst e1
      cases v <;> rfl
end L2
namespace L2
open PySem PySem.Spec PyProof.Rows
inductive V where
  | non | bl (b : Bool) | int (i : Int) | str (x : Str) | byt (b : Array UInt8) | flt (b : UInt64) | ref (a : Addr) | ty (n : String)
  deriving DecidableEq
def RelV : V → Value → Prop
  | .non, u => u = Value.none
  | .bl b, u => u = Value.bool b
  | .int i, u => ∃ t, u = Value.int i t
  | .str x, u => ∃ t, u = Value.str x t
  | .byt b, u => ∃ t, u = Value.bytes b t
  | .flt b, u => ∃ t, u = Value.float b t
  | .ref a, u => u = Value.ref a
  | .ty n, u => u = Value.type n
abbrev Vals : List V → List Value → Prop := Paired RelV
theorem Vals.length {xs : List V} {us : List Value} (r : Vals xs us) : xs.length = us.length := Paired.length r
theorem Vals.get : ∀ {xs : List V} {us : List Value} {i : Nat} {x : V}, Vals xs us → xs[i]? = some x → ∃ u, us[i]? = some u ∧ RelV x u
  | _, _, _, _, .nil, e => by simp at e
  | _, _, 0, _, .cons r _, e => by simp at e; subst e; exact ⟨_, rfl, r⟩
  | _, _, i + 1, x, .cons _ t, e => by
    obtain ⟨u, h1, h2⟩ := Vals.get (i := i) (x := x) t (by simpa using e)
    exact ⟨u, by simpa using h1, h2⟩
theorem Vals.set {x : V} {u : Value} (r : RelV x u) : ∀ {xs : List V} {us : List Value} (i : Nat), Vals xs us → Vals (xs.set i x) (us.set i u)
  | _, _, _, .nil => .nil
  | _, _, 0, .cons _ t => .cons r t
  | _, _, i + 1, .cons q t => .cons q (Vals.set r i t)
theorem Vals.append : ∀ {xs ys : List V} {us ws : List Value}, Vals xs us → Vals ys ws → Vals (xs ++ ys) (us ++ ws)
  | _, _, _, _, .nil, s => s
  | _, _, _, _, .cons r t, s => .cons r (Vals.append t s)
theorem Vals.take : ∀ {xs : List V} {us : List Value} (n : Nat), Vals xs us → Vals (xs.take n) (us.take n)
  | _, _, 0, _ => .nil
  | _, _, _ + 1, .nil => .nil
  | _, _, n + 1, .cons r t => .cons r (Vals.take n t)
theorem Vals.drop : ∀ {xs : List V} {us : List Value} (n : Nat), Vals xs us → Vals (xs.drop n) (us.drop n)
  | _, _, 0, r => r
  | _, _, _ + 1, .nil => .nil
  | _, _, n + 1, .cons _ t => Vals.drop n t
def RelO : Option V → Option Value → Prop
  | some v, some u => RelV v u
  | none, none => True
  | _, _ => False
def KV {κ : Type} : List (κ × V) → List (κ × Value) → Prop := Paired fun (p : κ × V) (q : κ × Value) => p.1 = q.1 ∧ RelV p.2 q.2
def kV : Key → V
  | .inl i => .int i
  | .inr x => .str x
inductive HO where
  | lst (xs : List V)
  | tup (xs : List V)
  | dK (kvs : List (Key × V)) | dT (kvs : List (List Key × V))
  | set (S : Int → Bool) (n : Nat)
  | ins (C dx : Addr) (fs : List (Str × V))
  | own (x : Addr)
  | xd (fs : List (Str × V))
  | met (f x : Addr)
  | rng (lo hi : Int)
  | frz (o : Obj) (u : HO)
  | tbl (ps : Array Value)
  | ext (φ : Heap → Prop)
abbrev Hp := Addr → Option HO
def upd (H : Hp) (a : Addr) (o : HO) : Hp := fun b => if b = a then some o else H b
theorem upd_same {H : Hp} {a : Addr} {o : HO} : upd H a o a = some o := by unfold upd; rw [if_pos rfl]
theorem upd_ne {H : Hp} {a b : Addr} {o : HO} (h : b ≠ a) : upd H a o b = H b := by unfold upd; rw [if_neg h]
theorem upd_upd {H : Hp} {a : Addr} {o u : HO} : upd (upd H a o) a u = upd H a u := by
  funext b; unfold upd; split <;> rfl
theorem ne_of_none {H : Hp} {a b : Addr} {o : HO} (h : H a = some o) (h' : H b = none) : a ≠ b := by
  intro e; subst e; rw [h] at h'; cases h'
section
variable (P : Program) (w : World)
def ObjOk (H : Hp) (h : Heap) (a : Addr) : HO → Prop
  | .lst xs => xs.length ≤ sizeLine ∧ ∃ (its : List Value) (n : Nat), Vals xs its ∧ h.get? a = some { cls := .type "list", data := .seq its.toArray n }
  | .tup xs => xs.length ≤ sizeLine ∧ ∃ its : List Value, Vals xs its ∧ IsTup h a its.toArray
  | .dK kvs => kvs.length ≤ sizeLine ∧ (a == sysModules) = false ∧ ∃ vs, KV kvs vs ∧ h.DictOf (mixKind P w) a vs
  | .dT kvs => kvs.length ≤ sizeLine ∧ (a == sysModules) = false ∧ ∃ xs : List (List Key × Addr × Value),
      Paired (fun (p : List Key × V) (q : List Key × Addr × Value) => p.1 = q.1 ∧ H q.2.1 = some (.tup (p.1.map kV)) ∧ RelV p.2 q.2.2) kvs xs ∧
      ∃ o es ep, h.get? a = some o ∧ o.ExactDict ∧ o.data = .dict es ep ∧ es.toList = xs.map (entryOfKey (tupleKind (mixKind P w))) ∧ (xs.map (·.1)).Nodup
  | .set S n => h.SetOf (intKind P w) a S n
  | .ins C dx fs => H dx = some (.own a) ∧ fs.length ≤ 1000 ∧ dx ≠ a ∧ h.get? a = some (PySem.W.instObj C dx) ∧
      ∃ mA, h.Ns1 dx mA ∧ (∀ f, RelO (fs.lookup f) (mA f)) ∧ PySem.Within mA (fs.map (·.1))
  | .own _ => ∃ o, h.get? a = some o
  | .xd fs => ∃ mA, h.Ns1 a mA ∧ ∀ f, RelO (fs.lookup f) (mA f)
  | .rng lo hi => ∃ t u v, h.get? a = some { cls := .type "range", data := .fields #[.int lo t, .int hi u, .int 1 v] }
  | .frz o u => h.get? a = some o ∧ ObjOk H h a u
  | .tbl ps => h.get? a = some { cls := .none, data := .fields ps }
  | .met f x => h.get? a = some (PySem.W.methodObj (.ref f) (.ref x))
  | .ext φ => φ h ∧ (∃ o, h.get? a = some o) ∧ ∀ h1 h2 : Heap, φ h1 → (∀ o, h1.get? a = some o → h2.get? a = some o) → φ h2
def HOk (H : Hp) (h : Heap) : Prop := ∀ a o, H a = some o → ObjOk P w H h a o
end
section
variable {P : Program} {w : World} {H H' : Hp} {h h' : Heap} {a : Addr} {o : HO}
theorem ObjOk.lt (x : ObjOk P w H h a o) : a < h.objs.size := by
  cases o with
  | lst xs => obtain ⟨_, _, _, _, e⟩ := x; exact Heap.lt_size e
  | tup xs => obtain ⟨_, _, _, p⟩ := x; exact p.lt
  | dK kvs => obtain ⟨_, _, _, _, o, _, _, e, _⟩ := x; exact Heap.lt_size e
  | dT kvs => obtain ⟨_, _, _, _, o, _, _, e, _⟩ := x; exact Heap.lt_size e
  | set S n => obtain ⟨o, _, _, _, e, _⟩ := x; exact Heap.lt_size e
  | ins C dx fs => obtain ⟨_, _, _, e, _⟩ := x; exact Heap.lt_size e
  | own y => obtain ⟨_, e⟩ := x; exact Heap.lt_size e
  | xd fs => obtain ⟨_, ⟨_, _, _, e, _⟩, _⟩ := x; exact Heap.lt_size e
  | rng lo hi => obtain ⟨_, _, _, e⟩ := x; exact Heap.lt_size e
  | frz ob u => obtain ⟨e, _⟩ := x; exact Heap.lt_size e
  | tbl ps => exact Heap.lt_size (show h.get? a = some _ from x)
  | met f y => exact Heap.lt_size (show h.get? a = some _ from x)
  | ext φ => obtain ⟨_, ⟨_, e⟩, _⟩ := x; exact Heap.lt_size e
theorem Paired.mapP {α β : Type} {F G : α → β → Prop} : ∀ {l₁ : List α} {l₂ : List β}, Paired F l₁ l₂ → (∀ a b, F a b → G a b) → Paired G l₁ l₂
  | _, _, .nil, _ => .nil
  | _, _, .cons r t, f => .cons (f _ _ r) (Paired.mapP t f)
theorem ObjOk.stay (x : ObjOk P w H h a o) (k : ∀ b u, (b = a ∨ H b = some (.own a)) → h.get? b = some u → h'.get? b = some u)
    (ho : ∀ b, H b = some (.own a) → H' b = some (.own a)) (ht : ∀ b xs, H b = some (.tup xs) → H' b = some (.tup xs)) : ObjOk P w H' h' a o := by
  induction o with
  | lst xs => obtain ⟨z, its, n, r, e⟩ := x; exact ⟨z, its, n, r, k _ _ (.inl rfl) e⟩
  | tup xs => obtain ⟨z, its, r, ob, e, c⟩ := x; exact ⟨z, its, r, ob, k _ _ (.inl rfl) e, c⟩
  | dK kvs => obtain ⟨z, y, vs, r, ob, es, ep, e, c⟩ := x; exact ⟨z, y, vs, r, ob, es, ep, k _ _ (.inl rfl) e, c⟩
  | dT kvs =>
    obtain ⟨z, y, xs, r, ob, es, ep, e, c⟩ := x
    exact ⟨z, y, xs, Paired.mapP r fun p q z => ⟨z.1, ht _ _ z.2.1, z.2.2⟩, ob, es, ep, k _ _ (.inl rfl) e, c⟩
  | set S n => obtain ⟨ob, es, ep, t, e, c⟩ := x; exact ⟨ob, es, ep, t, k _ _ (.inl rfl) e, c⟩
  | ins C dx fs =>
    obtain ⟨d, z, ne, e, mA, ⟨od, es, ep, e2, c⟩, r⟩ := x
    exact ⟨ho _ d, z, ne, k _ _ (.inl rfl) e, mA, ⟨od, es, ep, k _ _ (.inr d) e2, c⟩, r⟩
  | own y => obtain ⟨ob, e⟩ := x; exact ⟨ob, k _ _ (.inl rfl) e⟩
  | xd fs => obtain ⟨mA, ⟨od, es, ep, e, c⟩, r⟩ := x; exact ⟨mA, ⟨od, es, ep, k _ _ (.inl rfl) e, c⟩, r⟩
  | rng lo hi => obtain ⟨t, u, v, e⟩ := x; exact ⟨t, u, v, k _ _ (.inl rfl) e⟩
  | frz ob u ih => obtain ⟨e, q⟩ := x; exact ⟨k _ _ (.inl rfl) e, ih q⟩
  | tbl ps =>
    have e : h.get? a = some { cls := .none, data := .fields ps } := x
    show h'.get? a = some { cls := .none, data := .fields ps }
    exact k a _ (.inl rfl) e
  | met f y =>
    have e : h.get? a = some (PySem.W.methodObj (.ref f) (.ref y)) := x
    show h'.get? a = some (PySem.W.methodObj (.ref f) (.ref y))
    exact k a _ (.inl rfl) e
  | ext φ => obtain ⟨p, ⟨o, e⟩, st⟩ := x; exact ⟨st _ _ p fun o q => k _ _ (.inl rfl) q, ⟨o, k _ _ (.inl rfl) e⟩, st⟩
theorem HOk.lt (x : HOk P w H h) (e : H a = some o) : a < h.objs.size := (x a o e).lt
theorem HOk.fresh (x : HOk P w H h) (e : h.objs.size ≤ a) : H a = none := by
  cases q : H a with
  | none => rfl
  | some u => exact absurd (Nat.lt_of_lt_of_le (x.lt q) e) (Nat.lt_irrefl _)
theorem HOk.kept (x : HOk P w H h) (k : ∀ b u, h.get? b = some u → h'.get? b = some u) : HOk P w H h' := fun a o e =>
  (x a o e).stay (fun b u _ q => k b u q) (fun _ q => q) fun _ _ q => q
theorem HOk.laid (x : HOk P w H h) (k : ∀ b u, h.get? b = some u → h'.get? b = some u) (hp : h.objs.size ≤ a) (new : ObjOk P w (upd H a o) h' a o) : HOk P w (upd H a o) h' := fun b u e => by
  have hn := x.fresh hp
  by_cases hb : b = a
  · subst hb; rw [upd_same] at e; cases e; exact new
  · rw [upd_ne hb] at e
    exact (x b u e).stay (fun c v _ q => k c v q) (fun c q => by rw [upd_ne (ne_of_none q hn)]; exact q) fun c xs q => by rw [upd_ne (ne_of_none q hn)]; exact q
end
def Rd (H : Hp) (a : Addr) (u : HO) : Prop := H a = some u ∨ ∃ o, H a = some (.frz o u)
theorem Rd.of {H : Hp} {a : Addr} {u : HO} (h : H a = some u) : Rd H a u := .inl h
theorem Rd.ok {P : Program} {w : World} {H : Hp} {h : Heap} {a : Addr} {u : HO} (r : Rd H a u) (x : HOk P w H h) : ObjOk P w H h a u := by
  rcases r with r | ⟨o, r⟩
  · exact x a u r
  · obtain ⟨_, q⟩ := x a _ r
    exact q
def Mut : Option HO → Prop
  | some (.lst _) => True
  | some (.dK _) => True
  | some (.dT _) => True
  | some (.set _ _) => True
  | some (.ins _ _ _) => True
  | some (.ext _) => True
  | _ => False
section
variable {P : Program} {w : World} {H : Hp} {h h' : Heap} {x e : Addr} {o' : HO}
theorem HOk.write (ok : HOk P w H h) (mu : Mut (H x)) (he : e = x ∨ H e = some (.own x)) (k : ∀ b u, b ≠ e → h.get? b = some u → h'.get? b = some u) (heo : ∃ u, h'.get? e = some u)
    (new : ObjOk P w (upd H x o') h' x o') : HOk P w (upd H x o') h' := fun b u q => by
  have nown : ∀ c y, H c = some (.own y) → c ≠ x := fun c y r z => by subst z; rw [r] at mu; exact mu
  have ntup : ∀ c xs, H c = some (.tup xs) → c ≠ x := fun c xs r z => by subst z; rw [r] at mu; exact mu
  by_cases hb : b = x
  · subst hb; rw [upd_same] at q; cases q; exact new
  · rw [upd_ne hb] at q
    by_cases hbe : b = e
    · have q' : H b = some (.own x) := by
        rcases he with z | z
        · exact absurd (hbe.trans z) hb
        · rw [hbe]; exact z
      rw [q] at q'; cases q'
      obtain ⟨v, hv⟩ := heo
      exact ⟨v, by rw [hbe]; exact hv⟩
    · refine (ok b u q).stay (fun c v hc r => k c v ?_ r) (fun c r => by rw [upd_ne (nown c b r)]; exact r) fun c xs r => by rw [upd_ne (ntup c xs r)]; exact r
      rcases hc with rfl | hc
      · exact hbe
      · rintro rfl
        rcases he with z | z
        · exact nown c b hc z
        · rw [hc] at z; cases z; exact hb rfl
end
structure Un (fs ex : List Addr) (H H' : Hp) (h h' : Heap) : Prop where
  keep : ∀ b o, h.get? b = some o → H b = none → b ∉ fs → b ∉ ex → h'.get? b = some o
  slot : ∀ b o, h.get? b = some o → H b = none → b ∈ fs → b ∉ ex → ∃ sl, h'.get? b = some { o with slots := sl }
  free : ∀ b o, h.get? b = some o → H b = none → b ∉ ex → H' b = none
  there : ∀ b o, h.get? b = some o → b ∉ ex → ∃ o', h'.get? b = some o'
  tups : ∀ b xs, H b = some (.tup xs) → H' b = some (.tup xs)
  frzs : ∀ b o u, H b = some (.frz o u) → H' b = some (.frz o u)
  tbls : ∀ b ps, H b = some (.tbl ps) → ∃ more, H' b = some (.tbl (ps ++ more))
section
variable {fs fs' ex ex' : List Addr} {H H1 H2 : Hp} {h h1 h2 h' : Heap} {a x e : Addr} {o : HO}
theorem Un.any (u : Un fs ex H H1 h h1) {b : Addr} {ob : Obj} (q : h.get? b = some ob) (n : H b = none) (hx : b ∉ ex) : ∃ sl, h1.get? b = some { ob with slots := sl } := by
  by_cases hb : b ∈ fs
  · exact u.slot b ob q n hb hx
  · exact ⟨ob.slots, u.keep b ob q n hb hx⟩
theorem Un.trans (a : Un fs ex H H1 h h1) (b : Un fs ex H1 H2 h1 h2) : Un fs ex H H2 h h2 where
  keep := fun c ob q n hc hx => b.keep c ob (a.keep c ob q n hc hx) (a.free c ob q n hx) hc hx
  slot := fun c ob q n hc hx => by
    obtain ⟨sl, e1⟩ := a.slot c ob q n hc hx
    obtain ⟨sl', e2⟩ := b.slot c _ e1 (a.free c ob q n hx) hc hx
    exact ⟨sl', e2⟩
  free := fun c ob q n hx => by
    obtain ⟨o', e1⟩ := a.there c ob q hx
    exact b.free c o' e1 (a.free c ob q n hx) hx
  there := fun c ob q hx => by
    obtain ⟨o', e1⟩ := a.there c ob q hx
    exact b.there c o' e1 hx
  tups := fun c xs q => b.tups c xs (a.tups c xs q)
  frzs := fun c ob xs q => b.frzs c ob xs (a.frzs c ob xs q)
  tbls := fun c ps q => by
    obtain ⟨m1, e1⟩ := a.tbls c ps q
    obtain ⟨m2, e2⟩ := b.tbls c _ e1
    exact ⟨m1 ++ m2, by rw [e2, Array.append_assoc]⟩
theorem Un.kept (k : ∀ b u, h.get? b = some u → h'.get? b = some u) : Un fs ex H H h h' :=
  ⟨fun b ob q _ _ _ => k b ob q, fun b ob q _ _ _ => ⟨ob.slots, k b ob q⟩, fun _ _ _ n _ => n, fun b ob q _ => ⟨ob, k b ob q⟩, fun _ _ q => q, fun _ _ _ q => q, fun _ ps q => ⟨#[], by rw [q]; simp⟩⟩
theorem Un.refl : Un fs ex H H h h := Un.kept fun _ _ q => q
theorem Un.laid (k : ∀ b u, h.get? b = some u → h'.get? b = some u) (hp : h.objs.size ≤ a) (hn : H a = none) : Un fs ex H (upd H a o) h h' where
  keep := fun b u q _ _ _ => k b u q
  slot := fun b u q _ _ _ => ⟨u.slots, k b u q⟩
  free := fun b u q n _ => by rw [upd_ne (Nat.ne_of_lt (Nat.lt_of_lt_of_le (Heap.lt_size q) hp))]; exact n
  there := fun b u q _ => ⟨u, k b u q⟩
  tups := fun b xs q => by rw [upd_ne (ne_of_none q hn)]; exact q
  frzs := fun b u xs q => by rw [upd_ne (ne_of_none q hn)]; exact q
  tbls := fun b ps q => ⟨#[], by rw [upd_ne (ne_of_none q hn), q]; simp⟩
theorem Un.write (mu : Mut (H x)) (he : e = x ∨ H e = some (.own x)) (k : ∀ b u, b ≠ e → h.get? b = some u → h'.get? b = some u) (heo : ∃ u, h'.get? e = some u) : Un fs ex H (upd H x o) h h' := by
  have hx : ∀ b, H b = none → b ≠ x := fun b n z => by subst z; rw [n] at mu; exact mu
  have hb : ∀ b, H b = none → b ≠ e := fun b n z => by
    subst z
    rcases he with r | r
    · exact hx b n r
    · rw [n] at r; cases r
  have hm : ∀ b u, H b = some u → ¬ Mut (some u) → b ≠ x := fun b u q nm z => by subst z; rw [q] at mu; exact nm mu
  refine ⟨fun b u q n _ _ => k b u (hb b n) q, fun b u q n _ _ => ⟨u.slots, k b u (hb b n) q⟩, fun b u q n _ => by rw [upd_ne (hx b n)]; exact n, fun b u q _ => ?_,
    fun b xs q => by rw [upd_ne (hm b _ q fun z => z)]; exact q, fun b u xs q => by rw [upd_ne (hm b _ q fun z => z)]; exact q, fun b ps q => ⟨#[], by rw [upd_ne (hm b _ q fun z => z), q]; simp⟩⟩
  by_cases hbe : b = e
  · subst hbe; exact heo
  · exact ⟨u, k b u hbe q⟩
theorem Un.mono (u : Un fs ex H H1 h h1) (hs : ∀ b ∈ fs, b ∈ fs') (hx : ∀ b ∈ ex, b ∈ ex') : Un fs' ex' H H1 h h1 :=
  ⟨fun b ob q n hb he => u.keep b ob q n (fun z => hb (hs b z)) fun z => he (hx b z), fun _ _ q n _ he => u.any q n fun z => he (hx _ z), fun b ob q n he => u.free b ob q n fun z => he (hx b z), fun b ob q he => u.there b ob q fun z => he (hx b z), u.tups, u.frzs, u.tbls⟩
end
def trk (h : Heap) (H : Hp) : List Addr := (List.range h.objs.size).filter fun a => (H a).isSome
def hidT (h : Heap) (H : Hp) : Heap := PySem.W.hideAll h (trk h H)
theorem hidT_size (h : Heap) (H : Hp) : (hidT h H).objs.size = h.objs.size := PySem.W.hideAll_size _ _
theorem hidT_get {h : Heap} {H : Hp} {b : Addr} {o : Obj} (e : h.get? b = some o) (n : H b = none) : (hidT h H).get? b = some o :=
  PySem.W.hideAll_get _ e fun hm => by
    have q : (H b).isSome = true := (List.mem_filter.mp hm).2
    rw [n] at q; simp at q
theorem of_hidT {h : Heap} {H : Hp} {b : Addr} {o : Obj} (e : (hidT h H).get? b = some o) : h.get? b = some o ∧ H b = none := by
  have e' : h.get? b = some o := PySem.W.of_hideAll (trk h H) e
  refine ⟨e', ?_⟩
  cases q : H b with
  | none => rfl
  | some x =>
    have hm : b ∈ trk h H := List.mem_filter.mpr ⟨List.mem_range.mpr (Heap.lt_size e'), by simp [q]⟩
    have z : (hidT h H).get? b = none := PySem.W.hideAll_none (trk h H) hm
    rw [z] at e; cases e
def allNews (g h : Heap) (L : Addr) : List (Addr × Obj) := (List.range h.objs.size).filterMap fun a => if a = L ∨ (g.get? a).isSome = true then none else (h.get? a).map fun o => (a, o)
def rest (g h : Heap) (L d : Addr) : List (Addr × Obj) := (allNews g h L).filter fun p => decide (p.1 ≠ d)
end L2
namespace L2
open PySem PySem.Spec PyProof.Rows
structure Mod (K : PySem.W.Frag) (mg : Str → Option Value) (base : Heap) : Prop where
  kin : K.In base
  glob : base.Ns mainGlobals mg
  blt : ∃ mb, base.Ns builtinsNs mb ∧ ∀ x : Str, x ≠ "__name__" → mb x = bootBuiltins x
  nolimit : base.NoLimit
structure Cx where
  prog : Program
  w : World
  K : PySem.W.Frag
  mg : Str → Option Value
  base : Heap
  A : Around
  N : List Str
  s₀ : Shared
  H₀ : Hp
  env : Env
  outer : List Env
  stack : List Env
  ex : List Addr
  fn : Str → Bool
  calm : Bool
  pn : List (Addr × Obj)
  xe : Value → Shared → Prop
def frs (l : List Env) : List Addr := l.filterMap (·.frame)
abbrev Cx.fs (X : Cx) : List Addr := frs X.outer
def Vis (sc : Scope) (x : Str) : Prop := sc.names.lookup x = some .local ∨ sc.names.lookup x = some .cell ∨ sc.names.lookup x = some .free
def Loc (sc : Scope) (x : Str) : Prop := sc.names.lookup x = some .local ∨ sc.names.lookup x = some .cell
def Look (env : Env) (h : Heap) (m : Str → Option Value) (x : Str) (u : Value) : Prop :=
  (env.kindOf x = some .local ∧ m x = some u) ∨ ((env.kindOf x = some .cell ∨ env.kindOf x = some .free) ∧ ∃ c, env.cells.lookup x = some c ∧ h.IsCell c (some u))
structure Cx.Ok (X : Cx) : Prop where
  mod : Mod X.K X.mg X.base
  kind : X.env.scope.kind = .function
  glob : X.env.globals = mainGlobals
  blt : X.env.builtins = builtinsNs
  above : X.s₀.heap.objs.size ≤ X.env.locals
  inj : ∀ x y c, X.env.cells.lookup x = some c → X.env.cells.lookup y = some c → x = y
  has : ∀ x, (X.env.kindOf x = some .cell ∨ X.env.kindOf x = some .free) → ∃ c, X.env.cells.lookup x = some c
  cab : ∀ x c, X.fn x = true → X.env.cells.lookup x = some c → X.s₀.heap.objs.size ≤ c
  hd : X.calm = true → X.A.handled = none
  frames : X.A.frames = some X.stack
  stk : X.stack = X.outer ∨ (X.stack = X.env :: X.outer ∧ X.env.frame = some X.env.locals)
  exf : ∀ b ∈ X.ex, b ≠ X.env.locals ∧ ∀ x c, X.env.cells.lookup x = some c → c ≠ b
  bs : ∀ b o, X.base.get? b = some o → X.s₀.heap.get? b = some o ∧ X.H₀ b = none
  bsz : X.base.objs.size ≤ X.s₀.heap.objs.size
  noex : ∀ b o, X.base.get? b = some o → b ∉ X.ex
  exfs : ∀ b ∈ X.ex, b ∉ X.fs
  funs : X.s₀.heap.FunFrames X.base X.outer
  frf : ∀ b ∈ X.fs, X.H₀ b = none
structure Inv (X : Cx) (pins : List (Addr × Obj)) (σ : List (Option V)) (H : Hp) (s : Shared) : Prop where
  ok : X.Ok
  os : s.os = X.s₀.os
  bare : AllBare s.gens
  base : Un X.fs X.ex X.H₀ H X.s₀.heap s.heap
  loc : ∃ m, s.heap.Ns X.env.locals m ∧ ∀ (i : Nat) (x : Str) (v : V), X.N[i]? = some x → σ[i]? = some (some v) → Vis X.env.scope x → ∃ u, RelV v u ∧ Look X.env s.heap m x u
  cell : ∀ x c, X.env.cells.lookup x = some c → ∃ v, s.heap.IsCell c v
  free : H X.env.locals = none
  freeC : ∀ x c, X.env.cells.lookup x = some c → H c = none
  pin : ∀ p ∈ X.pn ++ pins, s.heap.get? p.1 = some p.2 ∧ H p.1 = none ∧ p.1 ≠ X.env.locals ∧ p.1 ∉ X.fs ∧ ∀ v, p.2.data ≠ .cell v
  hok : HOk X.prog X.w H s.heap
  len : σ.length = X.N.length
section
variable {X : Cx} {pins : List (Addr × Obj)} {σ : List (Option V)} {H H' : Hp} {s : Shared} {h' : Heap}
theorem Cx.Ok.nofr (ok : X.Ok) {b : Addr} {o : Obj} (e : X.base.get? b = some o) : b ∉ X.fs := fun hb => by
  have := (ok.funs.mem hb).1
  rw [e] at this; cases this
theorem Inv.bs (I : Inv X pins σ H s) : ∀ b o, X.base.get? b = some o → s.heap.get? b = some o ∧ H b = none := fun b o e =>
  ⟨I.base.keep b o (I.ok.bs b o e).1 (I.ok.bs b o e).2 (I.ok.nofr e) (I.ok.noex b o e), I.base.free b o (I.ok.bs b o e).1 (I.ok.bs b o e).2 (I.ok.noex b o e)⟩
theorem Inv.bk (I : Inv X pins σ H s) : ∀ b o, X.base.get? b = some o → s.heap.get? b = some o := fun b o e => (I.bs b o e).1
theorem Inv.mod (I : Inv X pins σ H s) : Mod X.K X.mg X.base := I.ok.mod
theorem Inv.kIn (I : Inv X pins σ H s) : X.K.In s.heap := I.ok.mod.kin.keeps I.bk
theorem Inv.nolimit (I : Inv X pins σ H s) : s.heap.NoLimit := I.ok.mod.nolimit.keeps I.bk
theorem Inv.fr (I : Inv X pins σ H s) : ∃ m, Fr X.base X.env.locals s.heap m :=
  let ⟨m, hn, _⟩ := I.loc
  ⟨m, hn, I.bk, Nat.le_trans I.ok.bsz I.ok.above⟩
theorem Inv.lt (I : Inv X pins σ H s) : X.env.locals < s.heap.objs.size := let ⟨_, hn, _⟩ := I.loc; hn.lt
theorem Inv.sz (I : Inv X pins σ H s) : X.s₀.heap.objs.size ≤ s.heap.objs.size := Nat.le_trans I.ok.above (Nat.le_of_lt I.lt)
theorem Inv.nofs (I : Inv X pins σ H s) {a : Addr} (h : s.heap.objs.size ≤ a) : a ∉ X.fs := fun hb => by
  obtain ⟨_, o, ho, _⟩ := I.ok.funs.mem hb
  exact absurd (Nat.lt_of_lt_of_le (Heap.lt_size ho) (Nat.le_trans I.sz h)) (Nat.lt_irrefl _)
theorem Inv.cne (I : Inv X pins σ H s) : ∀ x c, X.env.cells.lookup x = some c → c ≠ X.env.locals := fun x c e z => by
  obtain ⟨v, o, ho, hd⟩ := I.cell x c e
  obtain ⟨m, ⟨o', es, ep, ho', hd', _⟩, _⟩ := I.loc
  rw [z, ho'] at ho; cases ho; rw [hd'] at hd; cases hd
theorem Inv.funs (I : Inv X pins σ H s) : s.heap.FunFrames X.base X.outer := by
  have all : ∀ (l : List Env), (∀ b ∈ frs l, b ∈ X.fs) → X.s₀.heap.FunFrames X.base l → s.heap.FunFrames X.base l := by
    intro l
    induction l with
    | nil => intro _ _; trivial
    | cons env r ih =>
      intro hs hl
      obtain ⟨hk, ⟨L, o, hf, hn, ho, hd⟩, hr⟩ := hl
      have hL : L ∈ X.fs := hs L (by unfold frs; rw [List.filterMap_cons, hf]; exact List.mem_cons_self)
      obtain ⟨sl, e⟩ := I.base.slot L o ho (I.ok.frf L hL) hL fun z => I.ok.exfs L z hL
      exact ⟨hk, ⟨L, _, hf, hn, e, hd⟩, ih (fun b hb => hs b (by unfold frs; rw [List.filterMap_cons, hf]; exact List.mem_cons_of_mem _ hb)) hr⟩
  exact all X.outer (fun _ hb => hb) I.ok.funs
theorem Inv.stack (I : Inv X pins σ H s) : s.heap.FunFrames X.base X.stack := by
  rcases I.ok.stk with e | ⟨e, hf⟩
  · rw [e]; exact I.funs
  · rw [e]
    obtain ⟨m, hn, _⟩ := I.loc
    refine .cons (by rw [I.ok.kind]; decide) hf hn ?_ I.funs
    exact Heap.get?_none_of_le (Nat.le_trans I.ok.bsz I.ok.above)
theorem Inv.stkSub (I : Inv X pins σ H s) : ∀ b ∈ frs X.stack, b ∈ X.env.locals :: X.fs := fun b hb => by
  rcases I.ok.stk with e | ⟨e, hf⟩
  · rw [e] at hb; exact List.mem_cons_of_mem _ hb
  · rw [e] at hb
    unfold frs at hb
    rw [List.filterMap_cons, hf] at hb
    exact hb
theorem Inv.stkFree (I : Inv X pins σ H s) : ∀ b ∈ frs X.stack, H b = none := fun b hb => by
  rcases List.mem_cons.mp (I.stkSub b hb) with e | hb
  · rw [e]; exact I.free
  · obtain ⟨_, o, ho, _⟩ := I.ok.funs.mem hb
    exact I.base.free b o ho (I.ok.frf b hb) fun z => I.ok.exfs b z hb
theorem Inv.step {g' : Array GenState} {t' : Nat} {d' : Drawn} {ch : List Addr} (I : Inv X pins σ H s)
    (hch : ∀ b ∈ ch, (b ∈ X.ex ∨ X.s₀.heap.objs.size ≤ b) ∧ b ≠ X.env.locals ∧ (∀ x c, X.env.cells.lookup x = some c → c ≠ b) ∧ ∀ p ∈ X.pn ++ pins, p.1 ≠ b)
    (keep : ∀ b o, b ≠ X.env.locals → b ∉ X.fs → b ∉ ch → s.heap.get? b = some o → H b = none → h'.get? b = some o)
    (slot : ∀ b o, b ≠ X.env.locals → b ∈ X.fs → b ∉ ch → s.heap.get? b = some o → H b = none → ∃ sl, h'.get? b = some { o with slots := sl }) (free : ∀ b o, b ∉ ch → s.heap.get? b = some o → H b = none → H' b = none)
    (there : ∀ b o, b ∉ ch → s.heap.get? b = some o → ∃ o', h'.get? b = some o')
    (tups : ∀ b xs, H b = some (.tup xs) → H' b = some (.tup xs)) (frzs : ∀ b o u, H b = some (.frz o u) → H' b = some (.frz o u)) (tbls : ∀ b ps, H b = some (.tbl ps) → ∃ more, H' b = some (.tbl (ps ++ more)))
    (ns : ∀ m, s.heap.Ns X.env.locals m → h'.Ns X.env.locals m) (hok : HOk X.prog X.w H' h') (hg : AllBare g') :
    Inv X pins σ H' { s with heap := h', gens := g', drawn := d', toks := t' } := by
  have neL : ∀ b o, X.s₀.heap.get? b = some o → b ≠ X.env.locals := fun b o e => Nat.ne_of_lt (Nat.lt_of_lt_of_le (Heap.lt_size e) I.ok.above)
  have neC : ∀ b o, X.s₀.heap.get? b = some o → b ∉ X.ex → b ∉ ch := fun b o e hx hb => by
    rcases (hch b hb).1 with z | z
    · exact hx z
    · exact absurd (Nat.lt_of_lt_of_le (Heap.lt_size e) z) (Nat.lt_irrefl _)
  have cellK : ∀ x c, X.env.cells.lookup x = some c → ∀ v, s.heap.IsCell c v → h'.IsCell c v := fun x c e v ⟨o, ho, hd⟩ => by
    have nch : c ∉ ch := fun z => (hch c z).2.2.1 x c e rfl
    by_cases hc : c ∈ X.fs
    · obtain ⟨sl, q⟩ := slot c o (I.cne x c e) hc nch ho (I.freeC x c e)
      exact ⟨_, q, hd⟩
    · exact ⟨o, keep c o (I.cne x c e) hc nch ho (I.freeC x c e), hd⟩
  refine ⟨I.ok, I.os, hg, ⟨fun b o e n hb hx => ?_, fun b o e n hb hx => ?_, fun b o e n hx => ?_, fun b o e hx => ?_, fun b xs e => tups b xs (I.base.tups b xs e), fun b o xs e => frzs b o xs (I.base.frzs b o xs e), fun b ps e => ?_⟩, ?_, fun x c e => ?_, ?_, fun x c e => ?_, fun p hp => ?_, hok, I.len⟩
  · exact keep b o (neL b o e) hb (neC b o e hx) (I.base.keep b o e n hb hx) (I.base.free b o e n hx)
  · obtain ⟨sl, e1⟩ := I.base.slot b o e n hb hx
    obtain ⟨sl', e2⟩ := slot b _ (neL b o e) hb (neC b o e hx) e1 (I.base.free b o e n hx)
    exact ⟨sl', e2⟩
  · obtain ⟨o', e1⟩ := I.base.there b o e hx
    exact free b o' (neC b o e hx) e1 (I.base.free b o e n hx)
  · obtain ⟨o', e1⟩ := I.base.there b o e hx
    exact there b o' (neC b o e hx) e1
  · obtain ⟨m1, e1⟩ := I.base.tbls b ps e
    obtain ⟨m2, e2⟩ := tbls b _ e1
    exact ⟨m1 ++ m2, by rw [e2, Array.append_assoc]⟩
  · obtain ⟨m, hn, hl⟩ := I.loc
    refine ⟨m, ns m hn, fun i x v e1 e2 e3 => ?_⟩
    obtain ⟨u, r, l⟩ := hl i x v e1 e2 e3
    refine ⟨u, r, ?_⟩
    rcases l with l | ⟨k, c, e, z⟩
    · exact .inl l
    · exact .inr ⟨k, c, e, cellK x c e _ z⟩
  · obtain ⟨v, z⟩ := I.cell x c e
    exact ⟨v, cellK x c e v z⟩
  · obtain ⟨m, ⟨o, _, _, ho, _⟩, _⟩ := I.loc
    exact free _ o (fun z => (hch _ z).2.1 rfl) ho I.free
  · obtain ⟨v, o, ho, hd⟩ := I.cell x c e
    exact free c o (fun z => (hch c z).2.2.1 x c e rfl) ho (I.freeC x c e)
  · obtain ⟨e, n, ne, nf, d⟩ := I.pin p hp
    have nch : p.1 ∉ ch := fun z => (hch p.1 z).2.2.2 p hp rfl
    exact ⟨keep p.1 p.2 ne nf nch e n, free p.1 p.2 nch e n, ne, nf, d⟩
theorem Inv.un {t' : Nat} (I : Inv X pins σ H s) (u : Un X.fs [] H H' s.heap h') (hok : HOk X.prog X.w H' h') : Inv X pins σ H' { s with heap := h', toks := t' } := by
  obtain ⟨m, ⟨o, es, ep, ho, r⟩, _⟩ := id I.loc
  obtain ⟨sl, hL⟩ := u.any ho I.free (by simp)
  exact I.step (g' := s.gens) (d' := s.drawn) (ch := []) (fun _ z => nomatch z) (fun b o _ hb _ e n => u.keep b o e n hb (by simp)) (fun b o _ hb _ e n => u.slot b o e n hb (by simp)) (fun b o _ e n => u.free b o e n (by simp)) (fun b o _ e => u.there b o e (by simp)) u.tups u.frzs u.tbls (fun m' hm => by
    obtain ⟨o', es', ep', ho', r'⟩ := hm
    rw [ho] at ho'; cases ho'
    exact ⟨_, es', ep', hL, r'⟩) hok I.bare
theorem Inv.call {g' : Array GenState} {t' : Nat} {d' : Drawn} {ch : List Addr} (I : Inv X pins σ H s) (u : Un (frs X.stack) ch H H' s.heap h') (hok : HOk X.prog X.w H' h') (hg : AllBare g')
    (hch : ∀ b ∈ ch, (b ∈ X.ex ∨ X.s₀.heap.objs.size ≤ b) ∧ b ≠ X.env.locals ∧ (∀ x c, X.env.cells.lookup x = some c → c ≠ b) ∧ ∀ p ∈ X.pn ++ pins, p.1 ≠ b) :
    Inv X pins σ H' { s with heap := h', gens := g', drawn := d', toks := t' } := by
  obtain ⟨m, ⟨o, es, ep, ho, r⟩, _⟩ := id I.loc
  obtain ⟨sl, hL⟩ := u.any ho I.free fun z => (hch _ z).2.1 rfl
  exact I.step (ch := ch) hch (fun b o hL hb hc e n => u.keep b o e n (fun z => (List.mem_cons.mp (I.stkSub b z)).elim hL hb) hc) (fun b o _ _ hc e n => u.any e n hc) (fun b o hc e n => u.free b o e n hc) (fun b o hc e => u.there b o e hc) u.tups u.frzs u.tbls (fun m' hm => by
    obtain ⟨o', es', ep', ho', r'⟩ := hm
    rw [ho] at ho'; cases ho'
    exact ⟨_, es', ep', hL, r'⟩) hok hg
theorem Inv.turned {t' : Nat} {it : Addr} (I : Inv X pins σ H s) (k : ∀ b o, b ≠ it → s.heap.get? b = some o → h'.get? b = some o) (hn : H it = none) (hL : it ≠ X.env.locals)
    (h1 : it ∈ X.ex ∨ X.s₀.heap.objs.size ≤ it) (h2 : ∀ x c, X.env.cells.lookup x = some c → c ≠ it) (h3 : ∀ p ∈ X.pn ++ pins, p.1 ≠ it) : Inv X pins σ H { s with heap := h', toks := t' } := by
  have nit : ∀ b u, H b = some u → b ≠ it := fun b u e z => by rw [z, hn] at e; cases e
  refine I.step (g' := s.gens) (d' := s.drawn) (ch := [it]) (fun b hb => ?_) (fun b o _ _ hc e _ => k b o (fun z => hc (by simp [z])) e) (fun b o _ _ hc e _ => ⟨o.slots, k b o (fun z => hc (by simp [z])) e⟩) (fun _ _ _ _ n => n)
    (fun b o hc e => ⟨o, k b o (fun z => hc (by simp [z])) e⟩) (fun _ _ e => e) (fun _ _ _ e => e) (fun b ps e => ⟨#[], by rw [e]; simp⟩) (fun m hm => ?_) (fun b u e => ?_) I.bare
  · have e : b = it := by simpa using hb
    subst e
    exact ⟨h1, hL, h2, h3⟩
  · obtain ⟨o, es, ep, ho, r⟩ := hm
    exact ⟨o, es, ep, k _ o (Ne.symm hL) ho, r⟩
  · refine (I.hok b u e).stay (fun c v hc q => k c v ?_ q) (fun _ q => q) fun _ _ q => q
    rcases hc with z | z
    · rw [z]; exact nit b u e
    · exact nit c _ z
theorem Inv.tok (I : Inv X pins σ H s) (t : Nat) : Inv X pins σ H { s with toks := t } := I.un (h' := s.heap) (t' := t) Un.refl I.hok
theorem Inv.kept {t' : Nat} (I : Inv X pins σ H s) (k : ∀ b u, s.heap.get? b = some u → h'.get? b = some u) : Inv X pins σ H { s with heap := h', toks := t' } := I.un (Un.kept k) (I.hok.kept k)
theorem Inv.laid {a : Addr} {o : HO} {t' : Nat} (I : Inv X pins σ H s) (k : ∀ b u, s.heap.get? b = some u → h'.get? b = some u) (hp : s.heap.objs.size ≤ a) (new : ObjOk X.prog X.w (upd H a o) h' a o) :
    Inv X pins σ (upd H a o) { s with heap := h', toks := t' } := I.un (Un.laid k hp (I.hok.fresh hp)) (I.hok.laid k hp new)
theorem Inv.write {x e : Addr} {o : HO} {t' : Nat} (I : Inv X pins σ H s) (mu : Mut (H x)) (he : e = x ∨ H e = some (.own x)) (k : ∀ b u, b ≠ e → s.heap.get? b = some u → h'.get? b = some u) (heo : ∃ u, h'.get? e = some u)
    (new : ObjOk X.prog X.w (upd H x o) h' x o) : Inv X pins σ (upd H x o) { s with heap := h', toks := t' } := I.un (Un.write mu he k heo) (I.hok.write mu he k heo new)
theorem Inv.pins_of {pins' : List (Addr × Obj)} (I : Inv X pins σ H s) (h : ∀ p ∈ pins', s.heap.get? p.1 = some p.2 ∧ H p.1 = none ∧ p.1 ≠ X.env.locals ∧ p.1 ∉ X.fs ∧ ∀ v, p.2.data ≠ .cell v) : Inv X pins' σ H s :=
  ⟨I.ok, I.os, I.bare, I.base, I.loc, I.cell, I.free, I.freeC, fun p hp => (List.mem_append.mp hp).elim (fun z => I.pin p (List.mem_append_left _ z)) (h p), I.hok, I.len⟩
theorem nodup_ix {N : List Str} (hN : N.Nodup) {i j : Nat} {x : Str} (a : N[i]? = some x) (b : N[j]? = some x) : i = j := by
  obtain ⟨h1, e1⟩ := List.getElem?_eq_some_iff.mp a
  obtain ⟨h2, e2⟩ := List.getElem?_eq_some_iff.mp b
  exact (List.getElem_inj hN).mp (e1.trans e2.symm)
theorem store_ok2 {M : Model} {A : Around} {E : Value → Shared → Prop} {i : Nat} {x : Str} {v : V} {u : Value} {Q : Unit → Shared → Prop} (I : Inv X pins σ H s) (hN : X.N.Nodup) (hi : X.N[i]? = some x) (hx : Loc X.env.scope x) (r : RelV v u)
    (h : ∀ s', Inv X pins (σ.set i (some v)) H s' → (∃ a, Heap.SameBut a s.heap s'.heap ∧ (a = X.env.locals ∨ X.env.cells.lookup x = some a)) → Q () s') (hf : X.fn x = true ∨ X.env.scope.names.lookup x = some .local := by first | exact .inl rfl | exact .inr rfl | assumption) : wpAny M A (storeName X.env x u) Q E s := by
  obtain ⟨m, hn, hl⟩ := id I.loc
  have hcls : (X.env.scope.kind == .class || (X.env.scope.kind == .module && X.env.locals != X.env.globals)) = false := by rw [I.ok.kind]; rfl
  have hiσ : i < σ.length := by rw [I.len]; exact (List.getElem?_eq_some_iff.mp hi).1
  have cne := I.cne
  have tracked : ∀ {a : Addr} {h' : Heap}, (∃ o, s.heap.get? a = some o ∧ H a = none) → Heap.SameBut a s.heap h' → HOk X.prog X.w H h' := fun {a h'} ha hs b ob e => by
    obtain ⟨_, _, hfree⟩ := ha
    refine (I.hok b ob e).stay (fun c w' hc q => (hs.2 c ?_).trans q) (fun _ q => q) fun _ _ q => q
    rintro rfl
    rcases hc with rfl | hc
    · rw [hfree] at e; cases e
    · rw [hfree] at hc; cases hc
  rcases hx with hk | hk
  · refine wpAny_storeName_local hk hn (fun h' hn' hs => ?_) hcls
    obtain ⟨oL, _, _, hoL, _⟩ := id hn
    refine h _ ⟨I.ok, I.os, I.bare, ⟨fun b o e n hb hx => ?_, fun b o e n hb hx => ?_, I.base.free, fun b o e hx => ?_, I.base.tups, I.base.frzs, I.base.tbls⟩, ⟨_, hn', fun j y v' e1 e2 e3 => ?_⟩, fun y c e => ?_, I.free, I.freeC, fun p hp => ?_, tracked ⟨oL, hoL, I.free⟩ hs, by simpa using I.len⟩ ⟨_, hs, .inl rfl⟩
    · exact (hs.2 b (Nat.ne_of_lt (Nat.lt_of_lt_of_le (Heap.lt_size e) I.ok.above))).trans (I.base.keep b o e n hb hx)
    · obtain ⟨sl, e1⟩ := I.base.slot b o e n hb hx
      exact ⟨sl, (hs.2 b (Nat.ne_of_lt (Nat.lt_of_lt_of_le (Heap.lt_size e) I.ok.above))).trans e1⟩
    · obtain ⟨o', e1⟩ := I.base.there b o e hx
      exact ⟨o', (hs.2 b (Nat.ne_of_lt (Nat.lt_of_lt_of_le (Heap.lt_size e) I.ok.above))).trans e1⟩
    · by_cases hj : j = i
      · subst hj
        rw [hi] at e1; cases e1
        rw [List.getElem?_set_self hiσ] at e2
        cases e2
        exact ⟨u, r, .inl ⟨hk, by simp⟩⟩
      · rw [List.getElem?_set_ne (Ne.symm hj)] at e2
        obtain ⟨u', r', q⟩ := hl j y v' e1 e2 e3
        refine ⟨u', r', ?_⟩
        rcases q with ⟨k, e⟩ | ⟨k, c, e, z⟩
        · refine .inl ⟨k, ?_⟩
          have : y ≠ x := fun e => hj (nodup_ix hN e1 (e ▸ hi))
          simp [this, e]
        · exact .inr ⟨k, c, e, z.sameBut hs (cne y c e)⟩
    · obtain ⟨w', z⟩ := I.cell y c e
      exact ⟨w', z.sameBut hs (cne y c e)⟩
    · obtain ⟨e, n, ne, nf, d⟩ := I.pin p hp
      exact ⟨(hs.2 p.1 ne).trans e, n, ne, nf, d⟩
  · have hfn : X.fn x = true := by
      rcases hf with z | z
      · exact z
      · rw [z] at hk; cases hk
    obtain ⟨c, hc⟩ := I.ok.has x (.inl hk)
    obtain ⟨w', z⟩ := I.cell x c hc
    refine wpAny_storeName_cell I.ok.kind hk hc z (fun h' hc' hs => ?_)
    obtain ⟨oc, hoc, hocd⟩ := id z
    refine h { s with heap := h' } ⟨I.ok, I.os, I.bare, ⟨fun b o e n hb hx => ?_, fun b o e n hb hx => ?_, I.base.free, fun b o e hx => ?_, I.base.tups, I.base.frzs, I.base.tbls⟩, ⟨m, hn.sameBut hs (Ne.symm (cne x c hc)), fun j y v' e1 e2 e3 => ?_⟩, fun y c' e => ?_, I.free, I.freeC, fun p hp => ?_, tracked ⟨oc, hoc, I.freeC x c hc⟩ hs, by simpa using I.len⟩ ⟨c, hs, .inr hc⟩
    · exact (hs.2 b (Nat.ne_of_lt (Nat.lt_of_lt_of_le (Heap.lt_size e) (I.ok.cab x c hfn hc)))).trans (I.base.keep b o e n hb hx)
    · obtain ⟨sl, e1⟩ := I.base.slot b o e n hb hx
      exact ⟨sl, (hs.2 b (Nat.ne_of_lt (Nat.lt_of_lt_of_le (Heap.lt_size e) (I.ok.cab x c hfn hc)))).trans e1⟩
    · obtain ⟨o', e1⟩ := I.base.there b o e hx
      exact ⟨o', (hs.2 b (Nat.ne_of_lt (Nat.lt_of_lt_of_le (Heap.lt_size e) (I.ok.cab x c hfn hc)))).trans e1⟩
    · by_cases hj : j = i
      · subst hj
        rw [hi] at e1; cases e1
        rw [List.getElem?_set_self hiσ] at e2
        cases e2
        exact ⟨u, r, .inr ⟨.inl hk, c, hc, hc'⟩⟩
      · rw [List.getElem?_set_ne (Ne.symm hj)] at e2
        obtain ⟨u', r', q⟩ := hl j y v' e1 e2 e3
        refine ⟨u', r', ?_⟩
        rcases q with q | ⟨k, c', e, z'⟩
        · exact .inl q
        · refine .inr ⟨k, c', e, z'.sameBut hs ?_⟩
          rintro rfl
          exact hj (nodup_ix hN e1 (I.ok.inj _ _ _ e hc ▸ hi))
    · by_cases hcc : c' = c
      · subst hcc; exact ⟨_, hc'⟩
      · obtain ⟨w2, z2⟩ := I.cell y c' e
        exact ⟨w2, z2.sameBut hs hcc⟩
    · obtain ⟨e, n, ne, nf, d⟩ := I.pin p hp
      refine ⟨(hs.2 p.1 ?_).trans e, n, ne, nf, d⟩
      intro q
      rw [q, hoc] at e
      have q' : oc = p.2 := Option.some.inj e
      exact d w' (by rw [← q']; exact hocd)
theorem store_ok {M : Model} {A : Around} {E : Value → Shared → Prop} {i : Nat} {x : Str} {v : V} {u : Value} {Q : Unit → Shared → Prop} (I : Inv X pins σ H s) (hN : X.N.Nodup) (hi : X.N[i]? = some x) (hx : Loc X.env.scope x) (r : RelV v u)
    (h : ∀ s', Inv X pins (σ.set i (some v)) H s' → Q () s') (hf : X.fn x = true ∨ X.env.scope.names.lookup x = some .local := by first | exact .inl rfl | exact .inr rfl | assumption) : wpAny M A (storeName X.env x u) Q E s :=
  store_ok2 I hN hi hx r (fun s' I' _ => h s' I') hf
theorem Inv.call' {s' : Shared} {ch : List Addr} (I : Inv X pins σ H s) (ho : s'.os = s.os) (u : Un (frs X.stack) ch H H' s.heap s'.heap) (hok : HOk X.prog X.w H' s'.heap) (hg : AllBare s'.gens)
    (hch : ∀ b ∈ ch, (b ∈ X.ex ∨ X.s₀.heap.objs.size ≤ b) ∧ b ≠ X.env.locals ∧ (∀ x c, X.env.cells.lookup x = some c → c ≠ b) ∧ ∀ p ∈ X.pn ++ pins, p.1 ≠ b) : Inv X pins σ H' s' := by
  obtain ⟨h', g', d', t', o'⟩ := s'
  have e : o' = s.os := ho
  subst e
  exact I.call (g' := g') (t' := t') (d' := d') u hok hg hch
end
abbrev XK := Value → Option Addr → Hp → Prop
abbrev St := List (Option V)
abbrev VK := V → Hp → Prop
abbrev TE := St → Hp → VK → Prop
abbrev TT := St → Hp → (Bool → Hp → Prop) → Prop
abbrev TA := St → Hp → (List V → Hp → Prop) → Prop
structure Ends where
  nx : St → Hp → Prop
  rt : VK
  bk : St → Hp → Prop := fun _ _ => False
  ct : St → Hp → Prop := fun _ _ => False
abbrev TS := Ends → St → Hp → Prop
def EP (X : Cx) (pins : List (Addr × Obj)) (σ : St) (Q : VK) (u : Value) (s' : Shared) : Prop := ∃ v H', Inv X pins σ H' s' ∧ RelV v u ∧ Q v H'
def TP (X : Cx) (pins : List (Addr × Obj)) (σ : St) (Q : Bool → Hp → Prop) (b : Bool) (s' : Shared) : Prop := ∃ H', Inv X pins σ H' s' ∧ Q b H'
def AP (X : Cx) (pins : List (Addr × Obj)) (σ : St) (Q : List V → Hp → Prop) (us : List Value) (s' : Shared) : Prop := ∃ vs H', Inv X pins σ H' s' ∧ Vals vs us ∧ Q vs H'
def SP (X : Cx) (pins : List (Addr × Obj)) (D : Ends) (f : Flow) (s' : Shared) : Prop :=
  match f with
  | .next => ∃ σ' H', Inv X pins σ' H' s' ∧ D.nx σ' H'
  | .brk => ∃ σ' H', Inv X pins σ' H' s' ∧ D.bk σ' H'
  | .cont => ∃ σ' H', Inv X pins σ' H' s' ∧ D.ct σ' H'
  | .ret u => ∃ v σ' H', Inv X pins σ' H' s' ∧ RelV v u ∧ D.rt v H'
def PE (X : Cx) (e : Expr) (t : TE) : Prop :=
  ∀ (pins : List (Addr × Obj)) (s : Shared) (σ : St) (H : Hp) (Q : VK), Inv X pins σ H s → t σ H Q → wpAny (model X.prog X.w) X.A (eval e X.env) (EP X pins σ Q) X.xe s
def PT (X : Cx) (e : Expr) (t : TT) : Prop :=
  ∀ (pins : List (Addr × Obj)) (s : Shared) (σ : St) (H : Hp) (Q : Bool → Hp → Prop), Inv X pins σ H s → t σ H Q → wpAny (model X.prog X.w) X.A (isTrue e X.env (eval e X.env)) (TP X pins σ Q) X.xe s
def PW (X : Cx) (e : Expr) (t : TT) : Prop :=
  ∀ (whole : Sem Value) (pins : List (Addr × Obj)) (s : Shared) (σ : St) (H : Hp) (Q : Bool → Hp → Prop), Inv X pins σ H s → t σ H Q → wpAny (model X.prog X.w) X.A (isTrue e X.env whole) (TP X pins σ Q) X.xe s
theorem PW.pt {X : Cx} {e : Expr} {t : TT} (h : PW X e t) : PT X e t := h _
def PA (X : Cx) (es : List Expr) (t : TA) : Prop :=
  ∀ (pos : Pos) (pins : List (Addr × Obj)) (s : Shared) (σ : St) (H : Hp) (Q : List V → Hp → Prop), Inv X pins σ H s → t σ H Q → wpAny (model X.prog X.w) X.A (spliced (backTo pos (starEach es X.env))) (AP X pins σ Q) X.xe s
def PS (X : Cx) (st : Stmt) (t : TS) : Prop :=
  ∀ (pins : List (Addr × Obj)) (s : Shared) (σ : St) (H : Hp) (D : Ends), Inv X pins σ H s → t D σ H → wpAny (model X.prog X.w) X.A (exec st X.env) (SP X pins D) X.xe s
def PSs (X : Cx) (st : List Stmt) (t : TS) : Prop :=
  ∀ (pins : List (Addr × Obj)) (s : Shared) (σ : St) (H : Hp) (D : Ends), Inv X pins σ H s → t D σ H → wpAny (model X.prog X.w) X.A (execs st X.env) (SP X pins D) X.xe s
theorem thn {α : Type} {t : Sem α} {Q Q' : α → Shared → Prop} {M : Model} {A : Around} {E : Value → Shared → Prop} {s : Shared} (h : wpAny M A t Q E s) (hQ : ∀ a s, Q a s → Q' a s) : wpAny M A t Q' E s := wpAny_mono h hQ fun _ _ x => x
end L2
namespace L2
open PySem PySem.Spec PyProof.Rows
section
variable {X : Cx}
def tVar (i : Nat) : TE := fun σ H Q => ∃ v, σ[i]? = some (some v) ∧ Q v H
def tC (v : V) : TE := fun _ H Q => Q v H
theorem pe_var {i : Nat} {x : Str} {pos : Pos} (hN : X.N[i]? = some x) (hv : Vis X.env.scope x) (hd : (x == ("__debug__" : Str)) = false := by decide) (hcd : (x == ("__classdict__" : Str)) = false := by decide) : PE X (.Name x pos) (tVar i) := by
  intro pins s σ H Q I h
  obtain ⟨v, e, h⟩ := h
  obtain ⟨m, hn, hl⟩ := I.loc
  obtain ⟨u, r, l⟩ := hl i x v hN e hv
  have fin : EP X pins σ Q u s := ⟨v, H, I, r, h⟩
  rcases l with ⟨hk, hm⟩ | ⟨hk, c, hc, hcell⟩
  · exact wpAny_Name (wpAny_loadName_local I.ok.kind hk hn hm fin) hd
  · rcases hk with hk | hk
    · exact wpAny_Name (wpAny_loadName_cell I.ok.kind hk hc hcell fin) hd
    · exact wpAny_Name (wpAny_loadName_free I.ok.kind hk hc hcell fin hcd) hd
theorem pe_int {i j pos} : PE X (.Constant (.int i) j pos) (tC (.int i)) := fun _ _ _ H _ I h => wpAny_Constant_int ⟨.int i, H, I.tok _, ⟨_, rfl⟩, h⟩
theorem pe_bl {b j pos} : PE X (.Constant (.bool b) j pos) (tC (.bl b)) := fun _ _ _ H _ I h => Constant_bool ⟨.bl b, H, I, rfl, h⟩
def Gl (X : Cx) (x : Str) : Prop := X.env.kindOf x = some .globalImplicit
theorem ld_glob {E : Value → Shared → Prop} {pins : List (Addr × Obj)} {s : Shared} {σ : St} {H : Hp} {x : Str} {u : Value} {pos : Pos} {Q : Value → Shared → Prop} (I : Inv X pins σ H s) (hg : Gl X x) (hm : X.mg x = some u) (h : Q u s)
    (hd : (x == ("__debug__" : Str)) = false := by decide) : wpAny (model X.prog X.w) X.A (eval (.Name x pos) X.env) Q E s :=
  Calls.Name_function_global I.ok.kind hg (Calls.loadGlobal_global (by rw [I.ok.glob]; exact I.mod.glob.keeps I.bk) hm h) hd
theorem ld_blt {E : Value → Shared → Prop} {pins : List (Addr × Obj)} {s : Shared} {σ : St} {H : Hp} {x : Str} {u : Value} {pos : Pos} {Q : Value → Shared → Prop} (I : Inv X pins σ H s) (hg : Gl X x) (hm : X.mg x = none) (hv : bootBuiltins x = some u) (h : Q u s)
    (hn : x ≠ "__name__" := by decide) (hd : (x == ("__debug__" : Str)) = false := by decide) : wpAny (model X.prog X.w) X.A (eval (.Name x pos) X.env) Q E s := by
  obtain ⟨mb, h1, h2⟩ := I.mod.blt
  exact Calls.Name_function_global I.ok.kind hg (Calls.loadGlobal_builtin (by rw [I.ok.glob]; exact I.mod.glob.keeps I.bk) hm (by rw [I.ok.blt]; exact h1.keeps I.bk) ((h2 x hn).trans hv) h) hd
theorem pe_glob {x : Str} {v : V} {u : Value} {pos : Pos} (hg : Gl X x) (hm : X.mg x = some u) (r : RelV v u) (hd : (x == ("__debug__" : Str)) = false := by decide) : PE X (.Name x pos) (tC v) :=
  fun _ _ _ H _ I h => ld_glob I hg hm ⟨v, H, I, r, h⟩ hd
theorem pe_bltn {x : Str} {v : V} {u : Value} {pos : Pos} (hg : Gl X x) (hm : X.mg x = none) (hv : bootBuiltins x = some u) (r : RelV v u) (hn : x ≠ "__name__" := by decide) (hd : (x == ("__debug__" : Str)) = false := by decide) : PE X (.Name x pos) (tC v) :=
  fun _ _ _ H _ I h => ld_blt I hg hm hv ⟨v, H, I, r, h⟩ hn hd
variable {a b : Expr} {ta tb : TE} {pos : Pos}
def tB (t : TE) : TT := fun σ H Q => t σ H fun x H1 => ∃ c, x = .bl c ∧ Q c H1
theorem pt_val {e : Expr} {t : TE} (h : PE X e t) (he : ∀ whole, isTrue e X.env whole = (do let v ← whole; standAt e.pos; holding [v] (truthy v)) := by intro _; rfl) : PT X e (tB t) := by
  intro pins s σ H Q I hw
  refine isTrue_plain (thn (h pins s σ H _ I hw) fun v s1 ⟨x, H1, I1, r1, q1⟩ => ?_) (he _)
  obtain ⟨d, rfl, q⟩ := q1
  cases r1
  exact wpAny_truthy_bool ⟨H1, I1, q⟩
variable {tA tB' : TT} {rest : List Expr}
def tAnd (t u : TT) : TT := fun σ H Q => t σ H fun c H1 => if c = true then u σ H1 Q else Q false H1
def tOr (t u : TT) : TT := fun σ H Q => t σ H fun c H1 => if c = true then Q true H1 else u σ H1 Q
def tNot (t : TT) : TT := fun σ H Q => t σ H fun c H1 => Q (!c) H1
theorem pw_or1 (ha : PT X a tA) : PW X (.BoolOp .Or [a] pos) tA := by
  intro wh pins s σ H Q I h
  refine isTrue_or (thn (ha pins s σ H Q I h) fun c s1 e => ?_)
  cases c with
  | false => exact isTrue_or_nil e
  | true => exact e
theorem pw_or (ha : PT X a tA) (hb : PW X (.BoolOp .Or (b :: rest) pos) tB') : PW X (.BoolOp .Or (a :: b :: rest) pos) (tOr tA tB') := by
  intro wh pins s σ H Q I h
  refine isTrue_or (thn (ha pins s σ H _ I h) fun c s1 ⟨H1, I1, q1⟩ => ?_)
  cases c with
  | true => exact ⟨H1, I1, q1⟩
  | false => exact hb wh pins s1 σ H1 Q I1 q1
theorem pt_not (ha : PT X a tA) : PT X (.UnaryOp .Not a pos) (tNot tA) := by
  intro pins s σ H Q I h
  exact isTrue_not (ha pins s σ H (fun c H1 => Q (!c) H1) I h)
def tAndV (ta tb : TE) : TE := fun σ H Q => ta σ H fun x H1 => ∃ c, x = .bl c ∧ if c = true then tb σ H1 Q else Q (.bl false) H1
def tOrV (ta tb : TE) : TE := fun σ H Q => ta σ H fun x H1 => ∃ c, x = .bl c ∧ if c = true then Q (.bl true) H1 else tb σ H1 Q
def tNotV (ta : TE) : TE := fun σ H Q => ta σ H fun x H1 => ∃ c, x = .bl c ∧ Q (.bl (!c)) H1
theorem pe_one {op} {t : TE} (h : PE X a t) : PE X (.BoolOp op [a] pos) t := fun pins s σ H Q I hw => BoolOp_one (h pins s σ H Q I hw)
theorem pe_and (ha : PE X a ta) (hb : PE X (.BoolOp .And (b :: rest) pos) tb) : PE X (.BoolOp .And (a :: b :: rest) pos) (tAndV ta tb) := by
  intro pins s σ H Q I h
  refine BoolOp_and (thn (ha pins s σ H _ I h) fun v s1 ⟨x, H1, I1, r1, q1⟩ => ?_)
  obtain ⟨c, rfl, q1⟩ := q1
  cases r1
  refine wpAny_truthy_bool ?_
  cases c with
  | true => exact hb pins s1 σ H1 Q I1 q1
  | false => exact ⟨.bl false, H1, I1, rfl, q1⟩
theorem pe_not (ha : PE X a ta) : PE X (.UnaryOp .Not a pos) (tNotV ta) := by
  intro pins s σ H Q I h
  refine UnaryOp_ (thn (ha pins s σ H _ I h) fun v s1 ⟨x, H1, I1, r1, q1⟩ => ?_)
  obtain ⟨c, rfl, q1⟩ := q1
  cases r1
  exact not_of (wpAny_truthy_bool ⟨.bl (!c), H1, I1, rfl, q1⟩)
def tIf (t : TT) (ta tb : TE) : TE := fun σ H Q => t σ H fun c H1 => if c = true then ta σ H1 Q else tb σ H1 Q
theorem pe_ifExp {c : Expr} (hc : PT X c tA) (ha : PE X a ta) (hb : PE X b tb) : PE X (.IfExp c a b pos) (tIf tA ta tb) := by
  intro pins s σ H Q I h
  refine wpAny_IfExp (thn (hc pins s σ H _ I h) fun d s1 ⟨H1, I1, q1⟩ => ?_)
  cases d with
  | true => exact ha pins s1 σ H1 Q I1 q1
  | false => exact hb pins s1 σ H1 Q I1 q1
end
end L2
namespace L2
open PySem PySem.Spec PyProof.Rows
def SqL (K : PySem.W.Frag) (H : Hp) (a : Addr) (xs : List V) : Prop :=
  Rd H a (.lst xs) ∨
    ∃ (o : Obj) (its : Array Value) (n : Nat), K.lookup a = some o ∧ o.cls = .type "list" ∧ o.dict = none ∧ o.data = .seq its n ∧ its.size ≤ sizeLine ∧ Vals xs its.toList
def SqT (K : PySem.W.Frag) (H : Hp) (a : Addr) (xs : List V) : Prop :=
  Rd H a (.tup xs) ∨
    ∃ (o : Obj) (its : Array Value) (n : Nat), K.lookup a = some o ∧ o.cls = .type "tuple" ∧ o.data = .seq its n ∧ its.size ≤ sizeLine ∧ Vals xs its.toList
def absV : Value → Option V
  | .none => some .non
  | .bool b => some (.bl b)
  | .int i _ => some (.int i)
  | .str x _ => some (.str x)
  | .bytes b _ => some (.byt b)
  | .float b _ => some (.flt b)
  | .ref a => some (.ref a)
  | .type n => some (.ty n)
  | _ => none
theorem RelV.abs {x : V} {u : Value} (r : RelV x u) : absV u = some x := by
  cases x with
  | non => cases r; rfl
  | bl _ => cases r; rfl
  | int _ => obtain ⟨t, rfl⟩ := r; rfl
  | str _ => obtain ⟨t, rfl⟩ := r; rfl
  | byt _ => obtain ⟨t, rfl⟩ := r; rfl
  | flt _ => obtain ⟨t, rfl⟩ := r; rfl
  | ref _ => cases r; rfl
  | ty _ => cases r; rfl
theorem RelV.inj {x y : V} {u : Value} (r : RelV x u) (q : RelV y u) : x = y := Option.some.inj (r.abs.symm.trans q.abs)
theorem Vals.inj : ∀ {xs ys : List V} {us : List Value}, Vals xs us → Vals ys us → xs = ys
  | _, _, _, .nil, .nil => rfl
  | _, _, _, .cons r t, .cons r' t' => by rw [r.inj r', Vals.inj t t']
section
variable {X : Cx} {pins : List (Addr × Obj)} {σ : St} {H : Hp} {s : Shared} {a : Addr} {xs ys : List V}
theorem SqL.of {K : PySem.W.Frag} (h : H a = some (.lst xs)) : SqL K H a xs := .inl (.inl h)
theorem SqT.of {K : PySem.W.Frag} (h : H a = some (.tup xs)) : SqT K H a xs := .inl (.inl h)
theorem Inv.list (I : Inv X pins σ H s) (h : SqL X.K H a xs) : ∃ its : List Value, Vals xs its ∧ PlainL s.heap a its.toArray ∧ xs.length ≤ sizeLine := by
  rcases h with h | ⟨o, its, n, hk, hc, hd, hs, hz, r⟩
  · obtain ⟨z, its, n, r, e⟩ := h.ok I.hok
    exact ⟨its, r, ⟨_, n, e, rfl, rfl, rfl⟩, z⟩
  · refine ⟨its.toList, r, ⟨o, n, I.kIn a o hk, hc, hd, by simpa using hs⟩, ?_⟩
    have e := r.length
    simp only [Array.length_toList] at e
    omega
theorem Inv.tuple (I : Inv X pins σ H s) (h : SqT X.K H a xs) : ∃ its : List Value, Vals xs its ∧ IsTup s.heap a its.toArray ∧ xs.length ≤ sizeLine := by
  rcases h with h | ⟨o, its, n, hk, hc, hs, hz, r⟩
  · obtain ⟨z, its, r, p⟩ := h.ok I.hok
    exact ⟨its, r, p, z⟩
  · refine ⟨its.toList, r, ⟨o, I.kIn a o hk, hc, n, by simpa using hs⟩, ?_⟩
    have e := r.length
    simp only [Array.length_toList] at e
    omega
theorem Inv.list_inj (I : Inv X pins σ H s) (h : SqL X.K H a xs) (h' : SqL X.K H a ys) : xs = ys := by
  obtain ⟨its, r, ⟨o, n, e, _, _, d⟩, _⟩ := I.list h
  obtain ⟨its', r', ⟨o', n', e', _, _, d'⟩, _⟩ := I.list h'
  rw [e] at e'; cases e'
  rw [d] at d'
  injection d' with d1 _
  have : its = its' := by simpa using congrArg Array.toList d1
  subst this
  exact r.inj r'
end
abbrev Cx.wish (X : Cx) (E : Value → Shared → Prop) : Cx := { X with xe := E }
abbrev Cx.nox (X : Cx) : Cx := X.wish fun _ _ => False
theorem Cx.Ok.wish {X : Cx} (ok : X.Ok) (E : Value → Shared → Prop) : (X.wish E).Ok :=
  ⟨ok.mod, ok.kind, ok.glob, ok.blt, ok.above, ok.inj, ok.has, ok.cab, ok.hd, ok.frames, ok.stk, ok.exf, ok.bs, ok.bsz, ok.noex, ok.exfs, ok.funs, ok.frf⟩
theorem Cx.Ok.unwish {X : Cx} {E : Value → Shared → Prop} (ok : (X.wish E).Ok) : X.Ok :=
  ⟨ok.mod, ok.kind, ok.glob, ok.blt, ok.above, ok.inj, ok.has, ok.cab, ok.hd, ok.frames, ok.stk, ok.exf, ok.bs, ok.bsz, ok.noex, ok.exfs, ok.funs, ok.frf⟩
section
variable {X : Cx} {pins : List (Addr × Obj)} {σ : St} {H : Hp} {s : Shared} {E : Value → Shared → Prop}
theorem Inv.wish (I : Inv X pins σ H s) (E : Value → Shared → Prop) : Inv (X.wish E) pins σ H s := ⟨I.ok.wish E, I.os, I.bare, I.base, I.loc, I.cell, I.free, I.freeC, I.pin, I.hok, I.len⟩
theorem Inv.unwish (I : Inv (X.wish E) pins σ H s) : Inv X pins σ H s := ⟨I.ok.unwish, I.os, I.bare, I.base, I.loc, I.cell, I.free, I.freeC, I.pin, I.hok, I.len⟩
theorem SP.unwish {D : Ends} {f : Flow} {s' : Shared} (h : SP (X.wish E) pins D f s') : SP X pins D f s' := by
  cases f with
  | next => obtain ⟨σ', H', I, q⟩ := h; exact ⟨σ', H', I.unwish, q⟩
  | brk => obtain ⟨σ', H', I, q⟩ := h; exact ⟨σ', H', I.unwish, q⟩
  | cont => obtain ⟨σ', H', I, q⟩ := h; exact ⟨σ', H', I.unwish, q⟩
  | ret u => obtain ⟨v, σ', H', I, r, q⟩ := h; exact ⟨v, σ', H', I.unwish, r, q⟩
theorem PE.nox {e : Expr} {t : TE} (h : PE X.nox e t) : PE X e t := fun pins s σ H Q I hw =>
  wpAny_mono (h pins s σ H Q (I.wish _) hw) (fun _ _ ⟨v, H', I', r, q⟩ => ⟨v, H', I'.unwish, r, q⟩) fun _ _ z => False.elim z
theorem PT.nox {e : Expr} {t : TT} (h : PT X.nox e t) : PT X e t := fun pins s σ H Q I hw =>
  wpAny_mono (h pins s σ H Q (I.wish _) hw) (fun _ _ ⟨H', I', q⟩ => ⟨H', I'.unwish, q⟩) fun _ _ z => False.elim z
theorem PSs.nox {st : List Stmt} {t : TS} (h : PSs X.nox st t) : PSs X st t := fun pins s σ H D I hw =>
  wpAny_mono (h pins s σ H D (I.wish _) hw) (fun _ _ q => q.unwish) fun _ _ z => False.elim z
end
section
variable {X : Cx} {st : Stmt} {rest : List Stmt} {t u : TS} {e : Expr} {te : TE} {pos : Pos}
def tNext : TS := fun D σ H => D.nx σ H
def tSeq (t u : TS) : TS := fun D σ H => t { D with nx := u D } σ H
theorem pss_nil : PSs X [] tNext := fun _ _ σ H _ I h => wpAny_execs_nil ⟨σ, H, I, h⟩
theorem pss_cons (h1 : PS X st t) (h2 : PSs X rest u) : PSs X (st :: rest) (tSeq t u) := by
  intro pins s σ H D I h
  refine wpAny_execs_cons (thn (h1 pins s σ H { D with nx := u D } I h) fun f s1 q => ?_)
  cases f with
  | next =>
    obtain ⟨σ', H', I', q⟩ := q
    exact h2 pins s1 σ' H' D I' q
  | ret v => exact q
  | brk => exact q
  | cont => exact q
theorem pss_one (h1 : PS X st t) : PSs X [st] t := by
  intro pins s σ H D I h
  refine wpAny_execs_cons (thn (h1 pins s σ H D I h) fun f s1 q => ?_)
  cases f with
  | next => exact wpAny_execs_nil q
  | ret v => exact q
  | brk => exact q
  | cont => exact q
theorem Inv.quiet {pins : List (Addr × Obj)} {σ : St} {H : Hp} {s : Shared} (I : Inv X pins σ H s) : interactive X.env = false := by simp [interactive, I.ok.kind]
def tDrop (te : TE) : TS := fun D σ H => te σ H fun _ H1 => D.nx σ H1
theorem ps_expr (he : PE X e te) (hs : swapsWith e none pos.line X.env = pure false := by rfl) : PS X (.Expr e pos) (tDrop te) := by
  intro pins s σ H D I h
  exact wpAny_Expr_any (thn (he pins s σ H _ I h) fun v s1 ⟨x, H1, I1, r1, q1⟩ => ⟨σ, H1, I1, q1⟩) I.quiet hs
def tRet (te : TE) : TS := fun D σ H => te σ H D.rt
theorem ps_ret (he : PE X e te) : PS X (.Return (some e) pos) (tRet te) := by
  intro pins s σ H D I h
  exact wpAny_Return_some (thn (he pins s σ H _ I h) fun v s1 ⟨x, H1, I1, r1, q1⟩ => ⟨x, σ, H1, I1, r1, q1⟩)
def tRetN : TS := fun D _ H => D.rt .non H
def tIfS (c : TT) (t u : TS) : TS := fun D σ H => c σ H fun b H1 => if b = true then t D σ H1 else u D σ H1
theorem ps_if {c : Expr} {a b : List Stmt} {tc : TT} (hc : PT X c tc) (ha : PSs X a t) (hb : PSs X b u) : PS X (.If c a b pos) (tIfS tc t u) := by
  intro pins s σ H D I h
  refine wpAny_If (thn (hc pins s σ H _ I h) fun d s1 ⟨H1, I1, q1⟩ => ?_)
  cases d with
  | true => exact ha pins s1 σ H1 D I1 q1
  | false => exact hb pins s1 σ H1 D I1 q1
def tNever : TS := fun _ _ _ => False
theorem ps_never : PS X st tNever := fun _ _ _ _ _ _ h => h.elim
theorem pss_never {sts : List Stmt} : PSs X sts tNever := fun _ _ _ _ _ _ h => h.elim
end
abbrev TG := V → St → Hp → (St → Hp → Prop) → Prop
abbrev TGs := List V → St → Hp → (St → Hp → Prop) → Prop
def PG (X : Cx) (target : Expr) (t : TG) : Prop :=
  ∀ (pins : List (Addr × Obj)) (s : Shared) (σ : St) (H : Hp) (v : V) (u : Value) (Q : St → Hp → Prop), Inv X pins σ H s → RelV v u → t v σ H Q →
    wpAny (model X.prog X.w) X.A (assign target X.env u) (fun _ s' => ∃ σ' H', Inv X pins σ' H' s' ∧ Q σ' H') X.xe s
def PGs (X : Cx) (ts : List Expr) (t : TGs) : Prop :=
  ∀ (pins : List (Addr × Obj)) (s : Shared) (σ : St) (H : Hp) (vs : List V) (us : List Value) (Q : St → Hp → Prop), Inv X pins σ H s → Vals vs us → t vs σ H Q →
    wpAny (model X.prog X.w) X.A (assignInOrder ((assignEach ts X.env).map (·.2)) us) (fun _ s' => ∃ σ' H', Inv X pins σ' H' s' ∧ Q σ' H') X.xe s
abbrev TSet := V → V → V → Hp → (Hp → Prop) → Prop
def PSet (X : Cx) (t : TSet) : Prop :=
  ∀ (pins : List (Addr × Obj)) (s : Shared) (σ : St) (H : Hp) (o i v : V) (ov iv u : Value) (Q : Hp → Prop), Inv X pins σ H s → RelV o ov → RelV i iv → RelV v u → t o i v H Q →
    wpAny (model X.prog X.w) X.A (setItem ov iv u) (fun _ s' => ∃ H', Inv X pins σ H' s' ∧ Q H') X.xe s
section
variable {X : Cx} {pos : Pos}
def gName (i : Nat) : TG := fun v σ H Q => Q (σ.set i (some v)) H
theorem pg_name {i : Nat} {x : Str} (hN : X.N.Nodup) (hi : X.N[i]? = some x) (hx : Loc X.env.scope x) (hf : X.fn x = true ∨ X.env.scope.names.lookup x = some .local := by first | exact .inl rfl | exact .inr rfl | assumption) : PG X (.Name x pos) (gName i) := by
  intro pins s σ H v u Q I r h
  exact wpAny_assign_Name (store_ok I hN hi hx r (fun s' I' => ⟨_, H, I', h⟩) hf)
def gNil : TGs := fun vs σ H Q => vs = [] ∧ Q σ H
def gCons (t : TG) (u : TGs) : TGs := fun vs σ H Q => ∃ v r, vs = v :: r ∧ t v σ H fun σ' H' => u r σ' H' Q
theorem pgs_nil : PGs X [] gNil := by
  intro pins s σ H vs us Q I r h
  obtain ⟨e, h⟩ := h
  subst e
  cases r
  exact assignInOrder_nil ⟨σ, H, I, h⟩
theorem pgs_cons {e : Expr} {es : List Expr} {t : TG} {u : TGs} (h1 : PG X e t) (h2 : PGs X es u)
    (hs : (assignEach (e :: es) X.env).map (·.2) = assign e X.env :: (assignEach es X.env).map (·.2) := by rfl) : PGs X (e :: es) (gCons t u) := by
  intro pins s σ H vs us Q I r h
  obtain ⟨v, vr, e1, h⟩ := h
  subst e1
  cases r with
  | cons r rr =>
    rw [hs]
    refine assignInOrder_cons (thn (h1 pins s σ H _ _ _ I r h) fun _ s1 ⟨σ1, H1, I1, q1⟩ => ?_)
    exact h2 pins s1 σ1 H1 _ _ Q I1 rr q1
def gTup (K : PySem.W.Frag) (n : Nat) (t : TGs) : TG := fun v σ H Q => ∃ a xs, v = .ref a ∧ SqT K H a xs ∧ xs.length = n ∧ t xs σ H Q
theorem pg_tup {es : List Expr} {k : Nat} {t : TGs} {n : Nat} (hc : X.calm = true) (h : PGs X es t)
    (hn : (assignEach es X.env).length = n := by rfl) (hst : (assignEach es X.env).findIdx? (·.1) = none := by rfl) : PG X (.Tuple es k pos) (gTup X.K n t) := by
  intro pins s σ H v u Q I r hw
  obtain ⟨a, xs, e1, hq, hl, hw⟩ := hw
  subst e1
  cases r
  obtain ⟨its, rv, ht, hz⟩ := I.tuple hq
  refine assign_Tuple_tuple (I.ok.hd hc) ht (by simp [hn, ← hl, rv.length]) hst fun h' hx => ?_
  have I1 : Inv X pins σ H { s with heap := h' } := I.kept (t' := s.toks) fun b o e => hx b o (Nat.ne_of_lt (Heap.lt_size e)) e
  exact h pins _ σ H xs _ Q I1 (by simpa using rv) hw
def gSub (to ti : TE) (t : TSet) : TG := fun v σ H Q => to σ H fun o H1 => ti σ H1 fun i H2 => t o i v H2 fun H3 => Q σ H3
theorem pg_sub {o i : Expr} {to ti : TE} {t : TSet} (ho : PE X o to) (hi : PE X i ti) (hs : PSet X t)
    (ha : ∀ v, assign (.Subscript o i pos) X.env v = (do
      let ov ← holding [v] (eval o X.env)
      let iv ← holding [v, ov] (eval i X.env)
      standAt pos
      holding [v, ov, iv] (setItem ov iv v)
      release [v, ov, iv] []) := by intro _; rfl) : PG X (.Subscript o i pos) (gSub to ti t) := by
  intro pins s σ H v u Q I r h
  rw [ha]
  refine wpAny_bind (wpAny_holding (thn (ho pins s σ H _ I h) fun ov s1 ⟨x, H1, I1, r1, q1⟩ => ?_))
  refine wpAny_bind (wpAny_holding (thn (hi pins s1 σ H1 _ I1 q1) fun iv s2 ⟨y, H2, I2, r2, q2⟩ => ?_))
  refine wpAny_bind (wpAny_standAt (wpAny_bind (wpAny_holding (thn (hs pins s2 σ H2 x y v ov iv u _ I2 r1 r2 r q2) fun _ s3 ⟨H3, I3, q3⟩ => ?_))))
  exact wpAny_release ⟨σ, H3, I3, q3⟩
def tAsg (te : TE) (g : TG) : TS := fun D σ H => te σ H fun x H1 => g x σ H1 D.nx
theorem ps_asg {tg e : Expr} {te : TE} {g : TG} (he : PE X e te) (hg : PG X tg g) (hs : swapsWithSole [tg] e pos.line X.env = pure false := by rfl) (hw : swappedStores [tg] e X.env = pure none := by rfl)
    (h1 : (assignEach [tg] X.env).map (·.2) = [assign tg X.env] := by rfl) : PS X (.Assign [tg] e pos) (tAsg te g) := by
  intro pins s σ H D I h
  refine wpAny_Assign_stores (thn (he pins s σ H _ I h) fun v s1 ⟨x, H1, I1, r1, q1⟩ => ?_) hs hw
  rw [h1]
  exact thn (hg pins s1 σ H1 x v _ I1 r1 q1) fun _ s2 q => q
theorem ps_set {i : Nat} {x : Str} {e : Expr} {te : TE} {pos' : Pos} (hN : X.N.Nodup) (hi : X.N[i]? = some x) (hx : Loc X.env.scope x) (he : PE X e te) (hs : swapsWith e (some (.Name x pos')) pos.line X.env = pure false := by rfl) (hf : X.fn x = true ∨ X.env.scope.names.lookup x = some .local := by first | exact .inl rfl | exact .inr rfl | assumption) :
    PS X (.Assign [.Name x pos'] e pos) (tAsg te (gName i)) := by
  intro pins s σ H D I h
  refine wpAny_Assign_Name (thn (he pins s σ H _ I h) fun v s1 ⟨y, H1, I1, r1, q1⟩ => ?_) hs
  exact store_ok I1 hN hi hx r1 (fun s2 I2 => ⟨_, H1, I2, q1⟩) hf
def tPar (i j : Nat) (ta : TA) : TS := fun D σ H => ta σ H fun vs H1 => ∃ v w, vs = [v, w] ∧ D.nx ((σ.set i (some v)).set j (some w)) H1
theorem ps_par {i j : Nat} {x y : Str} {a b : Expr} {ta : TA} {px py pt : Pos} {kt k2 pt2} (hc : X.calm = true) (hN : X.N.Nodup) (hi : X.N[i]? = some x) (hj : X.N[j]? = some y) (hij : i ≠ j)
    (hx : X.env.scope.names.lookup x = some .local) (hy : X.env.scope.names.lookup y = some .local) (ha : PA X [a, b] ta)
    (hw : swappedStores [.Tuple [.Name x px, .Name y py] kt pt] (.Tuple [a, b] k2 pt2) X.env = pure (some [x, y]))
    (hs : swapsWithSole [.Tuple [.Name x px, .Name y py] kt pt] (.Tuple [a, b] k2 pt2) pos.line X.env = pure false := by rfl) :
    PS X (.Assign [.Tuple [.Name x px, .Name y py] kt pt] (.Tuple [a, b] k2 pt2) pos) (tPar i j ta) := by
  intro pins s σ H D I h
  rw [exec_Assign_arm]
  refine wpAny_bind (wpAny_standAt ?_)
  rw [hs]
  refine wpAny_bind (wpAny_pure ?_)
  rw [if_neg (by decide)]
  refine wpAny_bind (Tuple_ (thn (ha _ pins s σ H _ I h) fun us s1 ⟨vs, H1, I1, r1, q1⟩ => ?_))
  obtain ⟨v, w, e1, q1⟩ := q1
  subst e1
  obtain ⟨u1, u2, rfl, rv, rw'⟩ : ∃ u1 u2, us = [u1, u2] ∧ RelV v u1 ∧ RelV w u2 := by
    cases r1 with
    | cons p q =>
      cases q with
      | cons p' q' =>
        cases q'
        exact ⟨_, _, rfl, p, p'⟩
  refine wpAny_newObj_type ?_ (by show 2 ≤ sizeLine; decide)
  have I2 : Inv X pins σ H1 { s1 with heap := s1.heap.push { cls := .type "tuple", data := .seq [u1, u2].toArray } } := I1.kept (t' := s1.toks) fun b o e => Heap.get?_push_of_some _ e
  rw [hw]
  refine wpAny_bind (wpAny_pure ?_)
  show wpAny (model X.prog X.w) X.A (do rule "assign.swapped-stores"; let items ← unpackItems (.ref s1.heap.objs.size) 2 none; assignInOrder [fun v => bindName X.env y v, fun v => bindName X.env x v] items.reverse; pure Flow.next) _ _ _
  refine wpAny_bind (wpAny_rule (wpAny_bind (unpackItems_tuple (items := #[u1, u2]) (I.ok.hd hc) (IsTup.new s1.heap _) fun h' hx' => ?_)))
  have I3 := I2.kept (h' := h') (t' := s1.toks) fun b o e => hx' b o (Nat.ne_of_lt (Heap.lt_size e)) e
  show wpAny _ _ (assignInOrder [fun v => bindName X.env y v, fun v => bindName X.env x v] [u2, u1] >>= fun _ => pure Flow.next) _ _ _
  refine wpAny_bind (assignInOrder_cons (wpAny_bindName (store_ok I3 hN hj (.inl hy) rw' (fun s2 I4 => ?_) (.inr hy))))
  refine assignInOrder_cons (wpAny_bindName (store_ok I4 hN hi (.inl hx) rv (fun s3 I5 => assignInOrder_nil (wpAny_pure ?_)) (.inr hx)))
  rw [List.set_comm _ _ (Ne.symm hij)] at I5
  exact ⟨_, H1, I5, q1⟩
end
section
variable {X : Cx} {pos : Pos}
def tWhile (c : TT) (tb : TS) : TS := fun D σ H => ∃ W : Nat → St → Hp → Prop, (∃ m, W m σ H) ∧ ∀ m σ H, W m σ H →
  c σ H fun b H1 => if b = true then ∃ N : St → Hp → Prop, (∀ σ' H', N σ' H' → ∃ m', m' < m ∧ W m' σ' H') ∧ tb { D with nx := N, ct := N, bk := D.nx } σ H1 else D.nx σ H1
theorem ps_while {c : Expr} {body : List Stmt} {tc : TT} {tb : TS} (hp : PassesOwn (model X.prog X.w) X.A X.env X.xe) (hc : PT X c tc) (hb : PSs X body tb) : PS X (.While c body [] pos) (tWhile tc tb) := by
  intro pins s σ H D I h
  obtain ⟨W, ⟨m0, w0⟩, turn⟩ := h
  refine wpAny_While (codeAny_whileLoop (fun n s' => ∃ σ' H', Inv X pins σ' H' s' ∧ W n σ' H') ?_ m0 ⟨σ, H, I, w0⟩)
  rintro n s1 ⟨σ1, H1, I1, w1⟩
  refine wpAny_passesOwn hp (thn (hc pins s1 σ1 H1 _ I1 (turn n σ1 H1 w1)) fun b s2 ⟨H2, I2, q2⟩ => ?_)
  cases b with
  | true =>
    obtain ⟨N, hN, q2⟩ := q2
    rw [if_pos rfl]
    refine wpAny_passesOwn hp (thn (hb pins s2 σ1 H2 _ I2 q2) fun f s3 q3 => ?_)
    cases f with
    | next =>
      obtain ⟨σ3, H3, I3, n3⟩ := q3
      obtain ⟨m', hm, w3⟩ := hN σ3 H3 n3
      exact ⟨m', hm, σ3, H3, I3, w3⟩
    | cont =>
      obtain ⟨σ3, H3, I3, n3⟩ := q3
      obtain ⟨m', hm, w3⟩ := hN σ3 H3 n3
      exact ⟨m', hm, σ3, H3, I3, w3⟩
    | brk => exact q3
    | ret v => exact q3
  | false =>
    rw [if_neg Bool.false_ne_true]
    exact wpAny_execs_nil ⟨σ1, H2, I2, q2⟩
end
structure It where
  go : Nat → Hp → Prop
  yld : Nat → Hp → V → Hp → Prop
  stop : Nat → Hp → Prop
def FpOk (X : Cx) (pins : List (Addr × Obj)) (H : Hp) (b : Addr) : Prop :=
  H b = none ∧ b ≠ X.env.locals ∧ b ∉ X.fs ∧ (b ∈ X.ex ∨ X.s₀.heap.objs.size ≤ b) ∧ (∀ x c, X.env.cells.lookup x = some c → c ≠ b) ∧ ∀ p ∈ X.pn ++ pins, p.1 ≠ b
theorem Inv.fpOk {X : Cx} {pins : List (Addr × Obj)} {σ : St} {H H' : Hp} {s : Shared} {b : Addr} (I : Inv X pins σ H s) (hb : s.heap.objs.size ≤ b) (hn : H' b = none) : FpOk X pins H' b := by
  refine ⟨hn, Nat.ne_of_gt (Nat.lt_of_lt_of_le I.lt hb), I.nofs hb, .inr (Nat.le_trans I.sz hb), fun x c e z => ?_, fun p hp z => ?_⟩
  · obtain ⟨v, q⟩ := I.cell x c e
    exact absurd (Nat.lt_of_lt_of_le q.lt (by rw [z]; exact hb)) (Nat.lt_irrefl _)
  · exact absurd (Nat.lt_of_lt_of_le (Heap.lt_size (I.pin p hp).1) (by rw [z]; exact hb)) (Nat.lt_irrefl _)
structure Turn (P : Program) (w : World) (K : PySem.W.Frag) (tg : Expr) (J : It) (fp : List Addr) (it : Addr) (tn : Nat → Heap → Prop) : Prop where
  mem : it ∈ fp
  obj : ∀ i h, tn i h → ∀ b ∈ fp, ∃ o, h.get? b = some o ∧ ∀ v, o.data ≠ .cell v
  keep : ∀ i h h', tn i h → (∀ b ∈ fp, ∀ o, h.get? b = some o → h'.get? b = some o) → tn i h'
  item : ∀ (X : Cx), X.prog = P → X.w = w → X.K = K → X.calm = true → ∀ (i : Nat) (pins : List (Addr × Obj)) (s : Shared) (σ : St) (H : Hp) (E : Value → Shared → Prop), Inv X pins σ H s → (∀ b ∈ fp, FpOk X pins H b) → tn i s.heap → J.go i H →
    wpAny (model P w) X.A (pyNext (.ref it)) (fun r s1 => ∃ u, r = some u ∧
      wpAny (model P w) X.A (letOwnedTupleGo tg (.ref it) u) (fun _ s2 => ∃ x H', Inv X pins σ H' s2 ∧ RelV x u ∧ J.yld i H x H' ∧ tn (i + 1) s2.heap ∧ ∀ b ∈ fp, H' b = none) E s1) E s
  done : ∀ (X : Cx), X.prog = P → X.w = w → X.K = K → X.calm = true → ∀ (i : Nat) (pins : List (Addr × Obj)) (s : Shared) (σ : St) (H : Hp) (E : Value → Shared → Prop), Inv X pins σ H s → (∀ b ∈ fp, FpOk X pins H b) → tn i s.heap → J.stop i H →
    wpAny (model P w) X.A (pyNext (.ref it)) (fun r s1 => r = none ∧ Inv X pins σ H s1) E s
  self : ∀ (A : Around) (i : Nat) (s : Shared) (Q : Value → Shared → Prop) (E : Value → Shared → Prop), tn i s.heap → Q (.ref it) s → wpAny (model P w) A (pyIter (.ref it)) Q E s
abbrev TI := St → Hp → (It → Hp → Prop) → Prop
def PIE (X : Cx) (pins : List (Addr × Obj)) (σ : St) (tg : Expr) (R : It → Hp → Prop) (itv : Value) (s2 : Shared) : Prop :=
  ∃ (it : Addr) (fp : List Addr) (tn : Nat → Heap → Prop) (J : It) (H' : Hp), itv = .ref it ∧ Inv X pins σ H' s2 ∧ Turn X.prog X.w X.K tg J fp it tn ∧ tn 0 s2.heap ∧ (∀ b ∈ fp, FpOk X pins H' b) ∧ R J H'
def PI (X : Cx) (tg iter : Expr) (wi : TI) : Prop :=
  ∀ (pins : List (Addr × Obj)) (s : Shared) (σ : St) (H : Hp) (R : It → Hp → Prop), Inv X pins σ H s → wi σ H R →
    wpAny (model X.prog X.w) X.A (eval iter X.env) (fun v s1 => wpAny (model X.prog X.w) X.A (pyIter v) (PIE X pins σ tg R) X.xe s1) X.xe s
theorem go_of {M : Model} {A : Around} {E : Value → Shared → Prop} {s : Shared} {tg : Expr} {it : Addr} {u : Value} {o : Obj} {n : String} {vs : Array Value} {Q : Unit → Shared → Prop} (ho : s.heap.get? it = some o) (hc : o.cls = .type n) (hd : o.data = .fields vs)
    (hn : ["enumerate", "zip", "dict_itemiterator", "dict_reverseitemiterator", "odict_iterator", "itertools.zip_longest", "itertools.pairwise"].contains n = false) (hQ : Q () s) : wpAny M A (letOwnedTupleGo tg (.ref it) u) Q E s := by
  unfold letOwnedTupleGo
  cases tg <;> first
    | exact wpAny_pure hQ
    | (cases u <;> first
        | exact wpAny_pure hQ
        | (refine wpAny_bind (wpAny_load ho ?_)
           rw [hc, hd]
           show wpAny M A (if (["enumerate", "zip", "dict_itemiterator", "dict_reverseitemiterator", "odict_iterator", "itertools.zip_longest", "itertools.pairwise"].contains n && vs[0]? == some (rawInt _)) = true then _ else _) Q E s
           rw [if_neg (by intro h; rw [hn, Bool.false_and] at h; cases h)]
           exact wpAny_pure hQ))
def Itl (K : PySem.W.Frag) (a : Addr) : It :=
  ⟨fun i H => ∃ xs x, SqL K H a xs ∧ xs[i]? = some x, fun i H x H' => H' = H ∧ ∀ xs, SqL K H a xs → xs[i]? = some x, fun i H => ∃ xs, SqL K H a xs ∧ xs.length ≤ i⟩
def Itr (lo : Int) (n : Nat) : It := ⟨fun i _ => i < n, fun i H x H' => H' = H ∧ x = .int (lo + i), fun i _ => n ≤ i⟩
theorem turn_list {P : Program} {w : World} {K : PySem.W.Frag} {tg : Expr} (a it : Addr) : Turn P w K tg (Itl K a) [it] it (fun i h => h.IsListIter it a i) where
  mem := by simp
  obj := fun i h st b hb => by
    have e : b = it := by simpa using hb
    subst e
    obtain ⟨o, e, c, d⟩ := st
    exact ⟨o, e, fun v z => by rw [d] at z; cases z⟩
  keep := fun i h h' st k => st.at fun o e => k it (by simp) o e
  item := by
    intro X hP hw hK hc i pins s σ H E I hf st hg
    subst hP hw hK
    obtain ⟨xs, x, hq, hx⟩ := hg
    obtain ⟨its, rv, p, hz⟩ := I.list hq
    obtain ⟨u, hu, ru⟩ := rv.get hx
    obtain ⟨f0, f1, f2, f3, f4, f5⟩ := hf it (by simp)
    refine wpAny_pyNext_list_item st p.isList (x := u) (by simpa using hu) fun h' st' sb => ?_
    have I1 : Inv X pins σ H { s with heap := h' } := I.turned (t' := s.toks) (fun b o hb e => (sb.2 b hb).trans e) f0 f1 f3 f4 f5
    obtain ⟨o, e, c, d⟩ := id st'
    exact ⟨u, rfl, go_of (s := { s with heap := h' }) e c d (by decide) ⟨x, H, I1, ru, ⟨rfl, fun ys hy => by rw [I.list_inj hy hq]; exact hx⟩, st', fun b hb => (hf b hb).1⟩⟩
  done := by
    intro X hP hw hK hc i pins s σ H E I hf st hg
    subst hP hw hK
    obtain ⟨xs, hq, hx⟩ := hg
    obtain ⟨its, rv, p, hz⟩ := I.list hq
    obtain ⟨f0, f1, f2, f3, f4, f5⟩ := hf it (by simp)
    have hl := rv.length
    exact wpAny_pyNext_list_end (I.ok.hd hc) st p.isList (by simp; omega) fun h' eb => ⟨rfl, I.turned (t' := s.toks) (fun b o hb e => eb b o hb e) f0 f1 f3 f4 f5⟩
  self := fun _ _ _ _ _ st h => wpAny_pyIter_listiter st h
theorem turn_range {P : Program} {w : World} {K : PySem.W.Frag} {tg : Expr} (it : Addr) (lo : Int) (n : Nat) : Turn P w K tg (Itr lo n) [it] it (fun i h => IsRangeIter h it (lo + (i : Nat) * 1) ((n : Int) - (i : Nat)) 1) where
  mem := by simp
  obj := fun i h st b hb => by
    have e : b = it := by simpa using hb
    subst e
    exact ⟨_, st, fun v z => by
      have z' : Data.fields _ = Data.cell v := z
      cases z'⟩
  keep := fun i h h' st k => k it (by simp) _ st
  item := by
    intro X hP hw hK hc i pins s σ H E I hf st hg
    subst hP hw hK
    obtain ⟨f0, f1, f2, f3, f4, f5⟩ := hf it (by simp)
    have W := Walks.range (prog := X.prog) (w := X.w) (I.ok.hd hc) it lo 1 n
    refine W.item i s _ _ hg st fun v h' tk hv st' kk => ?_
    obtain ⟨t, rfl⟩ := hv
    have I1 : Inv X pins σ H { s with heap := h', toks := tk } := I.turned (fun b o hb e => kk b o (by simpa using hb) e) f0 f1 f3 f4 f5
    refine ⟨_, rfl, go_of (s := { s with heap := h', toks := tk }) (n := "range_iterator") st' rfl rfl (by decide) ⟨.int (lo + i), H, I1, ⟨t, ?_⟩, ⟨rfl, rfl⟩, st', fun b hb => (hf b hb).1⟩⟩
    rw [Int.mul_one]
  done := by
    intro X hP hw hK hc i pins s σ H E I hf st hg
    subst hP hw hK
    obtain ⟨f0, f1, f2, f3, f4, f5⟩ := hf it (by simp)
    exact wpAny_pyNext_range_end (I.ok.hd hc) st (by have : n ≤ i := hg; omega) fun h' eb => ⟨rfl, I.turned (t' := s.toks) (fun b o hb e => eb b o hb e) f0 f1 f3 f4 f5⟩
  self := fun _ _ _ _ _ st h => wpAny_pyIter_rangeiter st h
end L2
namespace L2
open PySem PySem.Spec PyProof.Rows
section
variable {X : Cx} {tg : Expr}
def iList (K : PySem.W.Frag) (tl : TE) : TI := fun σ H R => tl σ H fun x H1 => ∃ a, x = .ref a ∧ (∃ xs, SqL K H1 a xs) ∧ R (Itl K a) H1
theorem pi_list {l : Expr} {tl : TE} (hl : PE X l tl) : PI X tg l (iList X.K tl) := by
  intro pins s σ H R I h
  refine thn (hl pins s σ H _ I h) fun v s1 ⟨x, H1, I1, r1, q1⟩ => ?_
  obtain ⟨a, e, ⟨xs, hq⟩, q⟩ := q1
  subst e
  cases r1
  obtain ⟨its, rv, p, hz⟩ := I1.list hq
  refine wpAny_pyIter_list p.isList ?_
  refine ⟨s1.heap.objs.size, [s1.heap.objs.size], _, _, H1, rfl, I1.kept (t' := s1.toks) fun b o e => Heap.get?_push_of_some _ e, turn_list a _, ⟨_, Heap.get?_push_size _ rfl, rfl, rfl⟩, fun b hb => ?_, q⟩
  have e : b = s1.heap.objs.size := by simpa using hb
  subst e
  exact I1.fpOk (Nat.le_refl _) (I1.hok.fresh (Nat.le_refl _))
theorem range_it {pins : List (Addr × Obj)} {σ : St} {H : Hp} {s : Shared} {R : It → Hp → Prop} {E : Value → Shared → Prop} {lo hi : Int} {t u v : Tok} {tk : Nat} (I : Inv X pins σ H s) (h1 : -(2 ^ 62) ≤ lo) (h2 : lo < 2 ^ 62) (h3 : -(2 ^ 62) ≤ hi) (h4 : hi < 2 ^ 62)
    (q : R (Itr lo (hi - lo).toNat) H) : wpAny (model X.prog X.w) X.A (pyIter (.ref s.heap.objs.size)) (PIE X pins σ tg R) E { s with heap := s.heap.push { cls := .type "range", data := .fields #[.int lo t, .int hi u, .int 1 v] }, toks := tk } := by
  refine wpAny_pyIter_range (IsRange.new ..) (small_one h1 h2 h3 h4) ?_
  have I1 : Inv X pins σ H { s with heap := s.heap.push { cls := .type "range", data := .fields #[.int lo t, .int hi u, .int 1 v] }, toks := tk } := I.kept fun b o e => Heap.get?_push_of_some _ e
  refine ⟨(s.heap.push { cls := .type "range", data := .fields #[.int lo t, .int hi u, .int 1 v] }).objs.size, [(s.heap.push { cls := .type "range", data := .fields #[.int lo t, .int hi u, .int 1 v] }).objs.size], _, _, H, rfl,
    I1.kept (t' := tk) fun b o e => Heap.get?_push_of_some _ e, turn_range _ lo (hi - lo).toNat, ?_, fun b hb => ?_, q⟩
  · have e1 : lo + ((0 : Nat) : Int) * 1 = lo := by simp
    have e2 : (((hi - lo).toNat : Nat) : Int) - ((0 : Nat) : Int) = Builtin.Range.rangeSize lo hi 1 := by rw [rangeSize_one]; split <;> omega
    show IsRangeIter _ _ (lo + ((0 : Nat) : Int) * 1) ((((hi - lo).toNat : Nat) : Int) - ((0 : Nat) : Int)) 1
    rw [e1, e2]
    exact Heap.get?_push_size _ rfl
  · have e : b = (s.heap.push { cls := .type "range", data := .fields #[.int lo t, .int hi u, .int 1 v] }).objs.size := by simpa using hb
    subst e
    exact I1.fpOk (Nat.le_refl _) (I1.hok.fresh (Nat.le_refl _))
def iRng1 (ta : TA) : TI := fun σ H R => ta σ H fun vs H1 => ∃ j : Int, vs = [.int j] ∧ -(2 ^ 62) ≤ j ∧ j < 2 ^ 62 ∧ R (Itr 0 j.toNat) H1
def iRng2 (ta : TA) : TI := fun σ H R => ta σ H fun vs H1 => ∃ i j : Int, vs = [.int i, .int j] ∧ (-(2 ^ 62) ≤ i ∧ i < 2 ^ 62 ∧ -(2 ^ 62) ≤ j ∧ j < 2 ^ 62) ∧ R (Itr i (j - i).toNat) H1
theorem pi_range1 {a : Expr} {ta : TA} {p pos : Pos} (hg : Gl X "range") (hm : X.mg "range" = none) (ha : PA X [a] ta) (hs : starEach [a] X.env = [(false, eval a X.env)] := by rfl) : PI X tg (.Call (.Name "range" p) [a] [] pos) (iRng1 ta) := by
  intro pins s σ H R I h
  refine Call_ (ld_blt I hg hm boot_range (PyProof.Rows.callWith_type1 (thn (ha pos pins s σ H _ I h) fun us s1 ⟨vs, H1, I1, r1, q1⟩ => ?_) hs rfl))
  obtain ⟨j, e, q1, q2, q⟩ := q1
  subst e
  cases r1 with
  | cons r rr =>
    cases rr
    obtain ⟨t, rfl⟩ := r
    exact call_range_1 (range_it I1 (by omega) (by omega) q1 q2 (by simpa using q))
theorem pi_range2 {a b : Expr} {ta : TA} {p pos : Pos} (hg : Gl X "range") (hm : X.mg "range" = none) (ha : PA X [a, b] ta) (hs : starEach [a, b] X.env = [(false, eval a X.env), (false, eval b X.env)] := by rfl) (hs2 : starEach [b] X.env = [(false, eval b X.env)] := by rfl) :
    PI X tg (.Call (.Name "range" p) [a, b] [] pos) (iRng2 ta) := by
  intro pins s σ H R I h
  refine Call_ (ld_blt I hg hm boot_range (PyProof.Rows.callWith_type1 (thn (ha pos pins s σ H _ I h) fun us s1 ⟨vs, H1, I1, r1, q1⟩ => ?_) (by rw [hs, hs2]) (by rw [hs2]; rfl)))
  obtain ⟨i, j, e, ⟨q1, q2, q3, q4⟩, q⟩ := q1
  subst e
  cases r1 with
  | cons r rr =>
    cases rr with
    | cons r' rr =>
      cases rr
      obtain ⟨t, rfl⟩ := r
      obtain ⟨t', rfl⟩ := r'
      exact call_range_2 (range_it I1 q1 q2 q3 q4 q)
def tFor (wi : TI) (g : TG) (tb : TS) : TS := fun D σ H => wi σ H fun J H1 => ∃ W : Nat → Nat → St → Hp → Prop, (∃ m, W 0 m σ H1) ∧ ∀ i m σ H, W i m σ H →
  (J.stop i H ∧ D.nx σ H) ∨ (J.go i H ∧ ∃ N : St → Hp → Prop, (∀ σ' H', N σ' H' → ∃ m', m' < m ∧ W (i + 1) m' σ' H') ∧ ∀ x H', J.yld i H x H' → g x σ H' fun σ2 H2 => tb { D with nx := N, ct := N, bk := D.nx } σ2 H2)
def pinsAt (fp : List Addr) (h : Heap) : List (Addr × Obj) := fp.filterMap fun b => (h.get? b).map fun o => (b, o)
theorem mem_pinsAt {fp : List Addr} {h : Heap} {b : Addr} {o : Obj} (hb : b ∈ fp) (e : h.get? b = some o) : (b, o) ∈ pinsAt fp h := List.mem_filterMap.mpr ⟨b, hb, by rw [e]; rfl⟩
theorem of_pinsAt {fp : List Addr} {h : Heap} {p : Addr × Obj} (hp : p ∈ pinsAt fp h) : p.1 ∈ fp ∧ h.get? p.1 = some p.2 := by
  obtain ⟨b, hb, e⟩ := List.mem_filterMap.mp hp
  cases q : h.get? b with
  | none => rw [q] at e; cases e
  | some o =>
    rw [q] at e
    have e' : (b, o) = p := Option.some.inj e
    subst e'
    exact ⟨hb, q⟩
theorem Inv.pinned {pins : List (Addr × Obj)} {σ : St} {H : Hp} {s : Shared} {fp : List Addr} (I : Inv X pins σ H s) (hf : ∀ b ∈ fp, FpOk X pins H b) (ho : ∀ b ∈ fp, ∃ o, s.heap.get? b = some o ∧ ∀ v, o.data ≠ .cell v) : Inv X (pins ++ pinsAt fp s.heap) σ H s :=
  I.pins_of fun p hp => (List.mem_append.mp hp).elim (fun z => I.pin p (List.mem_append_right _ z)) fun z => by
    obtain ⟨hb, e⟩ := of_pinsAt z
    obtain ⟨f0, f1, f2, _⟩ := hf p.1 hb
    obtain ⟨o, e', d⟩ := ho p.1 hb
    rw [e] at e'; cases e'
    exact ⟨e, f0, f1, f2, d⟩
theorem Inv.unpinned {pins pl : List (Addr × Obj)} {σ : St} {H : Hp} {s : Shared} (I : Inv X (pins ++ pl) σ H s) : Inv X pins σ H s := I.pins_of fun p hp => I.pin p (List.mem_append_right _ (List.mem_append_left _ hp))
theorem ps_for {iter : Expr} {body : List Stmt} {wi : TI} {g : TG} {tb : TS} {pos : Pos} (hp : PassesOwn (model X.prog X.w) X.A X.env X.xe) (hc : X.calm = true) (hi : PI X tg iter wi) (hg : PG X tg g) (hb : PSs X body tb)
    (hs : ∀ x, foldedSetIterable iter X.env x = pure x := by intro _; rfl) : PS X (.For tg iter body [] pos) (tFor wi g tb) := by
  intro pins s σ H D I h
  refine wpAny_For (thn (hi pins s σ H _ I h) fun v s1 h1 => thn h1 fun itv s2 h2 => ?_) hs
  obtain ⟨it, fp, tn, J, H2, e, I2, T, st2, f2, W, ⟨m0, w0⟩, turn⟩ := h2
  subst e
  -- what stays true of the iterator's objects through the loop
  have stat : ∀ {H' : Hp}, (∀ b ∈ fp, H' b = none) → ∀ b ∈ fp, FpOk X pins H' b := fun hn b hb => ⟨hn b hb, (f2 b hb).2⟩
  refine codeAny_forLoop_any (fun n s' => ∃ i σ' H', Inv X pins σ' H' s' ∧ tn i s'.heap ∧ (∀ b ∈ fp, H' b = none) ∧ W i n σ' H') ?_ m0 ⟨0, σ, H2, I2, st2, fun b hb => (f2 b hb).1, w0⟩
  rintro n s3 ⟨i, σ3, H3, I3, st3, fr3, w3⟩
  rcases turn i n σ3 H3 w3 with ⟨stop, qn⟩ | ⟨go, N, hN, step⟩
  · refine wpAny_passesOwn hp (thn (T.done X rfl rfl rfl hc i pins s3 σ3 H3 X.xe I3 (stat fr3) st3 stop) fun r s4 ⟨hr, I4⟩ => ?_)
    subst hr
    exact wpAny_execs_nil ⟨σ3, H3, I4, qn⟩
  · refine wpAny_passesOwn hp (thn (T.item X rfl rfl rfl hc i pins s3 σ3 H3 X.xe I3 (stat fr3) st3 go) fun r s4 ⟨u, hr, h4⟩ => ?_)
    subst hr
    refine wpAny_passesOwn hp (thn h4 fun _ s5 ⟨x, H5, I5, r5, y5, st5, fr5⟩ => ?_)
    have I5' := I5.pinned (stat fr5) (T.obj _ _ st5)
    refine wpAny_passesOwn hp (thn (hg _ s5 σ3 H5 x u _ I5' r5 (step x H5 y5)) fun _ s6 ⟨σ6, H6, I6, q6⟩ => ?_)
    refine wpAny_passesOwn hp (thn (hb _ s6 σ6 H6 _ I6 q6) fun f s7 q7 => ?_)
    have again : ∀ {σ7 : St} {H7 : Hp}, Inv X (pins ++ pinsAt fp s5.heap) σ7 H7 s7 → N σ7 H7 → ∃ m, m < n ∧ ∃ i σ' H', Inv X pins σ' H' s7 ∧ tn i s7.heap ∧ (∀ b ∈ fp, H' b = none) ∧ W i m σ' H' := fun {σ7 H7} I7 n7 => by
      obtain ⟨m', hm, w7⟩ := hN σ7 H7 n7
      refine ⟨m', hm, i + 1, σ7, H7, I7.unpinned, T.keep _ _ _ st5 fun b hb o e => (I7.pin (b, o) (List.mem_append_right _ (List.mem_append_right _ (mem_pinsAt hb e)))).1, fun b hb => ?_, w7⟩
      obtain ⟨o, e, d⟩ := T.obj _ _ st5 b hb
      exact (I7.pin (b, o) (List.mem_append_right _ (List.mem_append_right _ (mem_pinsAt hb e)))).2.1
    cases f with
    | next => obtain ⟨σ7, H7, I7, n7⟩ := q7; exact again I7 n7
    | cont => obtain ⟨σ7, H7, I7, n7⟩ := q7; exact again I7 n7
    | brk => obtain ⟨σ7, H7, I7, q7⟩ := q7; exact ⟨σ7, H7, I7.unpinned, q7⟩
    | ret v => obtain ⟨x7, σ7, H7, I7, r7, q7⟩ := q7; exact ⟨x7, σ7, H7, I7.unpinned, r7, q7⟩
end
theorem for_list {K : PySem.W.Frag} {a : Addr} {xs : List V} {g : TG} {tb : TS} {D : Ends} {σ : St} {H : Hp} (Pv : Nat → St → Hp → Prop) (h0 : Pv 0 σ H) (hl : ∀ i σ H, i ≤ xs.length → Pv i σ H → SqL K H a xs)
    (hs : ∀ i x σ H, xs[i]? = some x → Pv i σ H → g x σ H fun σ2 H2 => tb { D with nx := Pv (i + 1), ct := Pv (i + 1), bk := D.nx } σ2 H2) (hd : ∀ σ H, Pv xs.length σ H → D.nx σ H) :
    ∃ W : Nat → Nat → St → Hp → Prop, (∃ m, W 0 m σ H) ∧ ∀ i m σ H, W i m σ H →
      ((Itl K a).stop i H ∧ D.nx σ H) ∨ ((Itl K a).go i H ∧ ∃ N : St → Hp → Prop, (∀ σ' H', N σ' H' → ∃ m', m' < m ∧ W (i + 1) m' σ' H') ∧ ∀ x H', (Itl K a).yld i H x H' → g x σ H' fun σ2 H2 => tb { D with nx := N, ct := N, bk := D.nx } σ2 H2) := by
  refine ⟨fun i m σ H => m = xs.length - i ∧ i ≤ xs.length ∧ Pv i σ H, ⟨xs.length, by simp, Nat.zero_le _, h0⟩, ?_⟩
  rintro i m σ H ⟨rfl, hi, p⟩
  have q := hl i σ H hi p
  by_cases hlt : i < xs.length
  · refine .inr ⟨⟨xs, xs[i], q, by simp [hlt]⟩, Pv (i + 1), fun σ' H' p' => ⟨xs.length - (i + 1), by omega, rfl, hlt, p'⟩, fun x H' y => ?_⟩
    obtain ⟨e, y⟩ := y
    subst e
    exact hs i x σ _ (y xs q) p
  · have e : i = xs.length := by omega
    subst e
    exact .inl ⟨⟨xs, q, Nat.le_refl _⟩, hd σ H p⟩
theorem for_range {lo : Int} {n : Nat} {g : TG} {tb : TS} {D : Ends} {σ : St} {H : Hp} (Pv : Nat → St → Hp → Prop) (h0 : Pv 0 σ H)
    (hs : ∀ i σ H, i < n → Pv i σ H → g (.int (lo + i)) σ H fun σ2 H2 => tb { D with nx := Pv (i + 1), ct := Pv (i + 1), bk := D.nx } σ2 H2) (hd : ∀ σ H, Pv n σ H → D.nx σ H) :
    ∃ W : Nat → Nat → St → Hp → Prop, (∃ m, W 0 m σ H) ∧ ∀ i m σ H, W i m σ H →
      ((Itr lo n).stop i H ∧ D.nx σ H) ∨ ((Itr lo n).go i H ∧ ∃ N : St → Hp → Prop, (∀ σ' H', N σ' H' → ∃ m', m' < m ∧ W (i + 1) m' σ' H') ∧ ∀ x H', (Itr lo n).yld i H x H' → g x σ H' fun σ2 H2 => tb { D with nx := N, ct := N, bk := D.nx } σ2 H2) := by
  refine ⟨fun i m σ H => m = n - i ∧ i ≤ n ∧ Pv i σ H, ⟨n, by simp, Nat.zero_le _, h0⟩, ?_⟩
  rintro i m σ H ⟨rfl, hi, p⟩
  by_cases hlt : i < n
  · refine .inr ⟨hlt, Pv (i + 1), fun σ' H' p' => ⟨n - (i + 1), by omega, rfl, hlt, p'⟩, fun x H' y => ?_⟩
    obtain ⟨e, y⟩ := y
    subst e y
    exact hs i σ _ hlt p
  · have e : i = n := by omega
    subst e
    exact .inl ⟨Nat.le_refl _, hd σ H p⟩
end L2
namespace L2
open PySem PySem.Spec PyProof.Rows
abbrev R2 := V → V → Hp → VK → Prop
def OpR (X : Cx) (f : Value → Value → Sem Value) (r : R2) : Prop :=
  ∀ (pins : List (Addr × Obj)) (s : Shared) (σ : St) (H : Hp) (x y : V) (v u : Value) (Q : VK), Inv X pins σ H s → RelV x v → RelV y u → r x y H Q →
    wpAny (model X.prog X.w) X.A (f v u) (EP X pins σ Q) X.xe s
def UnR (X : Cx) (f : Value → Sem Value) (r : V → Hp → VK → Prop) : Prop :=
  ∀ (pins : List (Addr × Obj)) (s : Shared) (σ : St) (H : Hp) (x : V) (v : Value) (Q : VK), Inv X pins σ H s → RelV x v → r x H Q →
    wpAny (model X.prog X.w) X.A (f v) (EP X pins σ Q) X.xe s
def CallR (X : Cx) (f : Value) (r : List V → Hp → VK → Prop) : Prop :=
  ∀ (pins : List (Addr × Obj)) (s : Shared) (σ : St) (H : Hp) (xs : List V) (us : List Value) (Q : VK), Inv X pins σ H s → Vals xs us → r xs H Q →
    wpAny (model X.prog X.w) X.A (call f us) (EP X pins σ Q) X.xe s
def tOp (r : R2) (ta tb : TE) : TE := fun σ H Q => ta σ H fun x H1 => tb σ H1 fun y H2 => r x y H2 Q
def tUn (r : V → Hp → VK → Prop) (ta : TE) : TE := fun σ H Q => ta σ H fun x H1 => r x H1 Q
def rI (C : Int → Int → Prop) (g : Int → Int → V) : R2 := fun x y H Q => ∃ i j, x = .int i ∧ y = .int j ∧ C i j ∧ Q (g i j) H
def rI0 (g : Int → Int → V) : R2 := fun x y H Q => ∃ i j, x = .int i ∧ y = .int j ∧ Q (g i j) H
def rU (g : Int → V) : V → Hp → VK → Prop := fun x H Q => ∃ i, x = .int i ∧ Q (g i) H
section
variable {X : Cx} {a b c : Expr} {ta tb tc : TE} {pos : Pos}
theorem binT (ha : PE X a ta) (hb : PE X b tb) {pins : List (Addr × Obj)} {s : Shared} {σ : St} {H : Hp} {R : V → V → Hp → Prop} (I : Inv X pins σ H s)
    (h : ta σ H fun x H1 => tb σ H1 fun y H2 => R x y H2) {Q : Value → Shared → Prop} {f : Value → Value → Sem Value}
    (hf : ∀ v u s2 x y H2, Inv X pins σ H2 s2 → RelV x v → RelV y u → R x y H2 → wpAny (model X.prog X.w) X.A (f v u) Q X.xe s2) :
    wpAny (model X.prog X.w) X.A (eval a X.env) (fun v s₁ => wpAny (model X.prog X.w) X.A (eval b X.env) (fun u s₂ => wpAny (model X.prog X.w) X.A (f v u) Q X.xe s₂) X.xe s₁) X.xe s := by
  refine thn (ha pins s σ H _ I h) fun v s1 ⟨x, H1, I1, r1, q1⟩ => ?_
  refine thn (hb pins s1 σ H1 _ I1 q1) fun u s2 ⟨y, H2, I2, r2, q2⟩ => ?_
  exact hf v u s2 x y H2 I2 r1 r2 q2
theorem pe_op {op : Operator} {r : R2} (ho : OpR X (binaryOp op) r) (ha : PE X a ta) (hb : PE X b tb) : PE X (.BinOp a op b pos) (tOp r ta tb) := by
  intro pins s σ H Q I h
  exact wpAny_BinOp (binT ha hb I h fun v u s2 x y H2 I2 rx ry q => ho pins s2 σ H2 x y v u Q I2 rx ry q)
theorem pe_un {op : UnaryOp} {r : V → Hp → VK → Prop} (ho : UnR X (unaryOp op) r) (ha : PE X a ta) : PE X (.UnaryOp op a pos) (tUn r ta) := by
  intro pins s σ H Q I h
  exact UnaryOp_ (thn (ha pins s σ H _ I h) fun v s1 ⟨x, H1, I1, r1, q1⟩ => ho pins s1 σ H1 x v Q I1 r1 q1)
theorem opI {f : Value → Value → Sem Value} {C : Int → Int → Prop} {g : Int → Int → Int}
    (rule : ∀ (i j : Int) (t u : Tok) (s : Shared) (Q : Value → Shared → Prop) (E : Value → Shared → Prop), C i j → Q (.int (g i j) s.toks) { s with toks := s.toks + 1 } → wpAny (model X.prog X.w) X.A (f (.int i t) (.int j u)) Q E s) :
    OpR X f (rI C fun i j => .int (g i j)) := by
  intro pins s σ H x y v u Q I rx ry h
  obtain ⟨i, j, rfl, rfl, hc, q⟩ := h
  obtain ⟨t, rfl⟩ := rx
  obtain ⟨t', rfl⟩ := ry
  exact rule i j t t' s _ _ hc ⟨.int (g i j), H, I.tok _, ⟨_, rfl⟩, q⟩
theorem opI0 {f : Value → Value → Sem Value} {g : Int → Int → Int}
    (rule : ∀ (i j : Int) (t u : Tok) (s : Shared) (Q : Value → Shared → Prop) (E : Value → Shared → Prop), Q (.int (g i j) s.toks) { s with toks := s.toks + 1 } → wpAny (model X.prog X.w) X.A (f (.int i t) (.int j u)) Q E s) :
    OpR X f (rI0 fun i j => .int (g i j)) := by
  intro pins s σ H x y v u Q I rx ry h
  obtain ⟨i, j, rfl, rfl, q⟩ := h
  obtain ⟨t, rfl⟩ := rx
  obtain ⟨t', rfl⟩ := ry
  exact rule i j t t' s _ _ ⟨.int (g i j), H, I.tok _, ⟨_, rfl⟩, q⟩
theorem opB0 {f : Value → Value → Sem Value} {g : Int → Int → Bool}
    (rule : ∀ (i j : Int) (t u : Tok) (s : Shared) (Q : Value → Shared → Prop) (E : Value → Shared → Prop), Q (.bool (g i j)) s → wpAny (model X.prog X.w) X.A (f (.int i t) (.int j u)) Q E s) :
    OpR X f (rI0 fun i j => .bl (g i j)) := by
  intro pins s σ H x y v u Q I rx ry h
  obtain ⟨i, j, rfl, rfl, q⟩ := h
  obtain ⟨t, rfl⟩ := rx
  obtain ⟨t', rfl⟩ := ry
  exact rule i j t t' s _ _ ⟨.bl (g i j), H, I, rfl, q⟩
def CPow (i j : Int) : Prop := 0 ≤ j ∧ j ≤ 1000000 ∧ i.natAbs < 2 ^ 64
def CMul (i j : Int) : Prop := (-(2 ^ 64) < i ∧ i < 2 ^ 64) ∨ (-(2 ^ 64) < j ∧ j < 2 ^ 64)
theorem CMul.ok {i j : Int} (h : CMul i j) : IntMulOk i j := by
  rcases h with ⟨h1, h2⟩ | ⟨h1, h2⟩
  · exact .of_left (intBits_le_64 h1 h2)
  · exact .of_right (intBits_le_64 h1 h2)
theorem op_add : OpR X (binaryOp .Add) (rI0 fun i j => .int (i + j)) := opI0 fun _ _ _ _ _ _ _ q => add_int q
theorem op_sub : OpR X (binaryOp .Sub) (rI0 fun i j => .int (i - j)) := opI0 fun _ _ _ _ _ _ _ q => sub_int q
theorem op_mul : OpR X (binaryOp .Mult) (rI CMul fun i j => .int (i * j)) := opI fun _ _ _ _ _ _ _ hc q => mul_int q hc.ok
theorem op_mod : OpR X (binaryOp .Mod) (rI (fun _ j => 0 < j) fun i j => .int (i % j)) := opI fun i j _ _ _ _ _ hc q => by
  have h1 : (0 : Int) < j := hc
  exact mod_int' (by omega) (by rw [Int.fmod_eq_emod_of_nonneg i (by omega)]; exact q)
theorem op_pow : OpR X (binaryOp .Pow) (rI CPow fun i j => .int (i ^ j.toNat)) := opI fun _ _ _ _ _ _ _ hc q => pow_int_small hc.1 hc.2.1 hc.2.2 q
theorem unI {f : Value → Sem Value} {g : Int → Int}
    (rule : ∀ (i : Int) (t : Tok) (s : Shared) (Q : Value → Shared → Prop) (E : Value → Shared → Prop), Q (.int (g i) s.toks) { s with toks := s.toks + 1 } → wpAny (model X.prog X.w) X.A (f (.int i t)) Q E s) :
    UnR X f (rU fun i => .int (g i)) := by
  intro pins s σ H x v Q I rx h
  obtain ⟨i, rfl, q⟩ := h
  obtain ⟨t, rfl⟩ := rx
  exact rule i t s _ _ ⟨.int (g i), H, I.tok _, ⟨_, rfl⟩, q⟩
theorem un_neg : UnR X (unaryOp .USub) (rU fun i => .int (-i)) := unI fun _ _ _ _ _ q => neg_int q
end
def scal : V → V → Bool
  | .non, .non => true | .non, .int _ => true | .int _, .non => true | .non, .bl _ => true | .bl _, .non => true | .non, .str _ => true | .str _, .non => true
  | .int _, .int _ => true | .bl _, .bl _ => true | .str _, .str _ => true | .byt _, .byt _ => true
  | .int _, .str _ => true | .str _, .int _ => true | .bl _, .str _ => true | .str _, .bl _ => true
  | _, _ => false
def rEq : R2 := fun x y H Q => scal x y = true ∧ Q (.bl (decide (x = y))) H
def rNe : R2 := fun x y H Q => scal x y = true ∧ Q (.bl (!decide (x = y))) H
theorem dec_int {i j : Int} : decide (V.int i = V.int j) = (i == j) := by
  rw [Bool.eq_iff_iff]
  simp
theorem dec_bl {i j : Bool} : decide (V.bl i = V.bl j) = (i == j) := by
  rw [Bool.eq_iff_iff]
  simp
theorem dec_str {i j : Str} : decide (V.str i = V.str j) = (i == j) := by
  rw [Bool.eq_iff_iff]
  simp
theorem dec_byt {i j : Array UInt8} : decide (V.byt i = V.byt j) = (i.toList == j.toList) := by
  rw [Bool.eq_iff_iff]
  cases i
  cases j
  simp
section
variable {X : Cx} {a b c : Expr} {ta tb tc : TE} {pos : Pos}
theorem fin_bl {pins : List (Addr × Obj)} {σ : St} {H : Hp} {s : Shared} {Q : VK} {k k' : Bool} (I : Inv X pins σ H s) (q : Q (.bl k) H) (e : k = k') : EP X pins σ Q (.bool k') s := by
  subst e
  exact ⟨.bl k, H, I, rfl, q⟩
theorem op_eq : OpR X (compareOp .Eq) rEq := by
  intro pins s σ H x y v u Q I rx ry h
  obtain ⟨hs, q⟩ := h
  cases x with
  | non =>
    cases rx
    cases y with
    | non => cases ry; exact PySem.EqNone.eq_none_none (fin_bl I q (by simp))
    | bl j => cases ry; exact PySem.EqNone.eq_none_bool (fin_bl I q (by simp))
    | int j => obtain ⟨t', rfl⟩ := ry; exact PySem.EqNone.eq_none_int (fin_bl I q (by simp))
    | str j => obtain ⟨t', rfl⟩ := ry; exact PySem.EqNone.eq_none_str (fin_bl I q (by simp))
    | _ => exact absurd (show false = true from hs) Bool.false_ne_true
  | bl i =>
    cases rx
    cases y with
    | non => cases ry; exact PySem.EqNone.eq_bool_none (fin_bl I q (by simp))
    | bl j => cases ry; exact eq_bool (fin_bl I q dec_bl)
    | str j => obtain ⟨t', rfl⟩ := ry; exact PySem.EqMixed.eq_bool_str (fin_bl I q (by simp))
    | _ => exact absurd (show false = true from hs) Bool.false_ne_true
  | int i =>
    obtain ⟨t, rfl⟩ := rx
    cases y with
    | non => cases ry; exact PySem.EqNone.eq_int_none (fin_bl I q (by simp))
    | int j => obtain ⟨t', rfl⟩ := ry; exact eq_int (fin_bl I q dec_int)
    | str j => obtain ⟨t', rfl⟩ := ry; exact PySem.EqMixed.eq_int_str (fin_bl I q (by simp))
    | _ => exact absurd (show false = true from hs) Bool.false_ne_true
  | str i =>
    obtain ⟨t, rfl⟩ := rx
    cases y with
    | non => cases ry; exact PySem.EqNone.eq_str_none (fin_bl I q (by simp))
    | bl j => cases ry; exact PySem.EqMixed.eq_str_bool (fin_bl I q (by simp))
    | int j => obtain ⟨t', rfl⟩ := ry; exact PySem.EqMixed.eq_str_int (fin_bl I q (by simp))
    | str j => obtain ⟨t', rfl⟩ := ry; exact eq_str (fin_bl I q dec_str)
    | _ => exact absurd (show false = true from hs) Bool.false_ne_true
  | byt i =>
    obtain ⟨t, rfl⟩ := rx
    cases y with
    | byt j => obtain ⟨t', rfl⟩ := ry; exact PySem.W.eq_bytes (fin_bl I q dec_byt)
    | _ => exact absurd (show false = true from hs) Bool.false_ne_true
  | _ => cases y <;> exact absurd (show false = true from hs) Bool.false_ne_true
theorem op_ne : OpR X (compareOp .NotEq) rNe := by
  intro pins s σ H x y v u Q I rx ry h
  obtain ⟨hs, q⟩ := h
  cases x with
  | non =>
    cases rx
    cases y with
    | non => cases ry; exact PySem.EqNone.ne_none_none (fin_bl I q (by simp))
    | bl j => cases ry; exact PySem.EqNone.ne_none_bool (fin_bl I q (by simp))
    | int j => obtain ⟨t', rfl⟩ := ry; exact PySem.EqNone.ne_none_int (fin_bl I q (by simp))
    | str j => obtain ⟨t', rfl⟩ := ry; exact PySem.EqNone.ne_none_str (fin_bl I q (by simp))
    | _ => exact absurd (show false = true from hs) Bool.false_ne_true
  | bl i =>
    cases rx
    cases y with
    | non => cases ry; exact PySem.EqNone.ne_bool_none (fin_bl I q (by simp))
    | bl j => cases ry; exact ne_bool (fin_bl I q (congrArg not dec_bl))
    | str j => obtain ⟨t', rfl⟩ := ry; exact PySem.EqMixed.ne_bool_str (fin_bl I q (by simp))
    | _ => exact absurd (show false = true from hs) Bool.false_ne_true
  | int i =>
    obtain ⟨t, rfl⟩ := rx
    cases y with
    | non => cases ry; exact PySem.EqNone.ne_int_none (fin_bl I q (by simp))
    | int j => obtain ⟨t', rfl⟩ := ry; exact ne_int (fin_bl I q (congrArg not dec_int))
    | str j => obtain ⟨t', rfl⟩ := ry; exact PySem.EqMixed.ne_int_str (fin_bl I q (by simp))
    | _ => exact absurd (show false = true from hs) Bool.false_ne_true
  | str i =>
    obtain ⟨t, rfl⟩ := rx
    cases y with
    | non => cases ry; exact PySem.EqNone.ne_str_none (fin_bl I q (by simp))
    | bl j => cases ry; exact PySem.EqMixed.ne_str_bool (fin_bl I q (by simp))
    | int j => obtain ⟨t', rfl⟩ := ry; exact PySem.EqMixed.ne_str_int (fin_bl I q (by simp))
    | str j => obtain ⟨t', rfl⟩ := ry; exact ne_str (fin_bl I q (congrArg not dec_str))
    | _ => exact absurd (show false = true from hs) Bool.false_ne_true
  | byt i =>
    obtain ⟨t, rfl⟩ := rx
    cases y with
    | byt j => obtain ⟨t', rfl⟩ := ry; exact PySem.W.ne_bytes (fin_bl I q (congrArg not dec_byt))
    | _ => exact absurd (show false = true from hs) Bool.false_ne_true
  | _ => cases y <;> exact absurd (show false = true from hs) Bool.false_ne_true
theorem op_lt : OpR X (compareOp .Lt) (rI0 fun i j => .bl (decide (i < j))) := opB0 fun _ _ _ _ _ _ _ q => lt_int q
theorem op_gt : OpR X (compareOp .Gt) (rI0 fun i j => .bl (decide (j < i))) := opB0 fun _ _ _ _ _ _ _ q => gt_int q
theorem op_ge : OpR X (compareOp .GtE) (rI0 fun i j => .bl (decide (j ≤ i))) := opB0 fun _ _ _ _ _ _ _ q => ge_int q
theorem nomark (b : Expr) {op : CmpOp} (h : op ≠ .In := by decide) (h2 : op ≠ .NotIn := by decide) : behindInMarks op b = false := by
  have e1 : (op == CmpOp.In) = false := by cases op <;> first | rfl | exact absurd rfl h
  have e2 : (op == CmpOp.NotIn) = false := by cases op <;> first | rfl | exact absurd rfl h2
  cases b <;> simp [behindInMarks, e1, e2]
theorem pe_cmpR {op : CmpOp} {r : R2} (ho : OpR X (compareOp op) r) (ha : PE X a ta) (hb : PE X b tb) (hm : behindInMarks op b = false) : PE X (.Compare a [op] [b] pos) (tOp r ta tb) := by
  intro pins s σ H Q I h
  exact wpAny_Compare1 (binT ha hb I h fun v u s2 x y H2 I2 rx ry q => ho pins s2 σ H2 x y v u Q I2 rx ry q) hm
def tTest (t : TE) : TT := fun σ H Q => t σ H fun x H' => ∃ k, x = .bl k ∧ Q k H'
theorem pt_cmpR {op : CmpOp} {r : R2} (ho : OpR X (compareOp op) r) (ha : PE X a ta) (hb : PE X b tb) (hm : behindInMarks op b = false) : PT X (.Compare a [op] [b] pos) (tTest (tOp r ta tb)) := by
  intro pins s σ H Q I h
  refine wpAny_isTrue_Compare1 (thn (ha pins s σ H _ I h) fun v s1 ⟨x, H1, I1, r1, q1⟩ => thn (hb pins s1 σ H1 _ I1 q1) fun u s2 ⟨y, H2, I2, r2, q2⟩ =>
    thn (ho pins s2 σ H2 x y v u _ I2 r1 r2 q2) fun c s3 ⟨z, H3, I3, r3, k, e, q3⟩ => ?_) hm
  subst e
  cases r3
  exact wpAny_truthy_bool ⟨H3, I3, q3⟩
theorem line63 : (sizeLine : Nat) < 2 ^ 63 := by rw [sizeLine_eq]; decide
theorem vals1 {x : V} {us : List Value} (r : Vals [x] us) : ∃ u, us = [u] ∧ RelV x u := by
  cases r with
  | cons r1 r2 => cases r2; exact ⟨_, rfl, r1⟩
theorem vals2 {x y : V} {us : List Value} (r : Vals [x, y] us) : ∃ u w', us = [u, w'] ∧ RelV x u ∧ RelV y w' := by
  cases r with
  | cons r1 r2 =>
    cases r2 with
    | cons r3 r4 => cases r4; exact ⟨_, _, rfl, r1, r3⟩
theorem call_abs : CallR X (.builtin "abs") (fun xs H Q => ∃ i, xs = [.int i] ∧ Q (.int (if i < 0 then -i else i)) H) := by
  intro pins s σ H xs us Q I r h
  obtain ⟨i, rfl, q⟩ := h
  obtain ⟨u, rfl, t, rfl⟩ := vals1 r
  exact call_abs_int fun u tk => ⟨.int (if i < 0 then -i else i), H, I.tok _, ⟨_, rfl⟩, q⟩
theorem call_max2 (hc : X.calm = true) : CallR X (.builtin "max") (fun xs H Q => ∃ i j, xs = [.int i, .int j] ∧ Q (.int (if j > i then j else i)) H) := by
  intro pins s σ H xs us Q I r h
  obtain ⟨i, j, rfl, q⟩ := h
  obtain ⟨u, w', rfl, ⟨t, rfl⟩, ⟨t', rfl⟩⟩ := vals2 r
  refine max_two_ints (I.ok.hd hc) fun h' tk k => ⟨_, H, I.kept k, ?_, q⟩
  by_cases hj : j > i
  · rw [if_pos hj, if_pos hj]; exact ⟨_, rfl⟩
  · rw [if_neg hj, if_neg hj]; exact ⟨_, rfl⟩
theorem call_min2 (hc : X.calm = true) : CallR X (.builtin "min") (fun xs H Q => ∃ i j, xs = [.int i, .int j] ∧ Q (.int (if j < i then j else i)) H) := by
  intro pins s σ H xs us Q I r h
  obtain ⟨i, j, rfl, q⟩ := h
  obtain ⟨u, w', rfl, ⟨t, rfl⟩, ⟨t', rfl⟩⟩ := vals2 r
  refine min_two_ints (I.ok.hd hc) fun h' tk k => ⟨_, H, I.kept k, ?_, q⟩
  by_cases hj : j < i
  · rw [if_pos hj, if_pos hj]; exact ⟨_, rfl⟩
  · rw [if_neg hj, if_neg hj]; exact ⟨_, rfl⟩
end
end L2
namespace L2
open PySem PySem.Spec PyProof.Rows
structure ObjM (h : Heap) (x dx C : Addr) (mA : Str → Option Value) : Prop where
  obj : h.get? x = some (PySem.W.instObj C dx)
  ns : h.Ns1 dx mA
  ne : dx ≠ x
section
variable {prog : Program} {w : World} {A : Around} {E : Value → Shared → Prop} {s : Shared} {K : PySem.W.Frag} {x dx C f : Addr} {mA : Str → Option Value} {name : Str} {v : Value}
end
section
variable {P : Program} {w : World} {H H' : Hp} {h h' : Heap} {a C dx : Addr} {fs fs' : List (Str × V)}
end
structure Cls (K : PySem.W.Frag) (C : Addr) : Prop where
  pg : PySem.W.plainGet K C Str.empty = true
  hd : PySem.W.hasDictIn K C = true
  po : PySem.W.plainOver K C = true
  sa : PySem.W.findIn K (.ref C) "__setattr__" = some (some (.builtin "object.__setattr__"))
theorem Cls.get {K : PySem.W.Frag} {C : Addr} (c : Cls K C) (f : Str) : PySem.W.plainGet K C f = true := c.pg
structure Con (K : PySem.W.Frag) (C : Addr) (f : Str) (v : V) (u : Value) : Prop where
  at_ : PySem.W.findIn K (.ref C) f = some (some u)
  rel : RelV v u
  get : PySem.W.specialIn K u "__get__" = some none
  cp : PySem.W.copiedNames.contains f = false
structure Meth (K : PySem.W.Frag) (C : Addr) (m : Str) (f : Addr) : Prop where
  at_ : PySem.W.findIn K (.ref C) m = some (some (.ref f))
  fn : PySem.W.isFn K (.ref f) = true
  kp : PySem.W.keepIn K (.ref f) = true
section
variable {X : Cx} {pins : List (Addr × Obj)} {σ : St} {H : Hp} {s : Shared} {a C dx : Addr} {fs : List (Str × V)} {f : Str} {v : V} {A : Around} {E : Value → Shared → Prop}
end
section
variable {X : Cx} {o e value : Expr} {f : Str} {pos pos' tpos : Pos} {ta tv : TE}
end
section
variable {X : Cx} {pins : List (Addr × Obj)} {σ : St} {H : Hp} {s : Shared} {A : Around} {E : Value → Shared → Prop} {Q : Value → Shared → Prop} {c : Value} {b : Bool}
inductive TyOf (K : PySem.W.Frag) (H : Hp) : V → Value → Prop where
  | non : TyOf K H .non (.type "NoneType")
  | bl (x : Bool) : TyOf K H (.bl x) (.type "bool")
  | int (i : Int) : TyOf K H (.int i) (.type "int")
  | str (x : Str) : TyOf K H (.str x) (.type "str")
  | flt (x : UInt64) : TyOf K H (.flt x) (.type "float")
  | lst {a : Addr} {xs : List V} (e : H a = some (.lst xs)) : TyOf K H (.ref a) (.type "list")
  | frz {a : Addr} {o : Obj} {xs : List V} (e : H a = some (.frz o (.lst xs))) : TyOf K H (.ref a) (.type "list")
  | tup {a : Addr} {xs : List V} (e : H a = some (.tup xs)) : TyOf K H (.ref a) (.type "tuple")
  | dK {a : Addr} {kvs : List (Key × V)} (e : H a = some (.dK kvs)) : TyOf K H (.ref a) (.type "dict")
  | dT {a : Addr} {kvs : List (List Key × V)} (e : H a = some (.dT kvs)) : TyOf K H (.ref a) (.type "dict")
  | ins {a C dx : Addr} {fs : List (Str × V)} (e : H a = some (.ins C dx fs)) (cl : Cls K C) (ha : PySem.W.findIn K (.ref C) "__class__" = some (some (.builtin "object.__class__")))
      (hn : PySem.W.specialIn K (.builtin "object.__class__") "__get__" = some (some (.builtin "getset_descriptor.__get__"))) (htk : PySem.W.takesIn K (.builtin "object.__class__") = some true)
      (hm : PySem.W.mroIn K C (.type "object") = some true) : TyOf K H (.ref a) (.ref C)
end
end L2
namespace L2
open PySem PySem.Spec PyProof.Rows
structure Room (k : Nat) (A : Around) : Prop where
  hd : A.handled = none
  dp : A.depth + 3 * k + 5 < recursionLimit
  un : A.units + 16 * k + 200 < cLine
theorem Room.mono {j k : Nat} {A : Around} (r : Room k A) (h : j ≤ k) : Room j A := ⟨r.hd, by have := r.dp; omega, by have := r.un; omega⟩
theorem Room.deeper {k : Nat} {A : Around} (r : Room (k + 1) A) (env : Env) : Room k (A.deeper env) :=
  ⟨r.hd, by have := r.dp; show A.depth + 1 + 3 * k + 5 < _; omega, by have := r.un; show A.units + 3 + 16 * k + 200 < _; omega⟩
theorem Room.in1 {k : Nat} {A : Around} (r : Room (k + 1) A) : Room k A.in1 :=
  ⟨r.hd, by have := r.dp; show A.depth + 3 * k + 5 < _; omega, by have := r.un; show A.units + 1 + 16 * k + 200 < _; omega⟩
theorem Room.depth {k : Nat} {A : Around} (r : Room k A) : A.depth < recursionLimit := by have := r.dp; omega
theorem Room.units {k : Nat} {A : Around} (r : Room k A) : A.units + 64 < cLine := by have := r.un; omega
def tNil : TA := fun _ H Q => Q [] H
def tCons (ta : TE) (tr : TA) : TA := fun σ H Q => ta σ H fun x H1 => tr σ H1 fun xs H2 => Q (x :: xs) H2
section
variable {X : Cx} {e : Expr} {es : List Expr} {te : TE} {t : TA} {pos : Pos}
theorem pa_nil : PA X [] tNil := fun _ _ _ _ H Q I h => Calls.spliced_nil ⟨[], H, I, .nil, h⟩
theorem pa_cons (ha : PE X e te) (hr : PA X es t) (hs : starEach (e :: es) X.env = (false, eval e X.env) :: starEach es X.env := by rfl) : PA X (e :: es) (tCons te t) := by
  intro pos pins s σ H Q I h
  rw [hs]
  show wpAny _ _ (spliced ((false, eval e X.env) :: backTo pos (starEach es X.env))) _ _ s
  refine Calls.spliced_cons (thn (ha pins s σ H _ I h) fun u s1 ⟨x, H1, I1, r1, q1⟩ => ?_)
  exact thn (hr pos pins s1 σ H1 _ I1 q1) fun us s2 ⟨xs, H2, I2, r2, q2⟩ => ⟨x :: xs, H2, I2, .cons r1 r2, q2⟩
def tTup (t : TA) : TE := fun σ H Q => t σ H fun xs H1 => xs.length ≤ sizeLine ∧ ∀ p, H1 p = none → Q (.ref p) (upd H1 p (.tup xs))
def tLst (t : TA) : TE := fun σ H Q => t σ H fun xs H1 => xs.length ≤ sizeLine ∧ ∀ p, H1 p = none → Q (.ref p) (upd H1 p (.lst xs))
theorem pe_tup {x1} (h : PA X es t) : PE X (.Tuple es x1 pos) (tTup t) := by
  intro pins s σ H Q I hq
  refine wpAny_Tuple_spliced (thn (h pos pins s σ H _ I hq) fun us s1 ⟨xs, H1, I1, r, z, q⟩ => ⟨by rw [← r.length]; exact z, ?_⟩)
  have hf : H1 s1.heap.objs.size = none := I1.hok.fresh (Nat.le_refl _)
  refine ⟨.ref s1.heap.objs.size, upd H1 s1.heap.objs.size (.tup xs), I1.laid (t' := s1.toks) (fun b u e => Heap.get?_push_of_some _ e) (Nat.le_refl _) ?_, rfl, q _ hf⟩
  exact ⟨z, us, r, ⟨_, Heap.get?_push_size _ rfl, rfl, _, rfl⟩⟩
theorem pe_lst (h : PA X es t) : PE X (.List es pos) (tLst t) := by
  intro pins s σ H Q I hq
  refine wpAny_List_spliced (thn (h pos pins s σ H _ I hq) fun us s1 ⟨xs, H1, I1, r, z, q⟩ => ⟨by rw [← r.length]; exact z, ?_⟩)
  have hf : H1 s1.heap.objs.size = none := I1.hok.fresh (Nat.le_refl _)
  refine ⟨.ref s1.heap.objs.size, upd H1 s1.heap.objs.size (.lst xs), I1.laid (t' := s1.toks) (fun b u e => Heap.get?_push_of_some _ e) (Nat.le_refl _) ?_, rfl, q _ hf⟩
  exact ⟨z, us, 0, r, Heap.get?_push_size _ rfl⟩
end
abbrev Sp := List V → Hp → VK → XK → Prop
abbrev CXT := List Env → Hp → Shared → XK → Value → Shared → Prop
structure Env0 (P : Program) (w : World) (K : PySem.W.Frag) (mg : Str → Option Value) (base : Heap) (A : Around) (outer : List Env) (s : Shared) (H : Hp) : Prop where
  frames : A.frames = some outer
  mod : Mod K mg base
  bs : ∀ b o, base.get? b = some o → s.heap.get? b = some o ∧ H b = none
  bsz : base.objs.size ≤ s.heap.objs.size
  funs : s.heap.FunFrames base outer
  frf : ∀ b ∈ frs outer, H b = none
  hok : HOk P w H s.heap
  bare : AllBare s.gens
def CE (outer : List Env) (P : Program) (w : World) (H : Hp) (s : Shared) (Q : VK) (u : Value) (s' : Shared) : Prop :=
  ∃ v H', s'.os = s.os ∧ AllBare s'.gens ∧ Un (frs outer) [] H H' s.heap s'.heap ∧ HOk P w H' s'.heap ∧ RelV v u ∧ Q v H'
def CR (CX : CXT) (outer : List Env) (P : Program) (w : World) (H : Hp) (s : Shared) (Q : VK) (E : XK) (r : Result) (s' : Shared) : Prop :=
  match r with
  | .ok (.ret u) => CE outer P w H s Q u s'
  | .ok _ => False
  | .error e => CX outer H s E e s'
structure FnOk (P : Program) (w : World) (K : PySem.W.Frag) (mg : Str → Option Value) (base : Heap) (CX : CXT) (k : Nat) (f : Addr) (fd : FuncData) (ps : List Str) (sp : Sp) : Prop where
  len : ∀ vs H Q E, sp vs H Q E → vs.length = ps.length
  run : ∀ (A : Around) (outer : List Env) (s : Shared) (H : Hp) (args : Args) (us : List Value) (vs : List V) (Q : VK) (E : XK), Room k A → Env0 P w K mg base A outer s H → BindsTo s fd args (ps.zip us) → Vals vs us → sp vs H Q E →
    codeAny (model P w) A (.call (.ref f) args) (CR CX outer P w H s Q E) s
theorem FnOk.mono {P : Program} {w : World} {K : PySem.W.Frag} {mg : Str → Option Value} {base : Heap} {CX : CXT} {j k : Nat} {f : Addr} {fd : FuncData} {ps : List Str} {sp : Sp} (F : FnOk P w K mg base CX j f fd ps sp) (h : j ≤ k) :
    FnOk P w K mg base CX k f fd ps sp := ⟨F.len, fun A outer s H args us vs Q E hr => F.run A outer s H args us vs Q E (hr.mono h)⟩
theorem FnOk.imp {P : Program} {w : World} {K : PySem.W.Frag} {mg : Str → Option Value} {base : Heap} {CX : CXT} {k : Nat} {f : Addr} {fd : FuncData} {ps : List Str} {sp sp' : Sp} (F : FnOk P w K mg base CX k f fd ps sp)
    (h : ∀ vs H Q E, sp' vs H Q E → sp vs H Q E) : FnOk P w K mg base CX k f fd ps sp' :=
  ⟨fun vs H Q E q => F.len vs H Q E (h _ _ _ _ q), fun A outer s H args us vs Q E hr he hb hv hs => F.run A outer s H args us vs Q E hr he hb hv (h _ _ _ _ hs)⟩
theorem Env0.in1 {P : Program} {w : World} {K : PySem.W.Frag} {mg : Str → Option Value} {base : Heap} {A : Around} {outer : List Env} {s : Shared} {H : Hp} (e : Env0 P w K mg base A outer s H) :
    Env0 P w K mg base A.in1 outer s H := ⟨e.frames, e.mod, e.bs, e.bsz, e.funs, e.frf, e.hok, e.bare⟩
section
variable {X : Cx} {pins : List (Addr × Obj)} {σ : St} {H : Hp} {s s' : Shared}
theorem Inv.env0 (I : Inv X pins σ H s) : Env0 X.prog X.w X.K X.mg X.base X.A X.stack s H :=
  ⟨I.ok.frames, I.ok.mod, I.bs, Nat.le_trans I.ok.bsz I.sz, I.stack, I.stkFree, I.hok, I.bare⟩
theorem Inv.after {Q : VK} {u : Value} (I : Inv X pins σ H s) (h : CE X.stack X.prog X.w H s Q u s') : EP X pins σ Q u s' := by
  obtain ⟨v, H', os, bare, un, hok, r, q⟩ := h
  obtain ⟨hh, g, d, t, os'⟩ := s'
  obtain rfl : os' = s.os := os
  exact ⟨v, H', I.call (h' := hh) (g' := g) (d' := d) (t' := t) (ch := []) un hok bare (fun b z => absurd z (by simp)), r, q⟩
end
def tCall (sp : Sp) (dvs : List V) (E : XK) (t : TA) : TE := fun σ H Q => t σ H fun vs H1 => sp (vs ++ dvs) H1 Q E
def Binds (K : PySem.W.Frag) (fd : FuncData) (ps : List Str) (ds : List Value) : Prop :=
  ∀ (s : Shared) (us : List Value), K.In s.heap → (us ++ ds).length = ps.length → BindsTo s fd ⟨us, []⟩ (ps.zip (us ++ ds))
theorem Binds.all {K : PySem.W.Frag} {fd : FuncData} {ps : List Str} (h : ∀ us : List Value, us.length = ps.length → bindArgs fd ⟨us, []⟩ = pure (ps.zip us)) : Binds K fd ps [] := fun s us _ hl => by
  rw [List.append_nil] at hl ⊢
  exact .of_eq (h us hl)
def Passes (CX : CXT) (X : Cx) (E : XK) : Prop := ∀ (pins : List (Addr × Obj)) (σ : St) (H : Hp) (s : Shared) (e : Value) (s' : Shared), Inv X pins σ H s → CX X.stack H s E e s' → X.xe e s'
section
variable {X : Cx} {CX : CXT} {k : Nat} {f C : Addr} {fd : FuncData} {ps : List Str} {sp : Sp} {dvs : List V} {ds : List Value} {E : XK} {x m : Str} {p pos apos : Pos} {e o : Expr} {es : List Expr} {ta : TE} {t : TA}
theorem run_fn {pins : List (Addr × Obj)} {σ : St} {H : Hp} {s : Shared} {Q : VK} {us : List Value} {vs : List V} (F : FnOk X.prog X.w X.K X.mg X.base CX k f fd ps sp) (hr : Room k X.A) (hb : Binds X.K fd ps ds) (hd : Vals dvs ds) (hx : Passes CX X E)
    (I : Inv X pins σ H s) (r : Vals vs us) (h : sp (vs ++ dvs) H Q E) : wpAny (model X.prog X.w) X.A (call (.ref f) us) (EP X pins σ Q) X.xe s := by
  have r2 : Vals (vs ++ dvs) (us ++ ds) := r.append hd
  have hl : (us ++ ds).length = ps.length := by rw [← r2.length]; exact F.len _ _ _ _ h
  refine wpAny_call (codeAny_mono (F.run X.A X.stack s H ⟨us, []⟩ (us ++ ds) (vs ++ dvs) Q E hr I.env0 (hb s us I.kIn hl) r2 h) fun r s' hq => ?_)
  cases r with
  | error e => exact hx pins σ H s e s' I hq
  | ok fl =>
    cases fl with
    | ret u => exact I.after hq
    | next => exact False.elim hq
    | brk => exact False.elim hq
    | cont => exact False.elim hq
theorem pe_call (F : FnOk X.prog X.w X.K X.mg X.base CX k f fd ps sp) (hr : Room k X.A) (hg : Gl X x) (hm : X.mg x = some (.ref f)) (hk : PySem.W.keepIn X.K (.ref f) = true) (hb : Binds X.K fd ps ds) (hd : Vals dvs ds) (hx : Passes CX X E)
    (ha : PA X (e :: es) t) (hdb : (x == ("__debug__" : Str)) = false := by decide) (he : starEach (e :: es) X.env = (false, eval e X.env) :: starEach es X.env := by rfl) (hpl : (backTo pos (starEach es X.env)).any (·.1) = false := by rfl) :
    PE X (.Call (.Name x p) (e :: es) [] pos) (tCall sp dvs E t) := by
  intro pins s σ H Q I h
  refine wpAny_Call_Name_kw (ld_glob I hg hm ?_ hdb)
  refine PySem.W.callWith_K (h₀ := X.base) I.ok.mod.kin hk (thn (ha pos pins s σ H _ I h) fun us s1 ⟨vs, H1, I1, r, q⟩ => ⟨I1.kIn, ?_⟩) he hpl
  exact run_fn F hr hb hd hx I1 r q
structure Mk (K : PySem.W.Frag) (C f : Addr) : Prop where
  makes : PySem.W.makesIn K C = true
  init : PySem.W.findIn K (.ref C) "__init__" = some (some (.ref f))
  fn : PySem.W.isFn K (.ref f) = true
  kp : PySem.W.keepIn K (.ref C) = true
end
section
variable {X : Cx} {CX : CXT} {k : Nat} {f C : Addr} {fd : FuncData} {ps ks : List Str} {sp : Sp} {E : XK} {x m : Str} {p pos apos kpos : Pos} {e o : Expr} {es : List Expr} {kws : List Keyword} {te ta : TE} {t tk : TA} {nm : Option Str}
structure KBinds (K : PySem.W.Frag) (fd : FuncData) (ps ks : List Str) (g : List Value → List Value → List Value) (gV : List V → List V → List V) : Prop where
  to : ∀ (s : Shared) (us ws : List Value), K.In s.heap → (g us ws).length = ps.length → BindsTo s fd ⟨us, ks.zip ws⟩ (ps.zip (g us ws))
  rel : ∀ {vs : List V} {us : List Value} {zs : List V} {ws : List Value}, Vals vs us → Vals zs ws → Vals (gV vs zs) (g us ws)
variable {g : List Value → List Value → List Value} {gV : List V → List V → List V}
end
structure FnScope (N P : List Str) (sc : Scope) : Prop where
  kind : sc.kind = .function
  co : sc.isCoroutine = false
  gen : sc.isGenerator = false
  nd : N.Nodup
  pre : N.take P.length = P
  par : ∀ x ∈ P, sc.names.lookup x = some .local ∨ sc.names.lookup x = some .cell
  nofree : ∀ y ∈ sc.names, y.2 ≠ .free
theorem bindL_out {kindOf : Str → Option NameKind} {x : Str} : ∀ {binds : List (Str × Value)} {m : Str → Option Value}, (∀ v, (x, v) ∉ binds) → bindL kindOf binds m x = m x
  | [], _, _ => rfl
  | (n, v) :: r, m, h => by
    unfold bindL
    rw [bindL_out fun w hw => h w (List.mem_cons_of_mem _ hw)]
    split
    · have : x ≠ n := by rintro rfl; exact h v List.mem_cons_self
      simp [this]
    · rfl
theorem bindC_out {kindOf : Str → Option NameKind} {x : Str} : ∀ {binds : List (Str × Value)} {m : Str → Option Value}, (∀ v, (x, v) ∉ binds) → bindC kindOf binds m x = m x
  | [], _, _ => rfl
  | (n, v) :: r, m, h => by
    unfold bindC
    rw [bindC_out fun w hw => h w (List.mem_cons_of_mem _ hw)]
    split
    · rfl
    · have : x ≠ n := by rintro rfl; exact h v List.mem_cons_self
      simp [this]
theorem bindL_get {kindOf : Str → Option NameKind} {x : Str} {v : Value} : ∀ {P : List Str} {vs : List Value} {i : Nat} {m : Str → Option Value}, P.Nodup → P[i]? = some x → vs[i]? = some v → kindOf x = some .local →
    bindL kindOf (P.zip vs) m x = some v
  | [], _, _, _, _, h, _, _ => by simp at h
  | _ :: _, [], _, _, _, _, h, _ => by simp at h
  | p :: P, w :: vs, 0, m, nd, h1, h2, hk => by
    simp at h1 h2; subst h1; subst h2
    show bindL kindOf ((p, w) :: P.zip vs) m p = _
    unfold bindL
    rw [bindL_out fun v hv => (List.nodup_cons.mp nd).1 (List.of_mem_zip hv).1, if_pos hk]
    simp
  | p :: P, w :: vs, i + 1, m, nd, h1, h2, hk => by
    show bindL kindOf ((p, w) :: P.zip vs) m x = _
    unfold bindL
    exact bindL_get (i := i) (List.nodup_cons.mp nd).2 (by simpa using h1) (by simpa using h2) hk
theorem bindC_get {kindOf : Str → Option NameKind} {x : Str} {v : Value} : ∀ {P : List Str} {vs : List Value} {i : Nat} {m : Str → Option Value}, P.Nodup → P[i]? = some x → vs[i]? = some v → kindOf x ≠ some .local →
    bindC kindOf (P.zip vs) m x = some v
  | [], _, _, _, _, h, _, _ => by simp at h
  | _ :: _, [], _, _, _, _, h, _ => by simp at h
  | p :: P, w :: vs, 0, m, nd, h1, h2, hk => by
    simp at h1 h2; subst h1; subst h2
    show bindC kindOf ((p, w) :: P.zip vs) m p = _
    unfold bindC
    rw [bindC_out fun v hv => (List.nodup_cons.mp nd).1 (List.of_mem_zip hv).1, if_neg hk]
    simp
  | p :: P, w :: vs, i + 1, m, nd, h1, h2, hk => by
    show bindC kindOf ((p, w) :: P.zip vs) m x = _
    unfold bindC
    exact bindC_get (i := i) (List.nodup_cons.mp nd).2 (by simpa using h1) (by simpa using h2) hk
def start (N : List Str) (vs : List V) : St := vs.map some ++ List.replicate (N.length - vs.length) none
def cxOf (CX : CXT) (P : Program) (w : World) (K : PySem.W.Frag) (mg : Str → Option Value) (base : Heap) (N : List Str) (qual : Str) (scope : Scope) (f : Addr) (cd : Value) (A : Around) (outer : List Env) (s : Shared) (H : Hp) (E : XK) : Cx where
  prog := P
  w := w
  K := K
  mg := mg
  base := base
  A := A.deeper (envOfC qual scope s.heap.objs.size f cd)
  N := N
  s₀ := s
  H₀ := H
  env := envOfC qual scope s.heap.objs.size f cd
  outer := outer
  stack := envOfC qual scope s.heap.objs.size f cd :: outer
  ex := []
  calm := true
  fn := fun _ => true
  pn := []
  xe := fun e s' => wpAny (model P w) (A.deeper (envOfC qual scope s.heap.objs.size f cd)) (leaving (envOfC qual scope s.heap.objs.size f cd) e) (fun _ s'' => CX outer H s E e s'') (fun e' s'' => CX outer H s E e' s'') s'
theorem cell_has {sc : Scope} {n : Nat} {x : Str} (h : sc.names.lookup x = some .cell) : ∃ c, (cellsFrom n sc.names []).lookup x = some c := by
  have q := PySem.W.cellsFrom_some sc.names n [] (.inl h)
  exact Option.isSome_iff_exists.mp q
theorem inv_start {CX : CXT} {P : Program} {w : World} {K : PySem.W.Frag} {mg : Str → Option Value} {base : Heap} {N ps : List Str} {qual : Str} {scope : Scope} {f : Addr} {cd : Value} {A : Around} {outer : List Env} {s s1 : Shared} {H : Hp} {E : XK} {us : List Value} {vs : List V}
    (S : FnScope N ps scope) (hd : A.handled = none) (e0 : Env0 P w K mg base A outer s H) (hl : vs.length = ps.length) (r : Vals vs us)
    (x : InCallC s s.heap.objs.size (bindL (envOfC qual scope s.heap.objs.size f cd).kindOf (ps.zip us) fun _ => none) (cellsFrom (s.heap.objs.size + 1) scope.names []) (bindC (envOfC qual scope s.heap.objs.size f cd).kindOf (ps.zip us) fun _ => none) s1) :
    Inv (cxOf CX P w K mg base N qual scope f cd A outer s H E) [] (start N vs) H s1 := by
  have hpl : ps.length ≤ N.length := by have := congrArg List.length S.pre; rw [List.length_take] at this; omega
  obtain ⟨h1, tk, rfl, hk⟩ := x.done
  have noA : ∀ b : Addr, b ∉ (cxOf CX P w K mg base N qual scope f cd A outer s H E).ex := fun b z => absurd (show b ∈ ([] : List Addr) from z) (by simp)
  refine ⟨⟨e0.mod, S.kind, rfl, rfl, Nat.le_refl _, fun y z c h1 h2 => ?_, fun y hy => ?_, fun y c _ h => ?_, fun _ => hd, Around.frames_deeper e0.frames, .inr ⟨rfl, rfl⟩, fun b z => absurd z (noA b), e0.bs, e0.bsz, fun b _ _ => noA b, fun b z => absurd z (noA b), e0.funs, e0.frf⟩,
    rfl, e0.bare, Un.kept hk, ⟨_, x.toInCall.ns, fun i y v h1 h2 h3 => ?_⟩, fun y c h => ⟨_, x.cell y c h⟩, e0.hok.fresh (Nat.le_refl _), fun y c h => ?_, fun p hp => absurd (show p ∈ ([] : List (Addr × Obj)) from hp) (by simp), e0.hok.kept hk, ?_⟩
  · exact name_of_addr x.apart (PySem.mem_of_lookup h1) (PySem.mem_of_lookup h2)
  · have hy : scope.names.lookup y = some .cell ∨ scope.names.lookup y = some .free := hy
    rcases hy with hy | hy
    · exact cell_has hy
    · exact absurd rfl (S.nofree _ (PySem.mem_of_lookup hy))
  · exact Nat.le_of_lt (x.above y c (PySem.mem_of_lookup h))
  · have hi : i < vs.length := by
      unfold start at h2
      by_cases hi : i < vs.length
      · exact hi
      · rw [List.getElem?_append_right (by simpa using hi)] at h2
        rw [List.getElem?_replicate] at h2
        split at h2 <;> cases h2
    have ha : vs[i]? = some v := by
      unfold start at h2
      rw [List.getElem?_append_left (by simpa using hi), List.getElem?_map] at h2
      cases e : vs[i]? with
      | none => rw [e] at h2; cases h2
      | some a => rw [e] at h2; cases h2; rfl
    obtain ⟨u, hu, rv⟩ := r.get ha
    have hp : ps[i]? = some y := by
      rw [← S.pre, List.getElem?_take_of_lt (by omega)]; exact h1
    have ndP : ps.Nodup := by rw [← S.pre]; exact S.nd.sublist (List.take_sublist _ _)
    refine ⟨u, rv, ?_⟩
    rcases S.par y (List.mem_of_getElem? hp) with k | k
    · exact .inl ⟨k, bindL_get ndP hp hu k⟩
    · obtain ⟨c, e⟩ := cell_has (n := s.heap.objs.size + 1) k
      refine .inr ⟨.inl k, c, e, ?_⟩
      have q := x.cell y c e
      rw [bindC_get ndP hp hu (by show scope.names.lookup y ≠ _; rw [k]; decide)] at q
      exact q
  · exact e0.hok.fresh (Nat.le_of_lt (x.above y c (PySem.mem_of_lookup h)))
  · unfold start
    show _ = N.length
    rw [List.length_append, List.length_map, List.length_replicate]
    omega
theorem fn_of {CX : CXT} {P : Program} {w : World} {K : PySem.W.Frag} {mg : Str → Option Value} {base : Heap} {k : Nat} {f : Addr} {name qual : Str} {params : Arguments} {body : List Stmt} {scope : Scope} {dV kV doc pm cdv ct oc : Value} {an od : Option Addr}
    {osl : Array (Option Value)} {N ps : List Str} {sp : Sp} (lk : K.lookup f = some ⟨oc, od, .func (PySem.W.fnOf name qual params body scope dV kV doc pm an cdv ct), osl⟩) (hcd : PySem.W.codeIn K cdv qual = true) (S : FnScope N ps scope)
    (len : ∀ vs H Q E, sp vs H Q E → vs.length = ps.length)
    (hbody : ∀ (A : Around) (outer : List Env) (s : Shared) (H : Hp) (vs : List V) (Q : VK) (E : XK), Room k (A.deeper (envOfC qual scope s.heap.objs.size f cdv)) → sp vs H Q E →
      ∃ t, PSs (cxOf CX P w K mg base N qual scope f cdv A outer s H E) body t ∧ t { nx := fun _ H' => Q .non H', rt := Q } (start N vs) H) :
    FnOk P w K mg base CX (k + 1) f (PySem.W.fnOf name qual params body scope dV kV doc pm an cdv ct) ps sp := by
  refine ⟨len, fun A outer s H args us vs Q E hr e0 hb r hsp => ?_⟩
  have hl := len _ _ _ _ hsp
  have KX : K.In s.heap := e0.mod.kin.keeps fun b o e => (e0.bs b o e).1
  have lim : s.heap.NoLimit := e0.mod.nolimit.keeps fun b o e => (e0.bs b o e).1
  have hkind : ∀ y ∈ ps.zip us, scope.names.lookup y.1 = some .local ∨ (scope.names.lookup y.1 = some .cell ∧ ((cellsFrom (s.heap.objs.size + 1) scope.names []).lookup y.1).isSome = true) := fun ⟨n, v⟩ hy => by
    rcases S.par n (List.of_mem_zip hy).1 with q | q
    · exact .inl q
    · exact .inr ⟨q, PySem.W.cellsFrom_some _ _ _ (.inl q)⟩
  refine codeAny_call_function hr.depth (KX _ _ lk) rfl S.co S.gen rfl (PySem.W.codeRec_of KX hcd) (hb _ _ _ _ ?_)
  refine wpAny_newFunctionEnv_cells S.kind hkind fun env he s1 x => ?_
  subst he
  refine ⟨lim.keeps x.toInCall.keep, codeAny_func ?_⟩
  obtain ⟨t, ht, hq⟩ := hbody A outer s H vs Q E (hr.deeper _) hsp
  have I : Inv (cxOf CX P w K mg base N qual scope f cdv A outer s H E) [] (start N vs) H s1 := inv_start S hr.hd e0 hl r x
  refine wpAny_mono (ht [] s1 (start N vs) H _ I hq) (fun fl s' hs => ?_) fun e s' hs => hs
  have fin : ∀ {σ' : St} {H' : Hp} {v : V} {u : Value}, Inv (cxOf CX P w K mg base N qual scope f cdv A outer s H E) [] σ' H' s' → RelV v u → Q v H' → CE outer P w H s Q u s' :=
    fun {σ' H' v u} J rv q => ⟨v, H', J.os, J.bare, J.base, J.hok, rv, q⟩
  cases fl with
  | ret u =>
    obtain ⟨v, σ', H', J, rv, q⟩ := hs
    exact fin J rv q
  | next =>
    obtain ⟨σ', H', J, q⟩ := hs
    exact fin (v := V.non) (u := Value.none) J rfl q
  | brk =>
    obtain ⟨_, _, _, q⟩ := hs
    exact False.elim q
  | cont =>
    obtain ⟨_, _, _, q⟩ := hs
    exact False.elim q
end L2
namespace L2
open PySem PySem.Spec PyProof.Rows
section
variable {X : Cx} {x : Str} {p pos : Pos} {e : Expr} {es : List Expr} {t : TA} {id T : String} {r : List V → Hp → VK → Prop}
def tCB (r : List V → Hp → VK → Prop) (t : TA) : TE := fun σ H Q => t σ H fun vs H1 => r vs H1 Q
theorem pe_callB (hc : CallR X (.builtin id) r) (hg : Gl X x) (hm : X.mg x = none) (hv : bootBuiltins x = some (.builtin id)) (ha : PA X (e :: es) t) (hn : x ≠ "__name__" := by decide) (hdb : (x == ("__debug__" : Str)) = false := by decide)
    (he : starEach (e :: es) X.env = (false, eval e X.env) :: starEach es X.env := by rfl) (hpl : (backTo pos (starEach es X.env)).any (·.1) = false := by rfl) : PE X (.Call (.Name x p) (e :: es) [] pos) (tCB r t) := by
  intro pins s σ H Q I h
  refine wpAny_Call_Name_kw (ld_blt I hg hm hv ?_ hn hdb)
  exact PyProof.Rows.callWith_builtin1 (thn (ha pos pins s σ H _ I h) fun us s1 ⟨vs, H1, I1, r1, q1⟩ => hc pins s1 σ H1 vs us Q I1 r1 q1) he hpl
theorem pe_callTy (hc : CallR X (.type T) r) (hg : Gl X x) (hm : X.mg x = none) (hv : bootBuiltins x = some (.type T)) (ha : PA X (e :: es) t) (hn : x ≠ "__name__" := by decide) (hdb : (x == ("__debug__" : Str)) = false := by decide)
    (he : starEach (e :: es) X.env = (false, eval e X.env) :: starEach es X.env := by rfl) (hpl : (backTo pos (starEach es X.env)).any (·.1) = false := by rfl) : PE X (.Call (.Name x p) (e :: es) [] pos) (tCB r t) := by
  intro pins s σ H Q I h
  refine wpAny_Call_Name_kw (ld_blt I hg hm hv ?_ hn hdb)
  exact PyProof.Rows.callWith_type1 (thn (ha pos pins s σ H _ I h) fun us s1 ⟨vs, H1, I1, r1, q1⟩ => hc pins s1 σ H1 vs us Q I1 r1 q1) he hpl
end
end L2
namespace HT
open PySem PyProof.Rows
section
open PySem.SeqAt
open PySem.AutoSeq1 (wpAny_loadPart')
open PySem.MeetsSeq PySem.MeetsSeq2 PySem.MeetsSeq3
end
section
variable {prog : Program} {w : World} {A : Around} {E : Value → Shared → Prop} {s : Shared}
def sIx (n d : Nat) : Option Int → Nat
  | none => d
  | some v => if v < 0 then (v + (n : Int)).toNat else min v.toNat n
theorem sIx_none (n d : Nat) : sIx n d none = d := rfl
theorem sIx_nat (n d k : Nat) : sIx n d (some (k : Int)) = min k n := by
  show (if (k : Int) < 0 then ((k : Int) + (n : Int)).toNat else min (k : Int).toNat n) = min k n
  rw [if_neg (by omega), Int.toNat_natCast]
end
end HT
namespace L2
open PySem PySem.Spec PyProof.Rows
abbrev TO := St → Hp → (Option Int → Hp → Prop) → Prop
def PO (X : Cx) (e : Option Expr) (t : TO) : Prop :=
  ∀ (pins : List (Addr × Obj)) (s : Shared) (σ : St) (H : Hp) (Q : Option Int → Hp → Prop), Inv X pins σ H s → t σ H Q →
    wpAny (model X.prog X.w) X.A (evalPart e X.env) (fun u s' => ∃ o H', Inv X pins σ H' s' ∧ IsPart u o ∧ Q o H') X.xe s
def tNoPart : TO := fun _ H Q => Q none H
def tPart (t : TE) : TO := fun σ H Q => t σ H fun x H1 => ∃ i, x = .int i ∧ Q (some i) H1
section
variable {X : Cx} {e : Expr} {te : TE} {lo hi : Option Expr} {tl th : TO} {pos p2 : Pos}
theorem po_none : PO X none tNoPart := by
  intro pins s σ H Q I h
  rw [evalPart_none]
  exact wpAny_pure ⟨none, H, I, .none, h⟩
theorem po_some (h : PE X e te) : PO X (some e) (tPart te) := by
  intro pins s σ H Q I hw
  rw [evalPart_some]
  refine thn (h pins s σ H _ I hw) fun u s1 ⟨x, H1, I1, r1, q1⟩ => ?_
  obtain ⟨i, rfl, q⟩ := q1
  obtain ⟨t, rfl⟩ := r1
  exact ⟨some i, H1, I1, .int i t, q⟩
def SlR (X : Cx) (r : V → Option Int → Option Int → Hp → VK → Prop) : Prop :=
  ∀ (pins : List (Addr × Obj)) (s : Shared) (σ : St) (H : Hp) (x : V) (v vl vu : Value) (lo hi : Option Int) (sl : Addr) (Q : VK), Inv X pins σ H s → RelV x v → s.heap.IsSliceOf sl vl vu .none → IsPart vl lo → IsPart vu hi → r x lo hi H Q →
    ∃ T id, typeLookup (.type T) "__getitem__" = pure (some (.builtin id)) ∧ s.TypeIs v T ∧ wpAny (model X.prog X.w) X.A (getItem v (.ref sl)) (EP X pins σ Q) X.xe s
def tSl (r : V → Option Int → Option Int → Hp → VK → Prop) (te : TE) (tl th : TO) : TE := fun σ H Q => te σ H fun x H1 => tl σ H1 fun l H2 => th σ H2 fun u H3 => r x l u H3 Q
theorem pe_slice {r : V → Option Int → Option Int → Hp → VK → Prop} (hr : SlR X r) (he : PE X e te) (hl : PO X lo tl) (hu : PO X hi th) : PE X (.Subscript e (.Slice lo hi none p2) pos) (tSl r te tl th) := by
  intro pins s σ H Q I h
  refine Subscript_ (thn (he pins s σ H _ I h) fun v s1 ⟨x, H1, I1, r1, q1⟩ => ?_)
  refine wpAny_Slice (thn (hl pins s1 σ H1 _ I1 q1) fun vl s2 ⟨l, H2, I2, pl, q2⟩ => thn (hu pins s2 σ H2 _ I2 q2) fun vu s3 ⟨u, H3, I3, pu, q3⟩ => ?_)
  rw [evalPart_none]
  refine wpAny_pure ?_
  have I4 : Inv X pins σ H3 { s3 with heap := s3.heap.push { cls := .type "slice", data := .fields #[vl, vu, .none] } } := I3.kept (t' := s3.toks) fun b ob q => Heap.get?_push_of_some _ q
  obtain ⟨T, id, hT, ht, hg⟩ := hr pins { s3 with heap := s3.heap.push { cls := .type "slice", data := .fields #[vl, vu, .none] } } σ H3 x v vl vu l u s3.heap.objs.size Q I4 r1 (Heap.IsSliceOf.new ..) pl pu q3
  show wpAny (model X.prog X.w) X.A (subscriptTail e (.Slice lo hi none p2) v (.ref s3.heap.objs.size)) (EP X pins σ Q) X.xe { s3 with heap := s3.heap.push { cls := .type "slice", data := .fields #[vl, vu, .none] } }
  exact tail_any (ops := [.ref s3.heap.objs.size, v]) ht hT hg (by with_unfolding_all rfl)
def cutV (xs : List V) (lo hi : Option Int) : List V := (xs.drop (HT.sIx xs.length 0 lo)).take (HT.sIx xs.length xs.length hi - HT.sIx xs.length 0 lo)
theorem cutV_length (xs : List V) (lo hi : Option Int) : (cutV xs lo hi).length ≤ xs.length := by
  unfold cutV
  rw [List.length_take, List.length_drop]
  omega
end
end L2
namespace L2
open PySem PySem.Spec PyProof.Rows
def ixN (n : Nat) (i : Int) : Option Nat := if 0 ≤ i then (if i < n then some i.toNat else none) else if -(n : Int) ≤ i then some (i + n).toNat else none
def atI {α : Type} (xs : List α) (i : Int) : Option α := (ixN xs.length i).bind fun j => xs[j]?
theorem ixN_seq {n : Nat} {i : Int} {j : Nat} (h : ixN n i = some j) : seqIndex? i n = some j ∧ j < n ∧ -(n : Int) ≤ i ∧ i < n := by
  unfold ixN at h
  by_cases h0 : 0 ≤ i
  · rw [if_pos h0] at h
    by_cases h1 : i < n
    · rw [if_pos h1] at h
      have e : i.toNat = j := Option.some.inj h
      exact ⟨by rw [seqIndex_of h0 h1, e], by omega, by omega, h1⟩
    · rw [if_neg h1] at h; cases h
  · rw [if_neg h0] at h
    by_cases h1 : -(n : Int) ≤ i
    · rw [if_pos h1] at h
      have e : (i + n).toNat = j := Option.some.inj h
      exact ⟨by rw [seqIndex_neg (by omega) h1, e], by omega, h1, by omega⟩
    · rw [if_neg h1] at h; cases h
theorem atI_get {α : Type} {xs : List α} {i : Int} {v : α} (h : atI xs i = some v) : ∃ j, seqIndex? i xs.length = some j ∧ xs[j]? = some v ∧ j < xs.length ∧ -(xs.length : Int) ≤ i ∧ i < xs.length := by
  unfold atI at h
  cases e : ixN xs.length i with
  | none => rw [e] at h; cases h
  | some j =>
    rw [e] at h
    obtain ⟨h1, h2, h3, h4⟩ := ixN_seq e
    exact ⟨j, h1, h, h2, h3, h4⟩
def PlainIx (b : Expr) : Prop := ∀ o i, subscripted b false o i = operate [o, i] (getItem o i)
def IxR (X : Cx) (r : R2) : Prop :=
  ∀ (value slice : Expr) (pins : List (Addr × Obj)) (s : Shared) (σ : St) (H : Hp) (x y : V) (v u : Value) (Q : VK), Inv X pins σ H s → RelV x v → RelV y u → r x y H Q →
    subscripted slice false v u = operate [v, u] (getItem v u) → wpAny (model X.prog X.w) X.A (subscriptTail value slice v u) (EP X pins σ Q) X.xe s
def MtR (X : Cx) (id : String) (r : V → List V → Hp → VK → Prop) : Prop :=
  ∀ (pins : List (Addr × Obj)) (s : Shared) (σ : St) (H : Hp) (x : V) (xs : List V) (v : Value) (us : List Value) (Q : VK), Inv X pins σ H s → RelV x v → Vals xs us → r x xs H Q →
    wpAny (model X.prog X.w) X.A (call (.builtin id) (v :: us)) (EP X pins σ Q) X.xe s
section
variable {X : Cx} {a b : Expr} {ta tb : TE} {pos : Pos}
theorem pe_ix {r : R2} (hr : IxR X r) (ha : PE X a ta) (hb : PE X b tb) (hs : PlainIx b) : PE X (.Subscript a b pos) (tOp r ta tb) := by
  intro pins s σ H Q I h
  exact Subscript_ (binT ha hb I h fun v u s2 x y H2 I2 rx ry q => hr a b pins s2 σ H2 x y v u Q I2 rx ry q (hs _ _))
def rIxL (K : PySem.W.Frag) : R2 := fun x y H Q => ∃ p xs i v, x = .ref p ∧ y = .int i ∧ SqL K H p xs ∧ atI xs i = some v ∧ Q v H
def rIxT (K : PySem.W.Frag) : R2 := fun x y H Q => ∃ p xs i v, x = .ref p ∧ y = .int i ∧ SqT K H p xs ∧ atI xs i = some v ∧ Q v H
theorem ix_list : IxR X (rIxL X.K) := by
  intro value slice pins s σ H x y v u Q I rx ry h hs
  obtain ⟨p, xs, i, z, rfl, rfl, hq, he, q⟩ := h
  cases rx
  obtain ⟨t, rfl⟩ := ry
  obtain ⟨its, r, pl, hz⟩ := I.list hq
  obtain ⟨j, h1, h2, h3, h4, h5⟩ := atI_get he
  obtain ⟨w, ew, rw'⟩ := r.get h2
  have hl := r.length
  have hn := line63
  have fin : EP X pins σ Q w s := ⟨z, H, I, rw', q⟩
  by_cases h0 : 0 ≤ i
  · have hj : i.toNat = j := by
      rw [seqIndex_of h0 h5] at h1
      exact Option.some.inj h1
    exact item_listR pl.isList h0 (by omega) (by rw [hj]; simpa using ew) fin hs
  · have hj : (i + (its.toArray.size : Int)).toNat = j := by
      rw [seqIndex_neg (by omega) h4] at h1
      rw [List.size_toArray, ← hl]
      exact Option.some.inj h1
    exact subscriptTail_builtinR (x := w) pl.isList.typeIs slot_list_getitem.lookup
      (wpAny_getItem_list_neg (Q := fun r s' => r = w ∧ EP X pins σ Q r s') pl.isList (by omega) (by rw [List.size_toArray] <;> omega) (by omega) (by rw [hj]; simpa using ew) ⟨rfl, fin⟩) hs
theorem ix_tup : IxR X (rIxT X.K) := by
  intro value slice pins s σ H x y v u Q I rx ry h hs
  obtain ⟨p, xs, i, z, rfl, rfl, hq, he, q⟩ := h
  cases rx
  obtain ⟨t, rfl⟩ := ry
  obtain ⟨its, r, pl, hz⟩ := I.tuple hq
  obtain ⟨j, h1, h2, h3, h4, h5⟩ := atI_get he
  obtain ⟨w, ew, rw'⟩ := r.get h2
  have hl := r.length
  have hn := line63
  have fin : EP X pins σ Q w s := ⟨z, H, I, rw', q⟩
  exact subscriptTail_builtinR (x := w) pl.typeIs slot_tuple_getitem.lookup
    (getItem_tuple (j := j) (Q := fun r s' => r = w ∧ EP X pins σ Q r s') pl (by omega) (by omega) (by rw [List.size_toArray, ← hl]; exact h1) (by simpa using ew) ⟨rfl, fin⟩) hs
theorem mapSeq_set (its : List Value) (n j : Nat) (u : Value) : Obj.mapSeq (·.setIfInBounds j u) { cls := .type "list", data := .seq its.toArray n } = { cls := .type "list", data := .seq (its.set j u).toArray n } := by
  simp [Obj.mapSeq]
theorem Inv.lst {pins : List (Addr × Obj)} {σ : St} {H : Hp} {s : Shared} {p : Addr} {xs : List V} (I : Inv X pins σ H s) (h : H p = some (.lst xs)) :
    ∃ (its : List Value) (n : Nat), Vals xs its ∧ s.heap.get? p = some { cls := .type "list", data := .seq its.toArray n } ∧ xs.length ≤ sizeLine := by
  obtain ⟨z, its, n, r, e⟩ := I.hok p _ h
  exact ⟨its, n, r, e, z⟩
theorem Inv.lstUpd {pins : List (Addr × Obj)} {σ : St} {H : Hp} {s : Shared} {p : Addr} {xs ys : List V} {its its' : List Value} {n n' : Nat} {f : Obj → Obj} (I : Inv X pins σ H s) (h : H p = some (.lst xs))
    (ho : s.heap.get? p = some { cls := .type "list", data := .seq its.toArray n }) (hf : f { cls := .type "list", data := .seq its.toArray n } = { cls := .type "list", data := .seq its'.toArray n' }) (r : Vals ys its') (hz : ys.length ≤ sizeLine) (t : Nat) :
    Inv X pins σ (upd H p (.lst ys)) { s with heap := s.heap.update p f, toks := t } := by
  have e : (s.heap.update p f).get? p = some { cls := .type "list", data := .seq its'.toArray n' } := by
    rw [Heap.get?_update_self f ho (by rw [hf] <;> rfl), hf]
  refine I.write (x := p) (e := p) (by rw [h]; trivial) (.inl rfl) (fun b u hb q => (Heap.get?_update_other _ _ (Ne.symm hb)).trans q) ⟨_, e⟩ ?_
  exact ⟨hz, its', n', r, e⟩
def rSetL : V → V → V → Hp → (Hp → Prop) → Prop := fun o i v H Q => ∃ p xs k j, o = .ref p ∧ i = .int k ∧ H p = some (.lst xs) ∧ ixN xs.length k = some j ∧ Q (upd H p (.lst (xs.set j v)))
theorem set_list : PSet X rSetL := by
  intro pins s σ H o i v ov iv u Q I ro ri rv h
  obtain ⟨p, xs, k, j, rfl, rfl, hp, hj, q⟩ := h
  cases ro
  obtain ⟨t, rfl⟩ := ri
  obtain ⟨its, n, r, ho, hz⟩ := I.lst hp
  obtain ⟨h1, h2, h3, h4⟩ := ixN_seq hj
  have hl := r.length
  have hn := line63
  have I' : Inv X pins σ (upd H p (.lst (xs.set j v))) { s with heap := s.heap.update p (Obj.mapSeq (·.setIfInBounds j u)) } :=
    I.lstUpd hp ho (mapSeq_set its n j u) (r.set rv j) (by rw [List.length_set]; exact hz) s.toks
  by_cases h0 : 0 ≤ k
  · have hk : k.toNat = j := by
      rw [seqIndex_of h0 h4] at h1
      exact Option.some.inj h1
    exact PySem.W.ki_setAt ho h0 (by omega) (by rw [List.size_toArray, ← hl]; exact h4) (by rw [hk]; exact ⟨_, I', q⟩)
  · have hk : (k + (its.toArray.size : Int)).toNat = j := by
      rw [seqIndex_neg (by omega) h3] at h1
      rw [List.size_toArray, ← hl]
      exact Option.some.inj h1
    exact PySem.W.ki_setBack ho (by omega) (by rw [List.size_toArray, ← hl]; exact h3) (by omega) (by rw [hk]; exact ⟨_, I', q⟩)
theorem slice_bounds (lo hi : Option Int) (n : Nat) : (sliceBounds lo hi none n).1 = ((HT.sIx n 0 lo : Nat) : Int) ∧ (sliceBounds lo hi none n).2.1 = ((HT.sIx n n hi : Nat) : Int) ∧ (sliceBounds lo hi none n).2.2 = 1 := by
  refine ⟨?_, ?_, rfl⟩
  · cases lo with
    | none => simp [sliceBounds, HT.sIx]
    | some i =>
      simp only [sliceBounds, HT.sIx, Option.getD_none, show (1 : Int) > 0 by decide, if_true]
      by_cases h : i < 0
      · simp only [h, if_true] <;> omega
      · simp only [h, if_false] <;> omega
  · cases hi with
    | none => simp [sliceBounds, HT.sIx]
    | some i =>
      simp only [sliceBounds, HT.sIx, Option.getD_none, show (1 : Int) > 0 by decide, if_true]
      by_cases h : i < 0
      · simp only [h, if_true] <;> omega
      · simp only [h, if_false] <;> omega
theorem slicePick_cut (its : List Value) (lo hi : Option Int) : slicePick its.toArray lo hi none = ((its.drop (HT.sIx its.length 0 lo)).take (HT.sIx its.length its.length hi - HT.sIx its.length 0 lo)).toArray := by
  obtain ⟨h1, h2, h3⟩ := slice_bounds lo hi its.toArray.size
  unfold slicePick
  rw [h1, h2, h3]
  simp only [sliceRange_one, pick_run, List.size_toArray] <;> rfl
def rSlL (K : PySem.W.Frag) : V → Option Int → Option Int → Hp → VK → Prop := fun x lo hi H Q => ∃ a xs, x = .ref a ∧ SqL K H a xs ∧ ∀ p, H p = none → Q (.ref p) (upd H p (.lst (cutV xs lo hi)))
theorem sl_list : SlR X (rSlL X.K) := by
  intro pins s σ H x v vl vu lo hi sl Q I rx hs pl pu h
  obtain ⟨a, xs, rfl, hx, q⟩ := h
  cases rx
  obtain ⟨its, r, ht, hz⟩ := I.list hx
  have hlen := r.length
  refine ⟨"list", _, slot_list_getitem.lookup, ht.isList.typeIs, ?_⟩
  refine wpAny_getItem_list_slice ht.isList hs pl pu .none (by simp) ?_ (by rw [List.size_toArray] <;> omega)
  rw [slicePick_cut, ← hlen]
  refine ⟨.ref s.heap.objs.size, _, I.laid (t' := s.toks) (o := .lst (cutV xs lo hi)) (fun b ob q => Heap.get?_push_of_some _ q) (Nat.le_refl _) ?_, rfl, q _ (I.hok.fresh (Nat.le_refl _))⟩
  exact ⟨Nat.le_trans (cutV_length xs lo hi) hz, _, 0, (r.drop (HT.sIx xs.length 0 lo)).take (HT.sIx xs.length xs.length hi - HT.sIx xs.length 0 lo), Heap.get?_push_size _ rfl⟩
def flatV : V → Bool
  | .non => true
  | .bl _ => true
  | .int _ => true
  | .str _ => true
  | _ => false
def eqV : V → V → Bool
  | .non, .non => true
  | .bl a, .bl b => a == b
  | .bl a, .int b => (if a then 1 else 0) == b
  | .int a, .bl b => a == (if b then 1 else 0)
  | .int a, .int b => a == b
  | .str a, .str b => a == b
  | _, _ => false
theorem call_len_seq : CallR X (.builtin "len") (fun xs H Q => ∃ p ys, xs = [.ref p] ∧ (SqL X.K H p ys ∨ SqT X.K H p ys) ∧ Q (.int ys.length) H) := by
  intro pins s σ H xs us Q I r h
  obtain ⟨p, ys, rfl, hq, q⟩ := h
  obtain ⟨u, rfl, rx⟩ := vals1 r
  cases rx
  have hn := line63
  rcases hq with hq | hq
  · obtain ⟨its, r', pl, hz⟩ := I.list hq
    have hlen := r'.length
    exact Calls.call_len_list pl.isList (by simp only [List.size_toArray] <;> omega) ⟨.int ys.length, H, I.tok _, ⟨s.toks + 1, by rw [List.size_toArray, hlen]⟩, q⟩
  · obtain ⟨its, r', pl, hz⟩ := I.tuple hq
    have hlen := r'.length
    exact len_tuple pl (by simp only [List.size_toArray] <;> omega) ⟨.int ys.length, H, I.tok _, ⟨s.toks + 1, by rw [List.size_toArray, hlen]⟩, q⟩
theorem call_list_of : CallR X (.type "list") (fun xs H Q => ∃ p ys, xs = [.ref p] ∧ (SqL X.K H p ys ∨ SqT X.K H p ys) ∧ ∀ l, H l = none → Q (.ref l) (upd H l (.lst ys))) := by
  intro pins s σ H xs us Q I r h
  obtain ⟨p, ys, rfl, hq, q⟩ := h
  obtain ⟨u, rfl, rx⟩ := vals1 r
  cases rx
  have fin : ∀ (its : List Value), Vals ys its → ys.length ≤ sizeLine → ∀ (h' : Heap) (c' : Nat), (∀ b o', s.heap.get? b = some o' → h'.get? b = some o') →
      h'.get? s.heap.objs.size = some { cls := .type "list", dict := none, data := .seq its.toArray c', slots := #[] } → EP X pins σ Q (.ref s.heap.objs.size) { s with heap := h' } := fun its r' hz h' c' kp e =>
    ⟨.ref s.heap.objs.size, _, I.laid (t' := s.toks) kp (Nat.le_refl _) (show ObjOk X.prog X.w _ h' _ (.lst ys) from ⟨hz, its, c', r', e⟩), rfl, q _ (I.hok.fresh (Nat.le_refl _))⟩
  rcases hq with hq | hq
  · obtain ⟨its, r', pl, hz⟩ := I.list hq
    have hlen := r'.length
    obtain ⟨o, ho, hc, n, hd⟩ := pl.isList
    exact call_list_seq p (.inl rfl) ho hc hd (fun h' c' kp e => fin its r' hz h' c' kp e) (by simp only [List.size_toArray] <;> omega)
  · obtain ⟨its, r', pl, hz⟩ := I.tuple hq
    have hlen := r'.length
    obtain ⟨o, ho, hc, n, hd⟩ := pl
    exact call_list_seq p (.inr rfl) ho hc hd (fun h' c' kp e => fin its r' hz h' c' kp e) (by simp only [List.size_toArray] <;> omega)
def tyV (K : PySem.W.Frag) (T : String) (x : V) (H : Hp) : Prop := match x with
  | .str _ => T = "str"
  | .int _ => T = "int"
  | .ref p => (T = "list" ∧ ∃ xs, SqL K H p xs) ∨ (T = "tuple" ∧ ∃ o, K.lookup p = some o ∧ o.cls = .type "tuple" ∧ o.dict = none) ∨
      (T = "dict" ∧ ((∃ kvs, H p = some (.dK kvs)) ∨ ∃ kvs, H p = some (.dT kvs))) ∨ (T = "set" ∧ ∃ S n, H p = some (.set S n))
  | _ => False
theorem tyV_is {pins : List (Addr × Obj)} {σ : St} {H : Hp} {s : Shared} {T : String} {x : V} {v : Value} (I : Inv X pins σ H s) (r : RelV x v) (ty : tyV X.K T x H) :
    s.TypeIs v T ∧ ∀ a, v = .ref a → ∃ ob, s.heap.get? a = some ob ∧ ob.dict = none := by
  cases x with
  | str z =>
    obtain ⟨t, rfl⟩ := r
    cases (show T = "str" from ty)
    exact ⟨typeIs_str s z t, fun _ e => nomatch e⟩
  | int i =>
    obtain ⟨t, rfl⟩ := r
    cases (show T = "int" from ty)
    exact ⟨typeIs_int s i t, fun _ e => nomatch e⟩
  | ref p =>
    cases r
    rcases ty with ⟨rfl, xs, hq⟩ | ⟨rfl, o, hk, hc, hd⟩ | ⟨rfl, hk⟩ | ⟨rfl, S, n, hk⟩
    · obtain ⟨its, _, pl, _⟩ := I.list hq
      refine ⟨pl.isList.typeIs, fun a e => ?_⟩
      cases e
      obtain ⟨o, n, e, c, hd, _⟩ := pl
      exact ⟨o, e, hd⟩
    · refine ⟨⟨o, I.kIn p o hk, hc⟩, fun a e => ?_⟩
      cases e
      exact ⟨o, I.kIn _ o hk, hd⟩
    · have z : ∃ o, s.heap.get? p = some o ∧ o.ExactDict := by
        rcases hk with ⟨kvs, hk⟩ | ⟨kvs, hk⟩
        · obtain ⟨_, _, _, _, o, _, _, e, ex, _⟩ := I.hok p _ hk
          exact ⟨o, e, ex⟩
        · obtain ⟨_, _, _, _, o, _, _, e, ex, _⟩ := I.hok p _ hk
          exact ⟨o, e, ex⟩
      obtain ⟨o, e, ex⟩ := z
      refine ⟨⟨o, e, ex.1⟩, fun a e2 => ?_⟩
      cases e2
      exact ⟨o, e, ex.2.1⟩
    · obtain ⟨o, _, _, _, e, ex, _⟩ := I.hok p _ hk
      refine ⟨⟨o, e, ex.1⟩, fun a e2 => ?_⟩
      cases e2
      exact ⟨o, e, ex.2.1⟩
  | _ => exact False.elim ty
def tBM0 (K : PySem.W.Frag) (T : String) (r : V → List V → Hp → VK → Prop) (to : TE) : TE := fun σ H Q => to σ H fun x H1 => tyV K T x H1 ∧ r x [] H1 Q
def tBM (K : PySem.W.Frag) (T : String) (r : V → List V → Hp → VK → Prop) (to : TE) (t : TA) : TE := fun σ H Q => to σ H fun x H1 => tyV K T x H1 ∧ t σ H1 fun xs H2 => r x xs H2 Q
variable {o e : Expr} {es : List Expr} {to : TE} {t : TA} {name : Str} {apos cpos : Pos} {T id : String} {r : V → List V → Hp → VK → Prop}
theorem pe_bm0 (pa : PlainAttrs T) (slot : Slot T name id) (hty : typeOf (.builtin id) = pure (.type "method_descriptor")) (hm : MtR X id r) (ho : PE X o to)
    (hbase : attributeBase o name X.env (eval o X.env) = eval o X.env := by rfl) (hline : (apos.endLine == cpos.line) = true := by rfl) : PE X (.Call (.Attribute o name apos) [] [] cpos) (tBM0 X.K T r to) := by
  intro pins s σ H Q I h
  refine wpAny_Call_method0_late hbase hline (thn (ho pins s σ H _ I h) fun v s1 ⟨x, H1, I1, r1, ty, q1⟩ => ?_)
  obtain ⟨h1, h2⟩ := tyV_is I1 r1 ty
  exact ⟨T, id, pa, slot, hty, h1, h2, Calls.callWith_builtin rfl (PySem.evalArgs_none (hm pins s1 σ H1 x [] v [] Q I1 r1 .nil q1))⟩
theorem pe_bm (pa : PlainAttrs T) (slot : Slot T name id) (hty : typeOf (.builtin id) = pure (.type "method_descriptor")) (hm : MtR X id r) (ho : PE X o to) (ha : PA X (e :: es) t)
    (hbase : attributeBase o name X.env (eval o X.env) = eval o X.env := by rfl)
    (hfew : ((backTo cpos (starEach (e :: es) X.env)).all (fun x => !x.1) && (backToKw cpos (keywordEach [] X.env)).all (fun x => x.1.isSome)
      && decide ((e :: es).length + ([] : List Keyword).length + (if ([] : List Keyword).isEmpty then 0 else 1) < 30)) = true := by rfl)
    (hline : (apos.endLine == cpos.line) = true := by rfl) (hs : starEach (e :: es) X.env = (false, eval e X.env) :: starEach es X.env := by rfl) (hplain : (backTo cpos (starEach es X.env)).any (·.1) = false := by rfl) :
    PE X (.Call (.Attribute o name apos) (e :: es) [] cpos) (tBM X.K T r to t) := by
  intro pins s σ H Q I h
  refine wpAny_Call_method_late hbase hfew hline rfl (thn (ho pins s σ H _ I h) fun v s1 ⟨x, H1, I1, r1, ty, q1⟩ => ?_)
  obtain ⟨h1, h2⟩ := tyV_is I1 r1 ty
  refine ⟨T, id, pa, slot, hty, h1, h2, ?_⟩
  have hA := ha cpos pins s1 σ H1 _ I1 q1
  rw [hs] at hA ⊢
  refine Calls.callWith_builtin (by show (false || (backTo cpos (starEach es X.env)).any (·.1)) = false; rw [hplain] <;> rfl) (Calls.evalArgs_plain ?_)
  exact thn hA fun us s2 ⟨vs, H2, I2, r2, q2⟩ => hm pins s2 σ H2 x vs v us Q I2 r1 r2 q2
end
end L2
namespace L2
open PySem PySem.Spec PyProof.Rows
def MtM (X : Cx) (id : String) (r : V → List V → Hp → VK → Prop) : Prop :=
  ∀ (pins : List (Addr × Obj)) (s : Shared) (σ : St) (H : Hp) (x : V) (xs : List V) (v : Value) (us : List Value) (Q : VK), Inv X pins σ H s → RelV x v → Vals xs us → r x xs H Q →
    wpAny (model X.prog X.w) X.A (call (.builtin id) (v :: us)) (EP X pins σ Q) X.xe s
theorem Vals.one : ∀ {x : V} {us : List Value}, Vals [x] us → ∃ u, us = [u] ∧ RelV x u
  | _, _, .cons r .nil => ⟨_, rfl, r⟩
theorem Vals.zero : ∀ {us : List Value}, Vals [] us → us = []
  | _, .nil => rfl
theorem Vals.eraseIdx : ∀ {xs : List V} {us : List Value} (i : Nat), Vals xs us → Vals (xs.eraseIdx i) (us.eraseIdx i)
  | _, _, _, .nil => .nil
  | _, _, 0, .cons _ t => t
  | _, _, i + 1, .cons r t => .cons r (Vals.eraseIdx i t)
theorem Vals.reverse {xs : List V} {us : List Value} (h : Vals xs us) : Vals xs.reverse us.reverse := by
  induction h with
  | nil => exact .nil
  | cons r t ih => rw [List.reverse_cons, List.reverse_cons]; exact Vals.append ih (.cons r .nil)
theorem Vals.rep {xs : List V} {us : List Value} (h : Vals xs us) : ∀ k : Nat, Vals (List.replicate k xs).flatten (List.replicate k us).flatten
  | 0 => .nil
  | k + 1 => by
    rw [List.replicate_succ, List.replicate_succ, List.flatten_cons, List.flatten_cons]
    exact Vals.append h (Vals.rep h k)
theorem len_erase {α : Type} : ∀ (l : List α) (i : Nat), (l.eraseIdx i).length ≤ l.length
  | [], _ => Nat.le_refl _
  | _ :: _, 0 => Nat.le_succ _
  | _ :: r, i + 1 => Nat.succ_le_succ (len_erase r i)
section
variable {X : Cx} {pins : List (Addr × Obj)} {σ : St} {H : Hp} {s : Shared} {l b : Addr} {xs ys zs : List V}
theorem Inv.lset {its its' : List Value} {n : Nat} {f : Array Value → Array Value} {t' : Nat} (I : Inv X pins σ H s) (hH : H l = some (.lst xs))
    (e : s.heap.get? l = some { cls := .type "list", data := .seq its.toArray n }) (hf : f its.toArray = its'.toArray) (hv : Vals ys its') (hz : ys.length ≤ sizeLine) :
    Inv X pins σ (upd H l (.lst ys)) { s with heap := s.heap.update l (Obj.mapSeq f), toks := t' } := by
  have q := PySem.IsL.update e f
  rw [hf] at q
  refine I.write (x := l) (e := l) (by rw [hH]; exact trivial) (.inl rfl) (fun b' u hb hu => (Heap.get?_update_other s.heap (Obj.mapSeq f) (Ne.symm hb)).trans hu) ⟨_, q⟩ ?_
  exact ⟨hz, its', _, hv, q⟩
theorem Inv.lnew {its : List Value} {t' : Nat} (I : Inv X pins σ H s) (hv : Vals ys its) (hz : ys.length ≤ sizeLine) :
    Inv X pins σ (upd H s.heap.objs.size (.lst ys)) { s with heap := s.heap.push { cls := .type "list", data := .seq its.toArray }, toks := t' } :=
  I.laid (fun _ _ q => Heap.get?_push_of_some _ q) (Nat.le_refl _) ⟨hz, its, 0, hv, Heap.get?_push_size _ rfl⟩
theorem Inv.fresh (I : Inv X pins σ H s) : H s.heap.objs.size = none := I.hok.fresh (Nat.le_refl _)
theorem Inv.lstM (I : Inv X pins σ H s) (hH : H l = some (.lst xs)) : xs.length ≤ sizeLine ∧ ∃ (its : List Value) (n : Nat), Vals xs its ∧ xs.length = its.length ∧ s.heap.get? l = some { cls := .type "list", data := .seq its.toArray n } := by
  obtain ⟨z, its, n, r, e⟩ := I.hok l _ hH
  exact ⟨z, its, n, r, r.length, e⟩
theorem notLongL {n : Nat} (h : n ≤ sizeLine) : Builtin.List.listTooLong n = false := by
  unfold Builtin.List.listTooLong
  exact decide_eq_false (by omega)
end
section
variable {X : Cx}
def rAppend : V → List V → Hp → VK → Prop := fun x vs H Q => ∃ l xs y, x = .ref l ∧ vs = [y] ∧ H l = some (.lst xs) ∧ xs.length < sizeLine ∧ Q .non (upd H l (.lst (xs ++ [y])))
theorem mt_append : MtM X "list.append" rAppend := by
  intro pins s σ H x vs v us Q I rx rv h
  obtain ⟨l, xs, y, rfl, rfl, hH, hz, q⟩ := h
  cases rx
  obtain ⟨u, rfl, ru⟩ := rv.one
  obtain ⟨z, its, n, r, hl, e⟩ := I.lstM hH
  refine call_meets F.slot_list_append ⟨_, e, rfl⟩ F.entry_list_append (F.args_list_append_2 _ _) (PySem.list_append l its.toArray n u (by rw [List.size_toArray]; omega)) ⟨e, ?_⟩
  refine ⟨.non, _, I.lset (its' := its ++ [u]) hH e (by simp) (r.append (.cons ru .nil)) ?_, rfl, q⟩
  rw [List.length_append, List.length_singleton]
  omega
def rPopAt : V → List V → Hp → VK → Prop := fun x vs H Q => ∃ l xs i k y, x = .ref l ∧ vs = [.int i] ∧ H l = some (.lst xs) ∧ -(2 ^ 63) ≤ i ∧ i < 2 ^ 63 ∧ seqIndex? i xs.length = some k ∧ xs[k]? = some y ∧ Q y (upd H l (.lst (xs.eraseIdx k)))
theorem mt_popAt : MtM X "list.pop" rPopAt := by
  intro pins s σ H x vs v us Q I rx rv h
  obtain ⟨l, xs, i, k, y, rfl, rfl, hH, h1, h2, hk, hy, q⟩ := h
  cases rx
  obtain ⟨u, rfl, ru⟩ := rv.one
  obtain ⟨t, rfl⟩ := ru
  obtain ⟨z, its, n, r, hl, e⟩ := I.lstM hH
  obtain ⟨w, hw, rw'⟩ := r.get hy
  refine call_meets F.slot_list_pop ⟨_, e, rfl⟩ F.entry_list_pop (F.args_list_pop_2 _ _)
    (MeetsSeq.list_pop_at l its.toArray n i t k w (fitsIndex_both h1 h2) (by rw [List.size_toArray, ← hl]; exact hk) (by rw [← Array.getElem?_toList]; exact hw) (by rw [List.size_toArray]; omega)) ⟨e, ?_⟩
  refine ⟨y, _, I.lset (its' := its.eraseIdx k) hH e ?_ (r.eraseIdx k) ?_, rw', q⟩
  · show its.toArray.eraseIdxIfInBounds k = (its.eraseIdx k).toArray
    rw [List.eraseIdxIfInBounds_toArray]
  · have := len_erase xs k
    omega
def rCat : R2 := fun x y H Q => ∃ l b xs zs, x = .ref l ∧ y = .ref b ∧ H l = some (.lst xs) ∧ H b = some (.lst zs) ∧ xs.length + zs.length ≤ sizeLine ∧ ∀ p, H p = none → Q (.ref p) (upd H p (.lst (xs ++ zs)))
theorem op_cat : OpR X (binaryOp .Add) rCat := by
  intro pins s σ H x y v u Q I rx ry h
  obtain ⟨l, b, xs, zs, rfl, rfl, hH, hB, hz, q⟩ := h
  cases rx
  cases ry
  obtain ⟨z, its, n, r, hl, e⟩ := I.lstM hH
  obtain ⟨z2, its2, n2, r2, hl2, e2⟩ := I.lstM hB
  refine PySem.P.add_list e e2 ?_ (by rw [List.size_toArray, List.size_toArray]; omega)
  have ea : its.toArray ++ its2.toArray = (its ++ its2).toArray := by simp
  rw [ea]
  exact ⟨.ref _, _, I.lnew (t' := s.toks) (r.append r2) (by rw [List.length_append]; omega), rfl, q _ I.fresh⟩
end
section
variable {prog : Program} {w : World} {A : Around} {E : Value → Shared → Prop} {s : Shared}
theorem bounds_run {a c n : Nat} (hac : a ≤ c) (hc : c ≤ n) : sliceBounds (some (a : Int)) (some (c : Int)) none n = ((a : Int), (c : Int), 1) := by
  simp only [sliceBounds, Option.getD_none]
  have h1 : ¬ ((a : Int) < 0) := by omega
  have h2 : ¬ ((c : Int) < 0) := by omega
  simp only [h1, h2, if_false, show (1 : Int) > 0 by decide, if_true]
  congr 1
  · omega
  · congr 1; omega
set_option maxRecDepth 100000 in
theorem setItem_slice {l b sl : Addr} {items new : Array Value} {n n2 : Nat} {vl vu : Value} {a c : Nat} {Q : Unit → Shared → Prop}
    (e : s.heap.get? l = some { cls := .type "list", data := .seq items n }) (e2 : s.heap.get? b = some { cls := .type "list", data := .seq new n2 }) (hne : l ≠ b)
    (hs : s.heap.IsSliceOf sl vl vu .none) (pl : IsPart vl (some (a : Int))) (pu : IsPart vu (some (c : Int))) (hac : a ≤ c) (hc : c ≤ items.size)
    (hsz : items.size + new.size ≤ sizeLine) (h : Q () { s with heap := s.heap.update l (Obj.mapSeq fun xs => xs.extract 0 a ++ new ++ xs.extract c xs.size) }) :
    wpAny (model prog w) A (setItem (.ref l) (.ref sl) (.ref b)) Q E s := by
  have hl : s.heap.IsList l items := PySem.IsL.isList e
  have hb : s.heap.IsList b new := PySem.IsL.isList e2
  obtain ⟨os, hos, hcs, hds⟩ := id hs
  have hTs : s.TypeIs (.ref sl) "slice" := ⟨os, hos, hcs⟩
  have hstep : ¬ ((rawPart none == rawInt 0) = true) := Bool.false_ne_true
  have hsame : Builtin.List.listSameRef (.ref l) (.ref b) = false := by
    unfold Builtin.List.listSameRef
    exact beq_eq_false_iff_ne.mpr hne
  have hmax : (max (a : Int) (c : Int)).toNat = c := by omega
  have hz' : ((fun xs : Array Value => xs.extract 0 a ++ new ++ xs.extract c xs.size) items).size ≤ sizeLine + 1 := by
    simp only [Array.size_append, Array.size_extract]
    omega
  unfold setItem
  try with_reducible refine wpAny_holding ?_
  first | refine wpAny_bind (wpAny_pure ?_) | skip
  refine wpAny_bind (wpAny_sequenceKey hl.typeIs (by decide) ?_)
  refine wpAny_bind (wpAny_callSpecial?_slot (name := Str.ofString "__setitem__") hl.typeIs slot_list_setitem
    (wpAny_call_entry slot_list_setitem hl.typeIs entry_list_setitem ?_ (args_list_setitem _ _ _)))
  show wpAny _ _ (Builtin.List.listSubscript? (.ref sl) >>= _) _ _ s
  refine wpAny_bind ?_
  unfold Builtin.List.listSubscript?
  refine wpAny_bind (wpAny_specialOf hTs slice_no_index ?_)
  simp only [Option.isNone_none, if_true]
  refine wpAny_pure ?_
  show wpAny _ _ (typeOf (.ref sl) >>= _) _ _ s
  refine wpAny_bind (wpAny_typeOf hTs ?_)
  first
    | rw [if_neg (by decide)]
    | refine PySem.W.KFB.if_not (by decide) ?_
  rw [listSliceParts_eq]
  refine wpAny_bind (wpAny_bind (wpAny_field hos hds (x := .none) rfl (wpAny_bind (wpAny_listPart .none ?_))))
  rw [if_neg hstep]
  refine wpAny_bind (wpAny_field hos hds (x := vl) rfl (wpAny_bind (wpAny_listPart pl ?_)))
  refine wpAny_bind (wpAny_field hos hds (x := vu) rfl (wpAny_bind (wpAny_listPart pu (wpAny_pure ?_))))
  first
    | simp only [hsame, Bool.false_eq_true, if_false]
    | refine PySem.W.KFB.if_not hsame ?_
    | (dsimp only
       rw [if_neg (by rw [hsame]; exact Bool.false_ne_true)])
  refine wpAny_bind (m := Builtin.List.listAllItems (.ref b) "must assign iterable to extended slice") ?_
  unfold Builtin.List.listAllItems
  refine wpAny_bind (wpAny_typeOf hb.typeIs ?_)
  first
    | refine PySem.W.KFB.if_so (by decide) ?_
    | rw [if_pos (by decide)]
    | simp only [beq_self_eq_true, Bool.true_or, if_true]
  unfold Builtin.List.listItems
  refine wpAny_bind (wpAny_seqItems e2 rfl (wpAny_pure ?_))
  refine wpAny_bind (wpAny_bind (wpAny_seqItems e rfl (wpAny_pure ?_)))
  refine wpAny_bind (wpAny_of_eq ((sliceIndices_raw (some (a : Int)) (some (c : Int)) none items.size (by simp)).trans (congrArg (pure : Int × Int × Int → Sem (Int × Int × Int)) (bounds_run hac hc))) ?_)
  show wpAny _ _ (if ((1 : Int) == 1) = true then _ else _) _ _ s
  rw [if_pos (by decide)]
  refine wpAny_bind (wpAny_rule ?_)
  first
    | simp only [notLongL hsz, Bool.false_eq_true, if_false]
    | refine PySem.W.KFB.if_not (notLongL hsz) ?_
  first | refine wpAny_bind (wpAny_pure ?_) | skip
  show wpAny _ _ (updateSeq l (fun xs => xs.extract 0 ((a : Int)).toNat ++ new ++ xs.extract (max (a : Int) (c : Int)).toNat xs.size) >>= _) _ _ s
  rw [hmax, Int.toNat_natCast]
  refine wpAny_bind (wpAny_updateSeq (hz := Nat.le_trans (Nat.le_add_right _ _) hsz) (_hz' := hz') e rfl ?_)
  refine wpAny_bind (wpAny_letGo ?_)
  first
    | exact wpAny_bind (wpAny_pure (wpAny_pure ⟨.none, rfl, wpAny_pure h⟩))
    | exact wpAny_pure ⟨.none, rfl, wpAny_pure h⟩
end
section
variable {X : Cx}
end
end L2
namespace Att
open PySem PySem.W PySem.Calls PyProof.Rows
theorem ints_of_wellAll {P : Params} {h : Heap} : ∀ (ns : List Int) (vs : List Value), WellAll P h vs (ns.map WData.int) → IntsAre vs ns := by
  intro ns
  induction ns with
  | nil =>
    intro vs w
    rw [List.map_nil] at w
    cases w
    exact .nil
  | cons n ns ih =>
    intro vs w
    rw [List.map_cons] at w
    cases w with
    | cons a b =>
      cases a
      exact .cons _ _ (ih _ b)
theorem script_of {l : OpenLaw} {n : Nat} (hn : l.most = some n) {P : Params} {h : Heap} {args : List WData} {vals : List Value}
    (hpre : l.row.toRowW.claim.pre args = true) (hwl : WellAll P h vals args) :
    ∃ a vs ns, vals = [Value.ref a] ∧ args = [WData.list (ns.map WData.int)] ∧ h.get? a = some { cls := .type "list", data := .seq vs.toArray } ∧ IntsAre vs ns ∧ ns.length ≤ n := by
  have hsh : WShape.hasAll [] args [.list .int] = true := (pre_splitW hpre).1
  have hc : l.pre.holds [] { args := args } = true := (pre_splitW hpre).2
  obtain ⟨d, r, rfl, h1, h2⟩ := hasAllW_cons hsh
  obtain rfl := hasAllW_nil h2
  obtain ⟨xs, rfl, h3⟩ := hasW_list h1
  obtain ⟨ns, rfl⟩ := items_int h3
  have hlen : ns.length ≤ n := by
    unfold OpenLaw.pre at hc
    have h4 : (WTm.not (.lt (.lit (.int (n : Int))) (.len (.arg 0)))).holds [] { args := [.list (ns.map .int)] } = true := by
      have h4 := (holds_andW hc).1
      rw [hn] at h4
      exact h4
    have h5 := condW_of h4 (w_not (w_lt w_lit (w_len_list (w_arg rfl))))
    rw [List.length_map] at h5
    refine Nat.le_of_not_lt fun q => ?_
    have q' : (n : Int) < ((ns.length : Nat) : Int) := by omega
    first
      | (rw [decide_eq_true q'] at h5; exact absurd h5 (by decide))
      | (simp at h5; omega)
  cases hwl with
  | cons w1 w2 =>
    cases w2
    cases w1 with
    | list ho hall => exact ⟨_, _, ns, rfl, rfl, ho, ints_of_wellAll ns _ hall, hlen⟩
theorem post_true (l : OpenLaw) (args : List WData) : l.row.toRowW.claim.post args (.bool true) args = true :=
  postW_of (r := l.row.toRowW) (X := (true == true))
    (show WShape.has [] (.bool true) .bool = true by first | rfl | decide | simp [WShape.has, WShape.arms, WShape.armsAll])
    (show (WTm.eq .res (.lit (.bool true))).value [] { args := args, res := some (.bool true), after := args } = some (.bool (true == true)) from w_eq_bool (w_res rfl) w_lit) rfl
theorem attach_call {l : OpenLaw} {n : Nat} {q : Program} {loose : List Str} {XP : (Str → Option Value) → Heap → Prop} {YP : World → Heap → Prop} {d : DefRec}
    (hn : l.most = some n) (hdf : d.params.defaults = [])
    (call : ∀ (w : World) (s₀ s₁ : Shared) (mg mb : Str → Option Value) (fa : Addr) (o : Obj) (pm cd doc : Value) (a : Addr) (vs : List Value) (ns : List Int),
      Ground q loose [] XP w s₀ mg mb s₁.heap → YP w s₁.heap →
      s₁.heap.get? fa = some o → o.data = .func (docDef d.name d.params d.body d.scope pm cd doc) → s₁.heap.CodeRec cd d.name → mg d.name = some (.ref fa) →
      s₁.heap.get? a = some { cls := .type "list", data := .seq vs.toArray } → IntsAre vs ns → ns.length ≤ n → s₁.gens = #[] →
      codeAny (model l.prog w) callerA (.call (.ref fa) ⟨[.ref a], []⟩) (fun r s' => r = .ok (.ret (.bool true)) ∧ OldK s₁.heap s'.heap ∧ s'.os = s₁.os ∧ AllBare s'.gens) s₁) :
    WalkO q loose XP YP l.row.toRowW d [] (fun f vs => PySem.call f vs) := by
  intro w s₀ s₁ mg mb G Y fa o pm cd doc dV kV ho hd hcd hD hmg hg args vals as hpre hlay hrd hwl hlo
  obtain rfl : dV = .none := Dflts.none hD hdf
  obtain rfl : kV = .none := Dflts.noKw hD
  obtain ⟨a, vs, ns, rfl, rfl, hobj, hints, hlen⟩ := script_of hn hpre hwl
  refine enter_call (codeAny_mono (call w s₀ s₁ mg mb fa o pm cd doc a vs ns G Y ho (fd_plain hd) hcd hmg hobj hints hlen hg) fun r s' hq => ?_)
  obtain ⟨rfl, h2, h3, h4⟩ := hq
  exact ⟨.inl ⟨.bool true, .bool true, [], rfl, fun _ => rfl, .bool true, post_true l _, fun _ => ⟨List.Pairwise.nil, fun _ hm => (nomatch hm)⟩⟩, h2, h3, h4⟩
section
variable {prog : Program} {w : World} {A : Around} {E : Value → Shared → Prop} {s : Shared} {K : Frag}
end
end Att
namespace L2
open PySem PySem.Spec PyProof.Rows
theorem vals_ints : ∀ {vs : List Value} {ns : List Int}, IntsAre vs ns → Vals (ns.map V.int) vs
  | _, _, .nil => .nil
  | _, _, .cons n t h => .cons ⟨t, rfl⟩ (vals_ints h)
def Only (H : Hp) : Prop := ∀ b, H b = none ∨ ∃ o xs, H b = some (.frz o (.lst xs))
theorem law_call {P : Program} {w : World} {K : PySem.W.Frag} {mg mb : Str → Option Value} {CX : CXT} {k : Nat} {fa a : Addr} {fd : FuncData} {x : Str} {sp : Sp} {s₁ : Shared} {vs : List Value} {ns : List Int}
    (KX : K.In s₁.heap) (hns : s₁.heap.Ns mainGlobals mg) (hb : s₁.heap.Ns builtinsNs mb) (hbb : ∀ x : Str, x ≠ "__name__" → mb x = bootBuiltins x) (hlim : s₁.heap.NoLimit) (hg : s₁.gens = #[])
    (ha : s₁.heap.get? a = some { cls := .type "list", data := .seq vs.toArray }) (hi : IntsAre vs ns) (hl : ns.length ≤ sizeLine) (hr : Room k callerA)
    (F : ∀ base : Heap, K.In base → base.Ns mainGlobals mg → FnOk P w K mg base CX k fa fd [x] sp) (hbind : ∀ (s : Shared) (u : Value), BindsTo s fd ⟨[u], []⟩ [(x, u)])
    (hsp : ∀ H : Hp, Only H → SqL K H a (ns.map V.int) → sp [.ref a] H (fun v _ => v = .bl true) fun _ _ _ => False)
    (hCX : ∀ H e s', CX [] H s₁ (fun _ _ _ => False) e s' → False) :
    codeAny (model P w) callerA (.call (.ref fa) ⟨[.ref a], []⟩) (fun r s' => r = .ok (.ret (.bool true)) ∧ OldK s₁.heap s'.heap ∧ s'.os = s₁.os ∧ AllBare s'.gens) s₁ := by
  have rv := vals_ints hi
  have lenV := hi.length
  -- from an abstract heap in which nothing but the script may be tracked
  have core : ∀ H : Hp, Only H → SqL K H a (ns.map V.int) → HOk P w H s₁.heap → (∀ b, H b ≠ none → b = a) → (H a ≠ none → K.lookup a = none) →
      codeAny (model P w) callerA (.call (.ref fa) ⟨[.ref a], []⟩) (fun r s' => r = .ok (.ret (.bool true)) ∧ OldK s₁.heap s'.heap ∧ s'.os = s₁.os ∧ AllBare s'.gens) s₁ := by
    intro H hO hS hok hA hK
    have base_of : ∀ {b : Addr} {o : Obj}, s₁.heap.get? b = some o → H b = none → (hidT s₁.heap H).get? b = some o := fun e n => hidT_get e n
    have noA : ∀ {b : Addr} {o : Obj} {es : Array DictEntry} {ep : Nat}, s₁.heap.get? b = some o → o.data = .dict es ep → H b = none := fun {b o es ep} e d => by
      cases q : H b with
      | none => rfl
      | some u =>
        have e' : b = a := hA b (by rw [q]; simp)
        subst e'
        rw [ha] at e; cases e
        have d' : Data.seq vs.toArray _ = Data.dict es ep := d
        cases d'
    have nsK : ∀ {b : Addr} {m : Str → Option Value}, s₁.heap.Ns b m → (hidT s₁.heap H).Ns b m := fun {b m} ⟨o, es, ep, e, d, r⟩ => ⟨o, es, ep, base_of e (noA e d), d, r⟩
    have hKb : K.In (hidT s₁.heap H) := fun b o e => base_of (KX b o e) (by
      cases q : H b with
      | none => rfl
      | some u =>
        have e' : b = a := hA b (by rw [q]; simp)
        subst e'
        rw [hK (by rw [q]; simp)] at e; cases e)
    have hM : Mod K mg (hidT s₁.heap H) := ⟨hKb, nsK hns, ⟨mb, nsK hb, hbb⟩, let ⟨mc, h1, h2⟩ := hlim; ⟨mc, nsK h1, h2⟩⟩
    have e0 : Env0 P w K mg (hidT s₁.heap H) callerA [] s₁ H := ⟨rfl, hM, fun b o e => of_hidT e, Nat.le_of_eq (hidT_size _ _), trivial, fun b hb => absurd (show b ∈ ([] : List Addr) from hb) (by simp), hok, .of_eq hg⟩
    refine codeAny_mono ((F _ hKb (nsK hns)).run callerA [] s₁ H ⟨[.ref a], []⟩ [.ref a] [.ref a] _ _ hr e0 (hbind s₁ (.ref a)) (.cons rfl .nil) (hsp H hO hS)) fun r s' h => ?_
    cases r with
    | error e => exact (hCX H e s' h).elim
    | ok fl =>
      cases fl with
      | next => exact False.elim h
      | brk => exact False.elim h
      | cont => exact False.elim h
      | ret u =>
        obtain ⟨v, H', os, bare, un, hok', r', q⟩ := h
        have q' : v = .bl true := q
        subst q'
        obtain rfl : u = Value.bool true := r'
        refine ⟨rfl, OldK.of_keep fun b o e => ?_, os, bare⟩
        cases q : H b with
        | none => exact un.keep b o e q (by intro z; exact absurd (show b ∈ ([] : List Addr) from z) (by simp)) (by simp)
        | some u =>
          rcases hO b with z | ⟨ob, xs, z⟩
          · rw [q] at z; cases z
          · have z2 := un.frzs b ob _ z
            obtain ⟨e1, _⟩ := hok b _ z
            obtain ⟨e2, _⟩ := hok' b _ z2
            rw [e] at e1; cases e1
            exact e2
  cases hk : K.lookup a with
  | some o =>
    -- the script is one of the module's own objects
    have e := KX a o hk
    rw [ha] at e
    cases e
    refine core (fun _ => none) (fun _ => .inl rfl) (.inr ⟨_, vs.toArray, _, hk, rfl, rfl, rfl, by rw [List.size_toArray, lenV]; exact hl, by simpa using rv⟩) (fun b u z => by have z' : (none : Option HO) = some u := z; cases z') (fun b z => absurd rfl z) fun z => absurd rfl z
  | none =>
    refine core (fun b => if b = a then some (.frz { cls := .type "list", data := .seq vs.toArray } (.lst (ns.map V.int))) else none) (fun b => ?_) (.inl (.inr ⟨{ cls := .type "list", data := .seq vs.toArray }, if_pos rfl⟩)) (fun b u z => ?_) (fun b z => ?_) fun _ => hk
    · by_cases hb : b = a
      · exact .inr ⟨_, _, if_pos hb⟩
      · exact .inl (if_neg hb)
    · by_cases hb : b = a
      · have z' := (if_pos hb).symm.trans z
        cases z'
        subst hb
        exact ⟨ha, by rw [List.length_map]; exact hl, vs, _, rv, ha⟩
      · have z' := (if_neg hb).symm.trans z
        cases z'
    · by_cases hb : b = a
      · exact hb
      · exact absurd (if_neg hb) z
end L2
namespace L2
open PySem PySem.Spec PyProof.Rows
theorem walk_of {l : PySem.W.OpenLaw} {n k : Nat} {q : Program} {loose : List Str} {XP : (Str → Option Value) → Heap → Prop} {YP : World → Heap → Prop} {d : DefRec} {K : Params → PySem.W.Frag} {CX : World → CXT} {sp : World → Sp} {x : Str}
    (hn : l.most = some n) (hn2 : n ≤ sizeLine) (hdf : d.params.defaults = []) (hr : Room k callerA)
    (hY : ∀ (w : World) (h : Heap), YP w h → (K w.params).In h)
    (F : ∀ (w : World) (mg : Str → Option Value) (fa : Addr) (h : Heap), (K w.params).In h → h.Ns mainGlobals mg → mg d.name = some (.ref fa) →
      ∃ fd : FuncData, (∀ (s : Shared) (u : Value), BindsTo s fd ⟨[u], []⟩ [(x, u)]) ∧
        ∀ base : Heap, (K w.params).In base → base.Ns mainGlobals mg → FnOk l.prog w (K w.params) mg base (CX w) k fa fd [x] (sp w))
    (hsp : ∀ (w : World) (H : Hp) (a : Addr) (ns : List Int), ns.length ≤ n → Only H → SqL (K w.params) H a (ns.map V.int) → sp w [.ref a] H (fun v _ => v = .bl true) fun _ _ _ => False)
    (hCX : ∀ (w : World) (H : Hp) (s : Shared) (e : Value) (s' : Shared), CX w [] H s (fun _ _ _ => False) e s' → False) :
    PySem.W.WalkO q loose XP YP l.row.toRowW d [] (fun f vs => PySem.call f vs) := by
  refine Att.attach_call hn hdf fun w s₀ s₁ mg mb fa o pm cd doc a vs ns G Y ho hd hcd hmg hobj hints hlen hg => ?_
  have KX := hY w _ Y
  obtain ⟨fd, hb, hF⟩ := F w mg fa _ KX G.T.g hmg
  exact law_call KX G.T.g G.T.b G.T.builtins G.T.nolimit hg hobj hints (Nat.le_trans hlen hn2) hr hF hb (fun H hO hS => hsp w H a ns hlen hO hS) fun H e s' => hCX w H s₁ e s'
end L2
namespace L2
open PySem PySem.Spec PyProof.Rows
def defArgs (s : Stmt) : Arguments := match s with
  | .FunctionDef _ a _ _ _ _ _ _ _ _ => a
  | _ => { posonlyargs := [], args := [], vararg := none, kwonlyargs := [], kw_defaults := [], kwarg := none, defaults := [] }
def defBody (s : Stmt) : List Stmt := match s with
  | .FunctionDef _ _ b _ _ _ _ _ _ _ => b
  | _ => []
def defScope (s : Stmt) : Scope := match s with
  | .FunctionDef _ _ _ _ _ _ sc _ _ _ => sc
  | _ => { kind := .function, names := [], isGenerator := false, isCoroutine := false }
abbrev CX0 : CXT := fun _ _ _ _ _ _ => False
abbrev E0 : XK := fun _ _ _ => False
theorem pass0 {X : Cx} : Passes CX0 X E0 := fun _ _ _ _ _ _ _ h => h.elim
structure Fun (K : PySem.W.Frag) (x qual : Str) (st : Stmt) (f : Addr) (fd : FuncData) : Prop where
  ex : ∃ (oc : Value) (od : Option Addr) (kV doc pm : Value) (an : Option Addr) (cdv ct : Value) (osl : Array (Option Value)),
    fd = PySem.W.fnOf x qual (defArgs st) (defBody st) (defScope st) .none kV doc pm an cdv ct ∧ K.lookup f = some ⟨oc, od, .func fd, osl⟩ ∧ PySem.W.codeIn K cdv qual = true
  kp : PySem.W.keepIn K (.ref f) = true
section
variable {P : Program} {w : World} {K : PySem.W.Frag} {mg : Str → Option Value} {base : Heap}
theorem Fun.ok {x qual : Str} {st : Stmt} {f : Addr} {fd : FuncData} {N ps : List Str} {k : Nat} {sp : Sp} (F : Fun K x qual st f fd) (S : FnScope N ps (defScope st)) (len : ∀ vs H Q E, sp vs H Q E → vs.length = ps.length)
    (hbody : ∀ (cdv : Value) (A : Around) (outer : List Env) (s : Shared) (H : Hp) (vs : List V) (Q : VK) (E : XK), Room k (A.deeper (envOfC qual (defScope st) s.heap.objs.size f cdv)) → sp vs H Q E →
      ∃ t, PSs (cxOf CX0 P w K mg base N qual (defScope st) f cdv A outer s H E).nox (defBody st) t ∧ t { nx := fun _ H' => Q .non H', rt := Q } (start N vs) H) : FnOk P w K mg base CX0 (k + 1) f fd ps sp := by
  obtain ⟨oc, od, kV, doc, pm, an, cdv, ct, osl, rfl, lk, hcd⟩ := F.ex
  refine fn_of lk hcd S len fun A outer s H vs Q E hr hsp => ?_
  obtain ⟨t, h, q⟩ := hbody cdv A outer s H vs Q E hr hsp
  exact ⟨t, h.nox, q⟩
theorem Fun.binds {x qual : Str} {st : Stmt} {f : Addr} {fd : FuncData} {ps : List Str} (F : Fun K x qual st f fd)
    (h : ∀ (kV doc pm : Value) (an : Option Addr) (cdv ct : Value) (us : List Value), us.length = ps.length → bindArgs (PySem.W.fnOf x qual (defArgs st) (defBody st) (defScope st) .none kV doc pm an cdv ct) ⟨us, []⟩ = pure (ps.zip us)) : Binds K fd ps [] := by
  obtain ⟨oc, od, kV, doc, pm, an, cdv, ct, osl, rfl, lk, hcd⟩ := F.ex
  exact .all (h kV doc pm an cdv ct)
theorem fun_mk {x qual : Str} {st : Stmt} {f : Addr} {oc : Value} {od an : Option Addr} {osl : Array (Option Value)} {kV doc pm cdv ct : Value} (l : K.lookup f = some ⟨oc, od, .func (PySem.W.fnOf x qual (defArgs st) (defBody st) (defScope st) .none kV doc pm an cdv ct), osl⟩)
    (c : PySem.W.codeIn K cdv qual = true) (k : PySem.W.keepIn K (.ref f) = true) : Fun K x qual st f (PySem.W.fnOf x qual (defArgs st) (defBody st) (defScope st) .none kV doc pm an cdv ct) := ⟨⟨oc, od, kV, doc, pm, an, cdv, ct, osl, rfl, l, c⟩, k⟩
end
theorem small1000 {n : Nat} (h : n ≤ 1000) : n < sizeLine := Nat.lt_of_le_of_lt h (by decide)
section
variable {X : Cx}
end
theorem ite2 {c A B : Prop} [Decidable c] (h1 : c → A) (h2 : ¬ c → B) : if c then A else B := by
  by_cases h : c
  · rw [if_pos h]
    exact h1 h
  · rw [if_neg h]
    exact h2 h
def Same (H H' : Hp) : Prop := ∀ b o, H b = some o → H' b = some o
theorem Same.refl (H : Hp) : Same H H := fun _ _ h => h
theorem Same.trans {H H1 H2 : Hp} (a : Same H H1) (b : Same H1 H2) : Same H H2 := fun c o h => b c o (a c o h)
theorem Same.free {H H' : Hp} (e : Same H H') {l : Addr} (h : H' l = Option.none) : H l = Option.none := by
  cases q : H l with
  | none => rfl
  | some o =>
    rw [e l o q] at h
    cases h
theorem Same.seq {K : PySem.W.Frag} {H H' : Hp} {a : Addr} {xs : List V} (e : Same H H') (h : SqL K H a xs) : SqL K H' a xs := by
  rcases h with (h | ⟨o, h⟩) | h
  · exact .inl (.inl (e _ _ h))
  · exact .inl (.inr ⟨o, e _ _ h⟩)
  · exact .inr h
end L2
set_option Elab.async false
set_option linter.all false
set_option maxRecDepth 100000
namespace L2
open PySem PySem.Spec PyProof.Rows
def kindV (H : Hp) : V → Option String
  | .non => some "NoneType"
  | .bl _ => some "bool"
  | .int _ => some "int"
  | .str _ => some "str"
  | .ref p => match H p with
    | some (.lst _) => some "list"
    | some (.tup _) => some "tuple"
    | _ => none
  | _ => none
def subT (a b : String) : Bool := a == b || (a == "bool" && b == "int")
def plainT (T : String) : Prop := T = "int" ∨ T = "bool" ∨ T = "tuple" ∨ T = "list" ∨ T = "str"
section
variable {X : Cx}
theorem call_isi : CallR X (.builtin "isinstance") (fun xs H Q => ∃ x T k, xs = [x, .ty T] ∧ plainT T ∧ kindV H x = some k ∧ Q (.bl (subT k T)) H) := by
  intro pins s σ H xs us Q I r h
  obtain ⟨x, T, k, rfl, hT, hk, q⟩ := h
  obtain ⟨u, w', rfl, rx, ry⟩ := vals2 r
  cases (show w' = Value.type T from ry)
  have fin : ∀ {b : Bool} {s' : Shared}, b = subT k T → Inv X pins σ H s' → EP X pins σ Q (.bool b) s' := fun {b s'} e J => ⟨.bl b, H, J, rfl, by rw [e]; exact q⟩
  cases x with
  | non =>
    cases (show u = Value.none from rx)
    cases hk
    rcases hT with rfl | rfl | rfl | rfl | rfl
    · exact IsiPair.NoneType_int (fin (by decide) (I.tok _))
    · exact IsiPair.NoneType_bool (fin (by decide) (I.tok _))
    · exact IsiPair.NoneType_tuple (fin (by decide) (I.tok _))
    · exact IsiPair.NoneType_list (fin (by decide) (I.tok _))
    · exact IsiPair.NoneType_str (fin (by decide) (I.tok _))
  | bl b =>
    cases (show u = Value.bool b from rx)
    cases hk
    rcases hT with rfl | rfl | rfl | rfl | rfl
    · exact IsiPair.bool_int (fin (by decide) I)
    · exact IsiPair.bool_bool (fin (by decide) I)
    · exact IsiPair.bool_tuple (fin (by decide) (I.tok _))
    · exact IsiPair.bool_list (fin (by decide) (I.tok _))
    · exact IsiPair.bool_str (fin (by decide) (I.tok _))
  | int i =>
    obtain ⟨t, rfl⟩ := (show ∃ t, u = Value.int i t from rx)
    cases hk
    rcases hT with rfl | rfl | rfl | rfl | rfl
    · exact IsiPair.int_int (fin (by decide) I)
    · exact IsiPair.int_bool (fin (by decide) (I.tok _))
    · exact IsiPair.int_tuple (fin (by decide) (I.tok _))
    · exact IsiPair.int_list (fin (by decide) (I.tok _))
    · exact IsiPair.int_str (fin (by decide) (I.tok _))
  | str z =>
    obtain ⟨t, rfl⟩ := (show ∃ t, u = Value.str z t from rx)
    cases hk
    rcases hT with rfl | rfl | rfl | rfl | rfl
    · exact IsiPair.str_int (fin (by decide) (I.tok _))
    · exact IsiPair.str_bool (fin (by decide) (I.tok _))
    · exact IsiPair.str_tuple (fin (by decide) (I.tok _))
    · exact IsiPair.str_list (fin (by decide) (I.tok _))
    · exact IsiPair.str_str (fin (by decide) I)
  | ref p =>
    cases (show u = Value.ref p from rx)
    cases e : H p with
    | none => simp [kindV, e] at hk
    | some o =>
      cases o with
      | lst ys =>
        have hk' : k = "list" := by simp [kindV, e] at hk; exact hk.symm
        subst hk'
        obtain ⟨its, n, rr, ho, hz⟩ := I.lst e
        rcases hT with rfl | rfl | rfl | rfl | rfl
        · exact IsiPair.list_int ho rfl (fin (by decide) (I.tok _))
        · exact IsiPair.list_bool ho rfl (fin (by decide) (I.tok _))
        · exact IsiPair.list_tuple ho rfl (fin (by decide) (I.tok _))
        · exact IsiPair.list_list ho rfl (fin (by decide) I)
        · exact IsiPair.list_str ho rfl (fin (by decide) (I.tok _))
      | tup ys =>
        have hk' : k = "tuple" := by simp [kindV, e] at hk; exact hk.symm
        subst hk'
        obtain ⟨its, rr, ⟨ob, ho, hc, _⟩, hz⟩ := I.tuple (xs := ys) (.inl (.inl e))
        rcases hT with rfl | rfl | rfl | rfl | rfl
        · exact IsiPair.tuple_int ho hc (fin (by decide) (I.tok _))
        · exact IsiPair.tuple_bool ho hc (fin (by decide) (I.tok _))
        · exact IsiPair.tuple_tuple ho hc (fin (by decide) I)
        · exact IsiPair.tuple_list ho hc (fin (by decide) (I.tok _))
        · exact IsiPair.tuple_str ho hc (fin (by decide) (I.tok _))
      | _ => simp [kindV, e] at hk
  | _ => cases hk
def rBits : V → List V → Hp → VK → Prop := fun x xs H Q => ∃ i, x = .int i ∧ xs = [] ∧ Q (.int (Builtin.Int.intBits i : Nat)) H
theorem mt_bits : MtR X "int.bit_length" rBits := by
  intro pins s σ H x xs v us Q I rx rs h
  obtain ⟨i, rfl, rfl, q⟩ := h
  obtain ⟨t, rfl⟩ := rx
  cases rs
  exact call_gives F.slot_int_bit_length (typeIs_int s i t) F.entry_int_bit_length (F.args_int_bit_length_1 _) (AutoIntG2.int_bit_length_int_0 i t) ⟨.int (Builtin.Int.intBits i : Nat), H, I.tok _, ⟨_, rfl⟩, q⟩
def CMulB (i j : Int) : Prop := Builtin.Int.intBits i + Builtin.Int.intBits j ≤ 134217728
theorem op_mulB : OpR X (binaryOp .Mult) (rI CMulB fun i j => .int (i * j)) := opI fun i j _ _ _ _ _ hc q => mul_int q (mulOk_of_bits (Nat.le_refl _) (Nat.le_refl _) hc)
def CDivB (i j : Int) : Prop := 0 < j ∧ j.natAbs.log2 < 9000
theorem op_fdivB : OpR X (binaryOp .FloorDiv) (rI CDivB fun i j => .int (i / j)) := opI fun i j _ _ _ _ _ hc q => by
  have h1 : (0 : Int) < j := hc.1
  exact floordiv_int (by omega) (by rw [Int.fdiv_eq_ediv_of_nonneg i (by omega)]; exact q) (.inl (PyProof.noPylong_of_log2 hc.2))
def CDivF (i j : Int) : Prop := j ≠ 0 ∧ j.natAbs.log2 < 9000
theorem op_fdivF : OpR X (binaryOp .FloorDiv) (rI CDivF fun i j => .int (i.fdiv j)) := opI fun i j _ _ _ _ _ hc q =>
  floordiv_int hc.1 q (.inl (PyProof.noPylong_of_log2 hc.2))
def eqVs : List V → List V → Bool
  | [], [] => true
  | x :: xs, y :: ys => eqV x y && eqVs xs ys
  | _, _ => false
end
end L2
namespace L2
open PySem PySem.Spec PyProof.Rows
def Fn0 (K : PySem.W.Frag) (mg : Str → Option Value) (x : Str) (st : Stmt) : Prop := ∃ f fd, Fun K x x st f fd ∧ mg x = some (.ref f)
theorem fn0_mk {K : PySem.W.Frag} {mg : Str → Option Value} {h : Heap} (X : K.In h) (G : h.Ns mainGlobals mg) {x : Str} {st : Stmt} {f : Addr} {oc : Value} {od an : Option Addr} {osl : Array (Option Value)} {kV doc pm cdv ct : Value}
    (a : PySem.W.nsIn K mainGlobals x = some (some (.ref f))) (l : K.lookup f = some ⟨oc, od, .func (PySem.W.fnOf x x (defArgs st) (defBody st) (defScope st) .none kV doc pm an cdv ct), osl⟩) (c : PySem.W.codeIn K cdv x = true) (k : PySem.W.keepIn K (.ref f) = true) : Fn0 K mg x st :=
  ⟨f, _, fun_mk l c k, PySem.W.mg_of X G a⟩
def Cal (P : Program) (w : World) (K : PySem.W.Frag) (mg : Str → Option Value) (base : Heap) (x : Str) (ps : List Str) (k : Nat) (sp : Sp) : Prop :=
  ∃ f fd, mg x = some (.ref f) ∧ PySem.W.keepIn K (.ref f) = true ∧ Binds K fd ps [] ∧ FnOk P w K mg base CX0 k f fd ps sp
theorem cal_of {P : Program} {w : World} {K : PySem.W.Frag} {mg : Str → Option Value} {base : Heap} {x : Str} {st : Stmt} {N ps : List Str} {k : Nat} {sp : Sp} (F : Fn0 K mg x st) (S : FnScope N ps (defScope st))
    (hb : ∀ (kV doc pm : Value) (an : Option Addr) (cdv ct : Value) (us : List Value), us.length = ps.length → bindArgs (PySem.W.fnOf x x (defArgs st) (defBody st) (defScope st) .none kV doc pm an cdv ct) ⟨us, []⟩ = pure (ps.zip us))
    (len : ∀ vs H Q E, sp vs H Q E → vs.length = ps.length)
    (hbody : ∀ (f : Addr) (cdv : Value) (A : Around) (outer : List Env) (s : Shared) (H : Hp) (vs : List V) (Q : VK) (E : XK), Room k (A.deeper (envOfC x (defScope st) s.heap.objs.size f cdv)) → sp vs H Q E →
      ∃ t, PSs (cxOf CX0 P w K mg base N x (defScope st) f cdv A outer s H E).nox (defBody st) t ∧ t { nx := fun _ H' => Q .non H', rt := Q } (start N vs) H) : Cal P w K mg base x ps (k + 1) sp := by
  obtain ⟨f, fd, F, m⟩ := F
  exact ⟨f, fd, m, F.kp, F.binds hb, F.ok S len fun cdv A outer s H vs Q E => hbody f cdv A outer s H vs Q E⟩
section
variable {X : Cx} {x : Str} {ps : List Str} {k : Nat} {sp : Sp} {e : Expr} {es : List Expr} {t : TA} {p pos : Pos}
theorem pe_callC (C : Cal X.prog X.w X.K X.mg X.base x ps k sp) (hr : Room k X.A) (hg : Gl X x) (ha : PA X (e :: es) t) (hdb : (x == ("__debug__" : Str)) = false := by decide)
    (he : starEach (e :: es) X.env = (false, eval e X.env) :: starEach es X.env := by rfl) (hpl : (backTo pos (starEach es X.env)).any (·.1) = false := by rfl) : PE X (.Call (.Name x p) (e :: es) [] pos) (tCall sp [] E0 t) := by
  obtain ⟨f, fd, m, kp, b, F⟩ := C
  exact pe_call F hr hg m kp b .nil pass0 ha hdb he hpl
theorem pe_gint {i : Int} (hm : ∃ t, X.mg x = some (.int i t)) (hg : Gl X x) (hd : (x == ("__debug__" : Str)) = false := by decide) : PE X (.Name x pos) (tC (.int i)) := by
  obtain ⟨t, hm⟩ := hm
  exact pe_glob hg hm ⟨t, rfl⟩ hd
end
theorem mg_int {K : PySem.W.Frag} {mg : Str → Option Value} {h : Heap} (X : K.In h) (G : h.Ns mainGlobals mg) {x : Str} {i : Int} {t : Tok} (a : PySem.W.nsIn K mainGlobals x = some (some (.int i t))) : ∃ t, mg x = some (.int i t) := ⟨t, PySem.W.mg_of X G a⟩
theorem Same.upd {H H' : Hp} {a : Addr} {o : HO} (e : Same H H') (h : H a = none) : Same H (upd H' a o) := fun b o' q => by
  rw [upd_ne (ne_of_none q h)]
  exact e b o' q
theorem Same.new {H : Hp} {a : Addr} {o : HO} (h : H a = none) : Same H (L2.upd H a o) := (Same.refl H).upd h
end L2
set_option Elab.async false
set_option linter.all false
set_option maxRecDepth 100000
namespace L2
open PySem PySem.Spec PyProof.Rows
def rIxTH : R2 := fun x y H Q => ∃ p xs i v, x = .ref p ∧ y = .int i ∧ H p = some (.tup xs) ∧ atI xs i = some v ∧ Q v H
def rIxLH : R2 := fun x y H Q => ∃ p xs i v, x = .ref p ∧ y = .int i ∧ H p = some (.lst xs) ∧ atI xs i = some v ∧ Q v H
theorem ix_tupH {X : Cx} : IxR X rIxTH := by
  intro value slice pins s σ H x y v u Q I rx ry h hs
  obtain ⟨p, xs, i, z, e1, e2, hp, ha, q⟩ := h
  exact ix_tup value slice pins s σ H x y v u Q I rx ry ⟨p, xs, i, z, e1, e2, .inl (.inl hp), ha, q⟩ hs
theorem ix_listH {X : Cx} : IxR X rIxLH := by
  intro value slice pins s σ H x y v u Q I rx ry h hs
  obtain ⟨p, xs, i, z, e1, e2, hp, ha, q⟩ := h
  exact ix_list value slice pins s σ H x y v u Q I rx ry ⟨p, xs, i, z, e1, e2, .inl (.inl hp), ha, q⟩ hs
def rEqTH : R2 := fun x y H Q => ∃ a b xs ys, x = .ref a ∧ y = .ref b ∧ H a = some (.tup xs) ∧ H b = some (.tup ys) ∧ xs.all flatV = true ∧ ys.all flatV = true ∧ Q (.bl (eqVs xs ys)) H
def rLenH : List V → Hp → VK → Prop := fun xs H Q => ∃ p ys, xs = [V.ref p] ∧ (H p = some (.lst ys) ∨ H p = some (.tup ys)) ∧ Q (.int ys.length) H
theorem call_lenH {X : Cx} : CallR X (.builtin "len") rLenH := by
  intro pins s σ H xs us Q I r h
  obtain ⟨p, ys, e, hp, q⟩ := h
  exact call_len_seq pins s σ H xs us Q I r ⟨p, ys, e, hp.imp (fun z => .inl (.inl z)) (fun z => .inl (.inl z)), q⟩
theorem pe_bty {X : Cx} {x : Str} {n : String} {pos : Pos} (hg : Gl X x) (hm : X.mg x = none) (hv : bootBuiltins x = some (.type n)) (hn : x ≠ "__name__" := by decide) (hd : (x == ("__debug__" : Str)) = false := by decide) : PE X (.Name x pos) (tC (.ty n)) :=
  pe_bltn hg hm hv rfl hn hd
theorem atI_0 {α : Type} {x : α} {xs : List α} : atI (x :: xs) 0 = some x := by simp [atI, ixN]
theorem atI_1 {α : Type} {x y : α} {xs : List α} : atI (x :: y :: xs) 1 = some y := by
  have h : (1 : Int) < (xs.length : Int) + 1 + 1 := by omega
  simp [atI, ixN, h]
theorem atI_2 {α : Type} {x y z : α} {xs : List α} : atI (x :: y :: z :: xs) 2 = some z := by
  have h : (2 : Int) < (xs.length : Int) + 1 + 1 + 1 := by omega
  simp [atI, ixN, h]
theorem atI_nn {α : Type} {xs : List α} {i : Int} {v : α} (h0 : 0 ≤ i) (h : xs[i.toNat]? = some v) : atI xs i = some v := by
  have hl : i.toNat < xs.length := (List.getElem?_eq_some_iff.mp h).1
  have hl' : i < xs.length := by omega
  unfold atI ixN
  rw [if_pos h0, if_pos hl']
  exact h
theorem ixN_00 (n : Nat) : ixN (n + 1) 0 = some 0 := by
  have : (0 : Int) < (n : Int) + 1 := by omega
  simp [ixN, this]
theorem while_W {c : TT} {tb : TS} {D : Ends} {σ : St} {H : Hp} (Pv : St → Hp → Prop) (μ : St → Hp → Nat) (h0 : Pv σ H)
    (hs : ∀ σ H, Pv σ H → c σ H fun b H1 => if b = true then ∃ N : St → Hp → Prop, (∀ σ' H', N σ' H' → ∃ m', m' < μ σ H ∧ m' = μ σ' H' ∧ Pv σ' H') ∧ tb { D with nx := N, ct := N, bk := D.nx } σ H1 else D.nx σ H1) : tWhile c tb D σ H :=
  ⟨fun m σ H => m = μ σ H ∧ Pv σ H, ⟨_, rfl, h0⟩, by rintro m σ H ⟨rfl, p⟩; exact hs σ H p⟩
theorem N_ok {Pv : St → Hp → Prop} {μ : St → Hp → Nat} {k : Nat} : ∀ σ' H', (Pv σ' H' ∧ μ σ' H' < k) → ∃ m', m' < k ∧ m' = μ σ' H' ∧ Pv σ' H' := fun _ _ ⟨a, b⟩ => ⟨_, b, rfl, a⟩
def ForGo (J : It) (g : TG) (tb : TS) (D : Ends) (σ : St) (H : Hp) : Prop := ∃ W : Nat → Nat → St → Hp → Prop, (∃ m, W 0 m σ H) ∧ ∀ i m σ H, W i m σ H →
  (J.stop i H ∧ D.nx σ H) ∨ (J.go i H ∧ ∃ N : St → Hp → Prop, (∀ σ' H', N σ' H' → ∃ m', m' < m ∧ W (i + 1) m' σ' H') ∧ ∀ x H', J.yld i H x H' → g x σ H' fun σ2 H2 => tb { D with nx := N, ct := N, bk := D.nx } σ2 H2)
theorem tFor_eq {wi : TI} {g : TG} {tb : TS} {D : Ends} {σ : St} {H : Hp} : tFor wi g tb D σ H = wi σ H fun J H1 => ForGo J g tb D σ H1 := rfl
theorem go_range {lo : Int} {n : Nat} {g : TG} {tb : TS} {D : Ends} {σ : St} {H : Hp} (Pv : Nat → St → Hp → Prop) (h0 : Pv 0 σ H)
    (hs : ∀ i σ H, i < n → Pv i σ H → g (.int (lo + i)) σ H fun σ2 H2 => tb { D with nx := Pv (i + 1), ct := Pv (i + 1), bk := D.nx } σ2 H2) (hd : ∀ σ H, Pv n σ H → D.nx σ H) : ForGo (Itr lo n) g tb D σ H := for_range Pv h0 hs hd
theorem go_list {K : PySem.W.Frag} {a : Addr} {xs : List V} {g : TG} {tb : TS} {D : Ends} {σ : St} {H : Hp} (Pv : Nat → St → Hp → Prop) (h0 : Pv 0 σ H) (hl : ∀ i σ H, i ≤ xs.length → Pv i σ H → SqL K H a xs)
    (hs : ∀ i x σ H, xs[i]? = some x → Pv i σ H → g x σ H fun σ2 H2 => tb { D with nx := Pv (i + 1), ct := Pv (i + 1), bk := D.nx } σ2 H2) (hd : ∀ σ H, Pv xs.length σ H → D.nx σ H) : ForGo (Itl K a) g tb D σ H := for_list Pv h0 hl hs hd
def notStar : Expr → Bool
  | .Starred .. => false
  | _ => true
theorem starEach_plain {e : Expr} {es : List Expr} {env : Env} (h : notStar e = true) : starEach (e :: es) env = (false, eval e env) :: starEach es env := by
  cases e <;> first | rfl | exact absurd (show false = true from h) Bool.false_ne_true
def plainArgs : List Expr → Bool
  | [] => true
  | e :: es => notStar e && plainArgs es
theorem backTo_plain {pos : Pos} {env : Env} : ∀ {es : List Expr}, plainArgs es = true → (backTo pos (starEach es env)).any (·.1) = false
  | [], _ => rfl
  | e :: es, h => by
    have h' : notStar e = true ∧ plainArgs es = true := by simpa [plainArgs] using h
    rw [starEach_plain h'.1]
    show (false || (backTo pos (starEach es env)).any (·.1)) = false
    rw [backTo_plain h'.2]
    rfl
def isComp : Expr → Bool
  | .ListComp .. => true
  | .SetComp .. => true
  | .DictComp .. => true
  | _ => false
theorem swaps_plain {e : Expr} {t : Option Expr} {n : Nat} {env : Env} (h : isComp e = false) : swapsWith e t n env = pure false := by
  cases e <;> first | rfl | exact absurd (show true = false from h) Bool.noConfusion
section
variable {X : Cx} {x : Str} {ps : List Str} {k : Nat} {sp : Sp} {e : Expr} {es : List Expr} {te : TE} {t : TA} {p pos : Pos} {id : String} {r : List V → Hp → VK → Prop}
theorem pa_c (ha : PE X e te) (hr : PA X es t) (hs : notStar e = true := by rfl) : PA X (e :: es) (tCons te t) := pa_cons ha hr (starEach_plain hs)
theorem pe_callD (C : Cal X.prog X.w X.K X.mg X.base x ps k sp) (hr : Room k X.A) (hg : Gl X x) (ha : PA X (e :: es) t) (hs : plainArgs (e :: es) = true := by rfl) (hdb : (x == ("__debug__" : Str)) = false := by decide) :
    PE X (.Call (.Name x p) (e :: es) [] pos) (tCall sp [] E0 t) :=
  have h' : notStar e = true ∧ plainArgs es = true := by simpa [plainArgs] using hs
  pe_callC C hr hg ha hdb (starEach_plain h'.1) (backTo_plain h'.2)
theorem pe_callE (hc : CallR X (.builtin id) r) (hg : Gl X x) (hm : X.mg x = none) (hv : bootBuiltins x = some (.builtin id)) (ha : PA X (e :: es) t) (hs : plainArgs (e :: es) = true := by rfl) (hn : x ≠ "__name__" := by decide) (hdb : (x == ("__debug__" : Str)) = false := by decide) :
    PE X (.Call (.Name x p) (e :: es) [] pos) (tCB r t) :=
  have h' : notStar e = true ∧ plainArgs es = true := by simpa [plainArgs] using hs
  pe_callB hc hg hm hv ha hn hdb (starEach_plain h'.1) (backTo_plain h'.2)
theorem ps_set1 {i : Nat} {pos' : Pos} (hN : X.N.Nodup) (hi : X.N[i]? = some x) (hx : X.env.scope.names.lookup x = some .local) (he : PE X e te) (hs : isComp e = false := by rfl) : PS X (.Assign [.Name x pos'] e pos) (tAsg te (gName i)) :=
  ps_set hN hi (.inl hx) he (swaps_plain hs) (.inr hx)
theorem pg_name1 {i : Nat} (hN : X.N.Nodup) (hi : X.N[i]? = some x) (hx : X.env.scope.names.lookup x = some .local) : PG X (.Name x pos) (gName i) := pg_name hN hi (.inl hx) (.inr hx)
theorem ps_expr1 (he : PE X e te) (hs : isComp e = false := by rfl) : PS X (.Expr e pos) (tDrop te) := ps_expr he (swaps_plain hs)
theorem pv1 (i : Nat) (hN : X.N[i]? = some x := by rfl) (hv : X.env.scope.names.lookup x = some .local := by rfl) (hd : (x == ("__debug__" : Str)) = false := by decide) (hcd : (x == ("__classdict__" : Str)) = false := by decide) : PE X (.Name x pos) (tVar i) := pe_var hN (.inl hv) hd hcd
end
theorem bt_len : bootBuiltins "len" = some (.builtin "len") := by decide +kernel
theorem bt_abs : bootBuiltins "abs" = some (.builtin "abs") := by decide +kernel
theorem bt_max : bootBuiltins "max" = some (.builtin "max") := by decide +kernel
theorem bt_min : bootBuiltins "min" = some (.builtin "min") := by decide +kernel
theorem bt_isinstance : bootBuiltins "isinstance" = some (.builtin "isinstance") := by decide +kernel
theorem bt_int : bootBuiltins "int" = some (.type "int") := by decide +kernel
theorem bt_bool : bootBuiltins "bool" = some (.type "bool") := by decide +kernel
theorem bt_tuple : bootBuiltins "tuple" = some (.type "tuple") := by decide +kernel
theorem bt_list : bootBuiltins "list" = some (.type "list") := by decide +kernel
end L2
set_option Elab.async false
set_option linter.all false
set_option maxRecDepth 100000
set_option maxHeartbeats 1000000
namespace L2
open PySem PySem.Spec PyProof.Rows
def clOf (cells : List (Str × Addr)) : List (Str × NameKind) → List (Str × Addr) → List (Str × Addr)
  | [], acc => acc
  | (n, k) :: r, acc => if k == .free then clOf cells r ((n, (cells.lookup n).getD 0) :: acc) else clOf cells r acc
theorem closure_go {env : Env} : ∀ (names : List (Str × NameKind)) (acc : List (Str × Addr)), (∀ p ∈ names, p.2 = .free → ∃ c, env.cells.lookup p.1 = some c) →
    (forIn (m := Sem) names acc fun x r => (match x with | (name, kind) => if (kind == NameKind.free) = true then do let a ← cellOf env name; pure (ForInStep.yield ((name, a) :: r)) else pure (ForInStep.yield r))) = pure (clOf env.cells names acc) := by
  intro names
  induction names with
  | nil => intro acc _; rfl
  | cons p r ih =>
    intro acc h
    obtain ⟨n, k⟩ := p
    rw [List.forIn_cons]
    by_cases hk : (k == NameKind.free) = true
    · obtain ⟨c, hc⟩ := h (n, k) List.mem_cons_self (by simpa using hk)
      have e1 : cellOf env n = pure c := by unfold cellOf; rw [hc]
      simp only [hk, if_true, e1]
      have := ih ((n, c) :: acc) fun p hp => h p (List.mem_cons_of_mem _ hp)
      show _ = pure (clOf env.cells ((n, k) :: r) acc)
      rw [clOf, if_pos hk, hc]
      exact this
    · simp only [hk]
      have := ih acc fun p hp => h p (List.mem_cons_of_mem _ hp)
      show _ = pure (clOf env.cells ((n, k) :: r) acc)
      rw [clOf, if_neg hk]
      exact this
theorem closure_is {scope : Scope} {env : Env} (h : ∀ p ∈ scope.names, p.2 = .free → ∃ c, env.cells.lookup p.1 = some c) : closureFor scope env = pure (clOf env.cells scope.names []) := by
  unfold closureFor
  exact Eq.trans (congrArg (fun z => z >>= fun s => pure s) (closure_go (env := env) scope.names [] h)) rfl
theorem clOf_mem {cells : List (Str × Addr)} : ∀ (names : List (Str × NameKind)) (acc : List (Str × Addr)), (∀ p ∈ names, p.2 = .free → ∃ c, cells.lookup p.1 = some c) → (∀ q ∈ acc, cells.lookup q.1 = some q.2) → ∀ q ∈ clOf cells names acc, cells.lookup q.1 = some q.2
  | [], acc, _, h => h
  | (n, k) :: r, acc, h1, h2 => by
    rw [clOf]
    by_cases hk : (k == NameKind.free) = true
    · rw [if_pos hk]
      refine clOf_mem r _ (fun p hp => h1 p (List.mem_cons_of_mem _ hp)) fun q hq => ?_
      rcases List.mem_cons.mp hq with rfl | hq
      · obtain ⟨c, hc⟩ := h1 (n, k) List.mem_cons_self (by simpa using hk)
        rw [hc]
        rfl
      · exact h2 q hq
    · rw [if_neg hk]
      exact clOf_mem r _ (fun p hp => h1 p (List.mem_cons_of_mem _ hp)) h2
theorem clOf_has {cells : List (Str × Addr)} {x : Str} : ∀ (names : List (Str × NameKind)) (acc : List (Str × Addr)), ((x, NameKind.free) ∈ names ∨ ∃ c, (x, c) ∈ acc) → ∃ c, (x, c) ∈ clOf cells names acc
  | [], acc, h => h.elim (fun z => absurd z (by simp)) id
  | (n, k) :: r, acc, h => by
    rw [clOf]
    by_cases hk : (k == NameKind.free) = true
    · rw [if_pos hk]
      refine clOf_has r _ ?_
      rcases h with h | ⟨c, hc⟩
      · rcases List.mem_cons.mp h with e | h
        · cases e
          exact .inr ⟨_, List.mem_cons_self⟩
        · exact .inl h
      · exact .inr ⟨c, List.mem_cons_of_mem _ hc⟩
    · rw [if_neg hk]
      refine clOf_has r _ ?_
      rcases h with h | h
      · rcases List.mem_cons.mp h with e | h
        · cases e
          exact absurd rfl hk
        · exact .inl h
      · exact .inr h
theorem lookup_some_of_mem {x : Str} {c : Addr} : ∀ {l : List (Str × Addr)}, (x, c) ∈ l → ∃ c', l.lookup x = some c'
  | (n, d) :: r, h => by
    rw [List.lookup_cons]
    cases e : x == n with
    | true => exact ⟨d, rfl⟩
    | false =>
      rcases List.mem_cons.mp h with z | h
      · cases z
        simp at e
      · exact lookup_some_of_mem h
theorem clOf_from {cells : List (Str × Addr)} {q : Str × Addr} : ∀ (names : List (Str × NameKind)) (acc : List (Str × Addr)), q ∈ clOf cells names acc → (q.1, NameKind.free) ∈ names ∨ q ∈ acc
  | [], acc, h => .inr h
  | (n, k) :: r, acc, h => by
    rw [clOf] at h
    by_cases hk : (k == NameKind.free) = true
    · rw [if_pos hk] at h
      have hk' : k = .free := by simpa using hk
      rcases clOf_from r _ h with h | h
      · exact .inl (List.mem_cons_of_mem _ h)
      · rcases List.mem_cons.mp h with rfl | h
        · exact .inl (by rw [hk']; exact List.mem_cons_self)
        · exact .inr h
    · rw [if_neg hk] at h
      exact (clOf_from r _ h).imp (List.mem_cons_of_mem _) id
theorem cellsFrom_spec {x : Str} {c : Addr} : ∀ (names : List (Str × NameKind)) (h : Heap) (acc : List (Str × Addr)), (x, c) ∈ cellsFrom h.objs.size names acc → (x, c) ∈ acc ∨ (h.objs.size ≤ c ∧ (pushCells h names).IsCell c none ∧ (x, NameKind.cell) ∈ names)
  | [], _, _, h => .inl h
  | (n, k) :: r, hp, acc, h => by
    unfold cellsFrom at h
    unfold pushCells
    by_cases hk : (k == NameKind.cell) = true
    · rw [if_pos hk] at h ⊢
      have hk' : k = .cell := by simpa using hk
      have h' : (x, c) ∈ cellsFrom (hp.push { cls := .type "cell", data := .cell none }).objs.size r ((n, hp.objs.size) :: acc) := by rw [Heap.size_push]; exact h
      rcases cellsFrom_spec r _ _ h' with h | ⟨h1, h2, h3⟩
      · rcases List.mem_cons.mp h with e | h
        · cases e
          exact .inr ⟨Nat.le_refl _, ⟨_, pushCells_keeps r _ _ _ (Heap.get?_push_size _ rfl), rfl⟩, by rw [hk']; exact List.mem_cons_self⟩
        · exact .inl h
      · rw [Heap.size_push] at h1
        exact .inr ⟨by omega, h2, List.mem_cons_of_mem _ h3⟩
    · rw [if_neg hk] at h ⊢
      exact (cellsFrom_spec r hp acc h).imp id fun ⟨h1, h2, h3⟩ => ⟨h1, h2, List.mem_cons_of_mem _ h3⟩
theorem cellsFrom_has {x : Str} : ∀ (names : List (Str × NameKind)) (n : Nat) (acc : List (Str × Addr)), ((x, NameKind.cell) ∈ names ∨ ∃ c, (x, c) ∈ acc) → ∃ c, (x, c) ∈ cellsFrom n names acc
  | [], _, acc, h => h.elim (fun z => absurd z (by simp)) id
  | (y, k) :: r, n, acc, h => by
    unfold cellsFrom
    by_cases hk : (k == NameKind.cell) = true
    · rw [if_pos hk]
      refine cellsFrom_has r _ _ ?_
      rcases h with h | ⟨c, hc⟩
      · rcases List.mem_cons.mp h with e | h
        · cases e
          exact .inr ⟨_, List.mem_cons_self⟩
        · exact .inl h
      · exact .inr ⟨c, List.mem_cons_of_mem _ hc⟩
    · rw [if_neg hk]
      refine cellsFrom_has r _ _ ?_
      rcases h with h | h
      · rcases List.mem_cons.mp h with e | h
        · cases e
          exact absurd rfl hk
        · exact .inl h
      · exact .inr h
theorem cellsFrom_inj {lo : Nat} : ∀ (names : List (Str × NameKind)) (n : Nat) (acc : List (Str × Addr)), (∀ x c, (x, c) ∈ acc → c < n) → (∀ x y c, lo ≤ c → (x, c) ∈ acc → (y, c) ∈ acc → x = y) → ∀ x y c, lo ≤ c → (x, c) ∈ cellsFrom n names acc → (y, c) ∈ cellsFrom n names acc → x = y
  | [], _, _, _, h => h
  | (z, k) :: r, n, acc, h1, h2 => by
    unfold cellsFrom
    by_cases hk : (k == NameKind.cell) = true
    · rw [if_pos hk]
      refine cellsFrom_inj r _ _ (fun x c hm => ?_) fun x y c hc hx hy => ?_
      · rcases List.mem_cons.mp hm with e | hm
        · cases e; exact Nat.lt_succ_self _
        · exact Nat.lt_succ_of_lt (h1 x c hm)
      · rcases List.mem_cons.mp hx with e | hx <;> rcases List.mem_cons.mp hy with e' | hy
        · cases e; cases e'; rfl
        · cases e; exact absurd (h1 _ _ hy) (Nat.lt_irrefl _)
        · cases e'; exact absurd (h1 _ _ hx) (Nat.lt_irrefl _)
        · exact h2 x y c hc hx hy
    · rw [if_neg hk]
      exact cellsFrom_inj r n acc h1 h2
def blkCells (scope : Scope) (env : Env) (n : Nat) : List (Str × Addr) := cellsFrom (n + 1) scope.names (clOf env.cells scope.names [])
def cxC (X : Cx) (N' : List Str) (scope : Scope) (s : Shared) (H : Hp) (ex : List Addr) : Cx :=
  { X with N := N', s₀ := s, H₀ := H, env := compEnvC scope (blkCells scope X.env s.heap.objs.size) s.heap.objs.size X.env, outer := X.stack, ex := ex, fn := fun x => decide ((x, NameKind.cell) ∈ scope.names), pn := [] }
def pick (σ : St) (ix : List (Option Nat)) : St := ix.map fun o => match o with | some i => (match σ[i]? with | some v => v | none => none) | none => none
structure Scp (psc : Scope) (PN N' : List Str) (ix : List (Option Nat)) (scope : Scope) : Prop where
  kind : scope.kind = .function
  names : ∀ x ∈ scope.names, x.2 = .local → scope.names.lookup x.1 = some .local
  uni : ∀ x ∈ scope.names, x.2 = .free → scope.names.lookup x.1 = some .free
  apart : ∀ x ∈ scope.names, x.2 = .cell → (x.1, NameKind.free) ∉ scope.names
  free : ∀ x ∈ scope.names, x.2 = .free → psc.names.lookup x.1 = some .cell ∨ psc.names.lookup x.1 = some .free
  len : ix.length = N'.length
  at_ : ∀ (j i : Nat) (x : Str), N'[j]? = some x → ix[j]? = some (some i) → PN[i]? = some x ∧ (x, NameKind.free) ∈ scope.names
section
variable {X : Cx} {pins : List (Addr × Obj)} {σ : St} {H : Hp} {s : Shared} {N' : List Str} {ix : List (Option Nat)} {scope : Scope} {fp : List Addr}
theorem relabel_names_free {env : Env} : ∀ {names : List (Str × NameKind)} {x : Str}, names.lookup x = some .free →
    (names.map fun (n, k) => if (k == NameKind.free && env.scope.kind == .function && env.kindOf n == some .cell) then (n, NameKind.cell) else (n, k)).lookup x = some .cell ∨
    (names.map fun (n, k) => if (k == NameKind.free && env.scope.kind == .function && env.kindOf n == some .cell) then (n, NameKind.cell) else (n, k)).lookup x = some .free
  | [], _, h => by simp at h
  | (n, k) :: r, x, h => by
    have ih := @relabel_names_free env r x
    simp only [List.map_cons]
    cases hx : x == n with
    | true =>
      simp only [List.lookup_cons, hx] at h
      cases h
      by_cases hc : (NameKind.free == NameKind.free && env.scope.kind == .function && env.kindOf n == some .cell) = true
      · rw [if_pos hc]; simp [List.lookup_cons, hx]
      · rw [if_neg hc]; simp [List.lookup_cons, hx]
    | false =>
      simp only [List.lookup_cons, hx] at h
      by_cases hc : (k == NameKind.free && env.scope.kind == .function && env.kindOf n == some .cell) = true
      · rw [if_pos hc]; simp only [List.lookup_cons, hx]; exact ih h
      · rw [if_neg hc]; simp only [List.lookup_cons, hx]; exact ih h
theorem relabel_is_free {scope : Scope} {env : Env} {x : Str} (h : scope.names.lookup x = some .free) : (relabel scope env).names.lookup x = some .cell ∨ (relabel scope env).names.lookup x = some .free := relabel_names_free h
theorem relabel_kind {scope : Scope} {env : Env} {x : Str} (h : (relabel scope env).names.lookup x = some .cell ∨ (relabel scope env).names.lookup x = some .free) : (x, NameKind.cell) ∈ scope.names ∨ (x, NameKind.free) ∈ scope.names := by
  have : ∃ k, (x, k) ∈ (relabel scope env).names ∧ (k = .cell ∨ k = .free) := by
    rcases h with h | h
    · exact ⟨_, PySem.mem_of_lookup h, .inl rfl⟩
    · exact ⟨_, PySem.mem_of_lookup h, .inr rfl⟩
  obtain ⟨k, hm, hk⟩ := this
  obtain ⟨⟨n, k'⟩, hm', e⟩ := List.mem_map.mp hm
  dsimp only at e
  split at e
  · rename_i hc
    cases e
    have : k' = .free := by simp at hc; exact hc.1.1
    rw [this] at hm'
    exact .inr hm'
  · cases e
    rcases hk with rfl | rfl
    · exact .inl hm'
    · exact .inr hm'
theorem inv_comp (I : Inv X pins σ H s) (S : Scp X.env.scope X.N N' ix scope) (hf : ∀ b ∈ fp, FpOk X pins H b) (hfl : ∀ b ∈ fp, b < s.heap.objs.size) (t' : Nat) :
    Inv (cxC X N' scope s H fp) [] (pick σ ix) H { s with heap := pushCells (s.heap.push { cls := .type "dict", data := .dict #[] }) scope.names, toks := t' } := by
  have hn : (pushCells (s.heap.push { cls := .type "dict", data := .dict #[] }) scope.names).Ns s.heap.objs.size fun _ => none := (Heap.Ns.new s.heap (.type "dict")).keeps (pushCells_keeps _ _)
  have hk : ∀ b o, s.heap.get? b = some o → (pushCells (s.heap.push { cls := .type "dict", data := .dict #[] }) scope.names).get? b = some o := fun b o e => pushCells_keeps _ _ b o (Heap.get?_push_of_some _ e)
  have hfr : ∀ p ∈ scope.names, p.2 = NameKind.free → ∃ c, X.env.cells.lookup p.1 = some c := fun p hp e => I.ok.has p.1 (S.free p hp e)
  have clm : ∀ q ∈ clOf X.env.cells scope.names [], X.env.cells.lookup q.1 = some q.2 := clOf_mem scope.names [] hfr (by simp)
  have spec : ∀ x c, (blkCells scope X.env s.heap.objs.size).lookup x = some c → (X.env.cells.lookup x = some c ∧ (x, NameKind.free) ∈ scope.names) ∨
      (s.heap.objs.size < c ∧ (pushCells (s.heap.push { cls := .type "dict", data := .dict #[] }) scope.names).IsCell c none ∧ (x, NameKind.cell) ∈ scope.names) := fun x c e => by
    have hm : (x, c) ∈ cellsFrom (s.heap.push { cls := .type "dict", data := .dict #[] }).objs.size scope.names (clOf X.env.cells scope.names []) := by rw [Heap.size_push]; exact PySem.mem_of_lookup e
    rcases cellsFrom_spec scope.names _ _ hm with h | ⟨h1, h2, h3⟩
    · exact .inl ⟨clm _ h, (clOf_from scope.names [] h).elim id (fun z => absurd z (by simp))⟩
    · rw [Heap.size_push] at h1
      exact .inr ⟨h1, h2, h3⟩
  have hasC : ∀ x, ((relabel scope X.env).names.lookup x = some .cell ∨ (relabel scope X.env).names.lookup x = some .free) → ∃ c, (blkCells scope X.env s.heap.objs.size).lookup x = some c := fun x hx => by
    have : ∃ c, (x, c) ∈ blkCells scope X.env s.heap.objs.size := cellsFrom_has scope.names _ _ ((relabel_kind hx).imp id fun z => clOf_has scope.names [] (.inl z))
    obtain ⟨c, hc⟩ := this
    exact lookup_some_of_mem hc
  have cold : ∀ x c, X.env.cells.lookup x = some c → c < s.heap.objs.size := fun x c e => let ⟨v, q⟩ := I.cell x c e; q.lt
  refine ⟨⟨I.ok.mod, S.kind, I.ok.glob, I.ok.blt, Nat.le_refl _, fun x y c e1 e2 => ?_, hasC, fun x c z e => ?_, I.ok.hd, I.ok.frames, .inl rfl,
    fun b hb => ⟨Nat.ne_of_lt (hfl b hb), fun x c e => ?_⟩, I.bs, Nat.le_trans I.ok.bsz I.sz, fun b o e hb => ?_, fun b hb z => ?_, I.stack, I.stkFree⟩,
    rfl, I.bare, Un.kept hk, ⟨_, hn, fun j x v e1 e2 e3 => ?_⟩, fun x c e => ?_, I.hok.fresh (Nat.le_refl _), fun x c e => ?_, fun p hp => absurd (show p ∈ ([] : List (Addr × Obj)) from hp) (by simp), I.hok.kept hk, ?_⟩
  · by_cases hc : c < s.heap.objs.size + 1
    · rcases spec x c e1 with ⟨q1, _⟩ | ⟨q1, _⟩
      · rcases spec y c e2 with ⟨q2, _⟩ | ⟨q2, _⟩
        · exact I.ok.inj x y c q1 q2
        · exact absurd q2 (Nat.not_lt.mpr (Nat.le_of_lt_succ hc))
      · exact absurd q1 (Nat.not_lt.mpr (Nat.le_of_lt_succ hc))
    · exact cellsFrom_inj (lo := s.heap.objs.size + 1) scope.names _ _ (fun x c hm => Nat.lt_succ_of_lt (cold x c (clm _ hm))) (fun x y c hc hx _ => absurd (cold x c (clm _ hx)) (Nat.not_lt.mpr (Nat.le_trans (Nat.le_succ _) hc))) x y c (Nat.not_lt.mp hc) (PySem.mem_of_lookup e1) (PySem.mem_of_lookup e2)
  · have z' : (x, NameKind.cell) ∈ scope.names := of_decide_eq_true z
    rcases spec x c e with ⟨_, q⟩ | ⟨q, _⟩
    · exact absurd q (S.apart _ z' rfl)
    · exact Nat.le_of_lt q
  · rcases spec x c e with ⟨q, _⟩ | ⟨q, _⟩
    · exact (hf b hb).2.2.2.2.1 x c q
    · exact fun z => absurd (hfl b hb) (Nat.not_lt.mpr (z ▸ Nat.le_of_lt q))
  · exact (hf b hb).2.2.2.1.elim (fun z => I.ok.noex b o e z) fun z => absurd (Nat.lt_of_lt_of_le (Heap.lt_size e) I.ok.bsz) (Nat.not_lt.mpr z)
  · have hb2 := hf b hb
    rcases List.mem_cons.mp (I.stkSub b z) with q | q
    · exact hb2.2.1 q
    · exact hb2.2.2.1 q
  · have e4 : ∃ i, ix[j]? = some (some i) ∧ σ[i]? = some (some v) := by
      have e2' : (pick σ ix)[j]? = some (some v) := e2
      unfold pick at e2'
      rw [List.getElem?_map] at e2'
      cases q : ix[j]? with
      | none => rw [q] at e2'; cases e2'
      | some o =>
        rw [q] at e2'
        cases o with
        | none => cases e2'
        | some i =>
          refine ⟨i, rfl, ?_⟩
          cases z : σ[i]? with
          | none => simp [z] at e2'
          | some y => simp [z] at e2'; rw [e2']
    obtain ⟨i, e4, e5⟩ := e4
    obtain ⟨a1, a2⟩ := S.at_ j i x e1 e4
    have a3 := S.free _ a2 rfl
    obtain ⟨m0, hn0, hl0⟩ := I.loc
    obtain ⟨u, r, l⟩ := hl0 i x v a1 e5 (.inr a3)
    refine ⟨u, r, ?_⟩
    rcases l with ⟨k1, _⟩ | ⟨k1, c, hcl, hce⟩
    · have k1' : X.env.scope.names.lookup x = some .local := k1
      rcases a3 with z | z <;> (rw [k1'] at z; cases z)
    · -- the name is captured here
      have e3' : (relabel scope X.env).names.lookup x = some .local ∨ (relabel scope X.env).names.lookup x = some .cell ∨ (relabel scope X.env).names.lookup x = some .free := e3
      have k3 := relabel_is_free (env := X.env) (S.uni _ a2 rfl)
      obtain ⟨c', hc'⟩ := hasC x k3
      rcases spec x c' hc' with ⟨q, _⟩ | ⟨_, _, q⟩
      · rw [hcl] at q
        cases q
        exact .inr ⟨k3, c, hc', hce.keeps hk⟩
      · exact absurd a2 (S.apart _ q rfl)
  · rcases spec x c e with ⟨q, _⟩ | ⟨q, q2, _⟩
    · obtain ⟨v, q'⟩ := I.cell x c q
      exact ⟨v, q'.keeps hk⟩
    · exact ⟨none, q2⟩
  · rcases spec x c e with ⟨q, _⟩ | ⟨q, _⟩
    · exact I.freeC x c q
    · exact I.hok.fresh (Nat.le_of_lt q)
  · show (pick σ ix).length = N'.length
    unfold pick
    rw [List.length_map]
    exact S.len
end
section
variable {prog : Program} {w : World} {A : Around} {R : Result → Shared → Prop} {s : Shared}
def testsOf (ifs : List Expr) (env : Env) : Sem Bool := forIn ifs true fun c r => if r = true then do let ok ← isTrue c env (eval c env); pure (ForInStep.yield ok) else pure (ForInStep.yield r)
theorem compLoop_any {elt target iter : Expr} {ifs : List Expr} {scope : Scope} {pos : Pos} {it acc : Value} {env : Env} (I : Nat → Shared → Prop)
    (turn : ∀ n s, I n s → wpAny (model prog w) A (pyNext it) (fun r s₁ => match r with
      | none => R (.ok .next) s₁
      | some v => wpAny (model prog w) A (letOwnedTupleGo target it v) (fun _ s₁' => wpAny (model prog w) A (assign target env v) (fun _ s₂ => wpAny (model prog w) A (testsOf ifs env) (fun ok s₃ =>
          if ok = true then wpAny (model prog w) A (eval elt env) (fun x s₄ => wpAny (model prog w) A (call (.builtin "list.append") [acc, x]) (fun _ s₅ => ∃ m, m < n ∧ I m s₅) (fun _ _ => False) s₄) (fun _ _ => False) s₃
          else ∃ m, m < n ∧ I m s₃) (fun _ _ => False) s₂) (fun _ _ => False) s₁') (fun _ _ => False) s₁) (fun _ _ => False) s)
    (n : Nat) (h : I n s) : codeAny (model prog w) A (.compLoop (.ListComp elt [⟨target, iter, ifs, 0⟩] scope pos) 0 it acc env) R s := by
  refine codeAny_loop rfl I (fun n s hI => ?_) n h
  show wpAny _ _ ((compTurn (.ListComp elt [⟨target, iter, ifs, 0⟩] scope pos) 0 it acc env).onRaise (fun x => do noteFrame x env; theTreesLotGoes x)) _ _ s
  refine wpAny_noted ?_
  rw [compTurn_list]
  refine wpAny_bind (wpAny_standAt (wpAny_bind (wpAny_mono (turn n s hI) (fun r s₁ h₁ => ?_) fun _ _ h' => h'.elim)))
  cases r with
  | none => exact wpAny_pure h₁
  | some v =>
    refine wpAny_bind (wpAny_mono h₁ (fun _ s₁' h₁' => ?_) fun _ _ h' => h'.elim)
    refine wpAny_bind (wpAny_mono h₁' (fun _ s₂ h₂ => wpAny_bind (wpAny_mono h₂ (fun ok s₃ h₃ => ?_) fun _ _ h' => h'.elim)) fun _ _ h' => h'.elim)
    cases ok with
    | false => exact wpAny_pure ⟨rfl, h₃⟩
    | true =>
      exact wpAny_bind (wpAny_bind (wpAny_mono h₃ (fun x s₄ h₄ => wpAny_bind (wpAny_mono h₄ (fun _ s₅ h₅ => wpAny_pure (wpAny_pure ⟨rfl, h₅⟩)) fun _ _ h' => h'.elim)) fun _ _ h' => h'.elim))
end
theorem newEnv_comp {M : Model} {A : Around} {E : Value → Shared → Prop} {s : Shared} {scope : Scope} {globals : Addr} {cl : List (Str × Addr)} {qual : Str} {env : Env} {Q : Env → Shared → Prop}
    (hQ : Q { scope := scope, locals := s.heap.objs.size, globals := globals, cells := cellsFrom (s.heap.objs.size + 1) scope.names cl, qual := qual, func := none, code := env.code, frame := env.frame, builtins := env.builtins } { s with heap := pushCells (s.heap.push { cls := .type "dict", data := .dict #[] }) scope.names }) :
    wpAny M A (newFunctionEnv scope globals cl [] qual none .none (some env)) Q E s := by
  simp only [newFunctionEnv, Option.isSome_some, if_true]
  refine wpAny_bind (wpAny_alloc ?_)
  refine wpAny_bind (wpAny_layCells _ (fun name kind cells => by cases hkc : kind == NameKind.cell <;> simp [hkc]) _ _ _ _ ?_)
  rw [show ({ s with heap := s.heap.push { cls := .type "dict", data := .dict #[] } } : Shared).heap.objs.size = s.heap.objs.size + 1 from Heap.size_push ..]
  exact wpAny_bind (wpAny_pure (wpAny_pure hQ))
def PF (X : Cx) (ifs : List Expr) (t : TT) : Prop :=
  ∀ (pins : List (Addr × Obj)) (s : Shared) (σ : St) (H : Hp) (Q : Bool → Hp → Prop), Inv X pins σ H s → t σ H Q → wpAny (model X.prog X.w) X.A (testsOf ifs X.env) (TP X pins σ Q) X.xe s
def tYes : TT := fun _ H Q => Q true H
theorem pf_nil {X : Cx} : PF X [] tYes := fun _ _ _ H _ I h => wpAny_tests_nil ⟨H, I, h⟩
def CompGo (J : It) (g : TG) (tt : TT) (te : TE) (σ : St) (H : Hp) (Q : VK) : Prop := ∀ D, H D = none → ∃ W : Nat → Nat → St → Hp → Prop, (∃ m, W 0 m σ (upd H D (.lst []))) ∧ ∀ i m σ H, W i m σ H →
  (J.stop i H ∧ Q (.ref D) H) ∨ (J.go i H ∧ ∃ N : St → Hp → Prop, (∀ σ' H', N σ' H' → ∃ m', m' < m ∧ W (i + 1) m' σ' H') ∧ ∀ x H', J.yld i H x H' → g x σ H' fun σ2 H2 => tt σ2 H2 fun b H3 =>
    if b = true then te σ2 H3 fun v H4 => ∃ xs, H4 D = some (.lst xs) ∧ xs.length < sizeLine ∧ N σ2 (upd H4 D (.lst (xs ++ [v]))) else N σ2 H3)
def tComp (ix : List (Option Nat)) (wi : TI) (g : TG) (tt : TT) (te : TE) : TE := fun σ H Q => wi σ H fun J H1 => CompGo J g tt te (pick σ ix) H1 Q
section
variable {X : Cx} {N' : List Str} {ix : List (Option Nat)} {scope : Scope} {tg iter elt : Expr} {ifs : List Expr} {wi : TI} {g : TG} {tt : TT} {te : TE} {pos : Pos}
theorem comp_core (hc : X.calm = true) (hxe : X.xe = fun _ _ => False) (S : Scp X.env.scope X.N N' ix scope) (hi : PI X tg iter wi) (hg : ∀ s H ex, PG (cxC X N' scope s H ex) tg g) (ht : ∀ s H ex, PF (cxC X N' scope s H ex) ifs tt) (he : ∀ s H ex, PE (cxC X N' scope s H ex) elt te)
    {pins : List (Addr × Obj)} {s : Shared} {σ : St} {H : Hp} {Q : VK} (I : Inv X pins σ H s) (h : tComp ix wi g tt te σ H Q) {Post : Value → Addr → Result → Shared → Prop}
    (fin' : ∀ (D C : Addr) (H' : Hp) (s' : Shared), Inv X pins σ H' s' → FpOk X pins H' C → (∃ m, s'.heap.Ns C m) → Q (.ref D) H' → Post (.ref D) C (.ok .next) s') :
    wpAny (model X.prog X.w) X.A (eval iter X.env) (fun x s₁ => wpAny (model X.prog X.w) X.A (pyIter x) (fun it s₂ => wpAny (model X.prog X.w) X.A (newList []) (fun acc s₃ =>
      wpAny (model X.prog X.w) X.A (newFunctionEnv scope X.env.globals (clOf X.env.cells scope.names []) [] X.env.qual none .none (some X.env)) (fun cenv s₄ =>
        codeAny (model X.prog X.w) X.A (.compStart (.ListComp elt [⟨tg, iter, ifs, 0⟩] scope pos) 0 it acc { cenv with scope := relabel scope X.env }) (Post acc cenv.locals) s₄) X.xe s₃) X.xe s₂) X.xe s₁) X.xe s := by
  refine thn (hi pins s σ H _ I h) fun v s1 h1 => thn h1 fun itv s2 h2 => ?_
  obtain ⟨it, fp, tn, J, H2, e, I2, T, st2, f2, go⟩ := h2
  subst e
  refine wpAny_newObj_type ?_
  have hD : H2 s2.heap.objs.size = none := I2.hok.fresh (Nat.le_refl _)
  have I3 : Inv X pins σ (upd H2 s2.heap.objs.size (.lst [])) { s2 with heap := s2.heap.push { cls := .type "list", dict := none, data := .seq ([] : List Value).toArray } } :=
    I2.laid (t' := s2.toks) (fun b u e => Heap.get?_push_of_some _ e) (Nat.le_refl _) ⟨Nat.zero_le _, [], 0, .nil, Heap.get?_push_size _ rfl⟩
  obtain ⟨W, ⟨m0, w0⟩, turn⟩ := go s2.heap.objs.size hD
  have fpl : ∀ b ∈ fp, b < s2.heap.objs.size := fun b hb => let ⟨o, e, _⟩ := T.obj _ _ st2 b hb; Heap.lt_size e
  have tF : ∀ {α : Type} {t : Sem α} {Q' : α → Shared → Prop} {s' : Shared}, wpAny (model X.prog X.w) X.A t Q' X.xe s' → wpAny (model X.prog X.w) X.A t Q' (fun _ _ => False) s' := fun hw => hxe ▸ hw
  generalize hH3 : upd H2 s2.heap.objs.size (.lst []) = H3 at I3 w0
  generalize hs3 : ({ s2 with heap := s2.heap.push { cls := .type "list", dict := none, data := .seq ([] : List Value).toArray } } : Shared) = s3 at I3 ⊢
  have h23 : ∀ b o, s2.heap.get? b = some o → s3.heap.get? b = some o := fun b o e => by rw [← hs3]; exact Heap.get?_push_of_some _ e
  have sz3 : s2.heap.objs.size ≤ s3.heap.objs.size := by rw [← hs3]; show _ ≤ (s2.heap.push _).objs.size; rw [Heap.size_push]; exact Nat.le_succ _
  have fpl3 : ∀ b ∈ fp, b < s3.heap.objs.size := fun b hb => Nat.lt_of_lt_of_le (fpl b hb) sz3
  have f3 : ∀ b ∈ fp, FpOk X pins H3 b := fun b hb => ⟨by rw [← hH3, upd_ne (Nat.ne_of_lt (fpl b hb))]; exact (f2 b hb).1, (f2 b hb).2⟩
  refine newEnv_comp ?_
  generalize hh1 : pushCells (s3.heap.push { cls := .type "dict", data := .dict #[] }) scope.names = h1
  have hk : ∀ b o, s3.heap.get? b = some o → h1.get? b = some o := fun b o e => by rw [← hh1]; exact pushCells_keeps _ _ b o (Heap.get?_push_of_some _ e)
  have I4 : Inv (cxC X N' scope s3 H3 fp) [] (pick σ ix) H3 { s3 with heap := h1 } := by rw [← hh1]; exact inv_comp I3 S f3 fpl3 s3.toks
  have st4 : tn 0 h1 := T.keep _ _ _ st2 fun b hb o e => hk b o (h23 b o e)
  have fin : ∀ {σ' : St} {H' : Hp} {s' : Shared}, Inv (cxC X N' scope s3 H3 fp) [] σ' H' s' → Q (.ref s2.heap.objs.size) H' → Post (.ref s2.heap.objs.size) s3.heap.objs.size (.ok .next) s' := fun {σ' H' s'} J q => by
    obtain ⟨m, hn, _⟩ := J.loc
    have K1 : Inv X pins σ H' s' := I3.call' J.os J.base J.hok J.bare fun b hb => ⟨(f3 b hb).2.2.2.1, (f3 b hb).2.1, (f3 b hb).2.2.2.2.1, (f3 b hb).2.2.2.2.2⟩
    exact fin' _ _ H' s' K1 (I3.fpOk (b := s3.heap.objs.size) (Nat.le_refl _) (show H' s3.heap.objs.size = none from J.free)) ⟨m, hn⟩ q
  have loop : codeAny (model X.prog X.w) X.A (.compLoop (.ListComp elt [⟨tg, iter, ifs, 0⟩] scope pos) 0 (.ref it) (.ref s2.heap.objs.size) (compEnvC scope (blkCells scope X.env s3.heap.objs.size) s3.heap.objs.size X.env)) (Post (.ref s2.heap.objs.size) s3.heap.objs.size) { s3 with heap := h1 } := by
    refine compLoop_any (fun n s' => ∃ i σ' H', Inv (cxC X N' scope s3 H3 fp) [] σ' H' s' ∧ tn i s'.heap ∧ (∀ b ∈ fp, H' b = none) ∧ W i n σ' H') ?_ m0 ⟨0, _, H3, I4, st4, fun b hb => (f3 b hb).1, w0⟩
    rintro n s5 ⟨i, σ5, H5, I5, st5, fr5, w5⟩
    have stat : ∀ {H' : Hp}, (∀ b ∈ fp, H' b = none) → ∀ b ∈ fp, FpOk (cxC X N' scope s3 H3 fp) [] H' b := fun hn b hb => ⟨hn b hb, (I5.ok.exf b hb).1, I5.ok.exfs b hb, .inl hb, (I5.ok.exf b hb).2, fun p hp => absurd (show p ∈ ([] : List (Addr × Obj)) from hp) (by simp)⟩
    rcases turn i n σ5 H5 w5 with ⟨stop, qn⟩ | ⟨go, N, hN, step⟩
    · refine thn (tF (T.done (cxC X N' scope s3 H3 fp) rfl rfl rfl hc i [] s5 σ5 H5 X.xe I5 (stat fr5) st5 stop)) fun r s6 ⟨hr, I6⟩ => ?_
      subst hr
      exact fin I6 qn
    · refine thn (tF (T.item (cxC X N' scope s3 H3 fp) rfl rfl rfl hc i [] s5 σ5 H5 X.xe I5 (stat fr5) st5 go)) fun r s6 ⟨u, hr, h6⟩ => ?_
      subst hr
      refine thn (tF h6) fun _ s7 ⟨x, H7, I7, r7, y7, st7, fr7⟩ => ?_
      have I7' := I7.pinned (stat fr7) (T.obj _ _ st7)
      have again : ∀ {σ' : St} {H' : Hp} {s' : Shared}, Inv (cxC X N' scope s3 H3 fp) ([] ++ pinsAt fp s7.heap) σ' H' s' → N σ' H' → ∃ m, m < n ∧ ∃ i σ' H', Inv (cxC X N' scope s3 H3 fp) [] σ' H' s' ∧ tn i s'.heap ∧ (∀ b ∈ fp, H' b = none) ∧ W i m σ' H' := fun {σ' H' s'} J n10 => by
        obtain ⟨m', hm, w10⟩ := hN σ' H' n10
        refine ⟨m', hm, i + 1, σ', H', J.unpinned, T.keep _ _ _ st7 fun b hb o e => (J.pin (b, o) (List.mem_append_right _ (List.mem_append_right _ (mem_pinsAt hb e)))).1, fun b hb => ?_, w10⟩
        obtain ⟨o, e, d⟩ := T.obj _ _ st7 b hb
        exact (J.pin (b, o) (List.mem_append_right _ (List.mem_append_right _ (mem_pinsAt hb e)))).2.1
      refine thn (tF (hg s3 H3 fp _ s7 σ5 H7 x u _ I7' r7 (step x H7 y7))) fun _ s8 ⟨σ8, H8, I8, q8⟩ => ?_
      refine thn (tF (ht s3 H3 fp _ s8 σ8 H8 _ I8 q8)) fun ok s8' ⟨H8', I8', q8'⟩ => ?_
      cases ok with
      | false => exact again I8' (by simpa using q8')
      | true =>
        rw [if_pos rfl] at q8' ⊢
        refine thn (tF (he s3 H3 fp _ s8' σ8 H8' _ I8' q8')) fun v s9 ⟨y, H9, I9, r9, xs, hl9, hz9, n9⟩ => ?_
        exact thn (tF (mt_append (X := cxC X N' scope s3 H3 fp) _ s9 σ8 H9 (.ref s2.heap.objs.size) [y] (.ref s2.heap.objs.size) [v] (fun _ H' => N σ8 H') I9 rfl (.cons r9 .nil) ⟨s2.heap.objs.size, xs, y, rfl, rfl, hl9, hz9, n9⟩)) fun _ s10 ⟨_, H10, I10, _, n10⟩ => again I10 n10
  exact codeAny_compStart_list loop (T.self _ 0 _ _ _ st4 loop)
theorem pe_comp (hc : X.calm = true) (hxe : X.xe = fun _ _ => False) (S : Scp X.env.scope X.N N' ix scope) (hi : PI X tg iter wi) (hg : ∀ s H ex, PG (cxC X N' scope s H ex) tg g) (ht : ∀ s H ex, PF (cxC X N' scope s H ex) ifs tt) (he : ∀ s H ex, PE (cxC X N' scope s H ex) elt te)
    (hs : ∀ x, foldedSetIterable iter X.env x = pure x := by intro _; rfl) : PE X (.ListComp elt [⟨tg, iter, ifs, 0⟩] scope pos) (tComp ix wi g tt te) := by
  intro pins s σ H Q I h
  rw [eval_ListComp]
  refine wpAny_comprehension_free (use := none) rfl hs (closure_is fun p hp e => I.ok.has p.1 (S.free p hp e)) S.kind S.names (comp_core hc hxe S hi hg ht he I h fun D C H' s' K1 F ⟨m, hn⟩ q => ?_)
  refine ⟨m, hn, fun h' sb => ?_⟩
  obtain ⟨g0, g1, g2, g3, g4, g5⟩ := F
  exact ⟨.ref D, H', K1.turned (t' := s'.toks) (fun b o hb e => sb.extBut b o hb e) g0 g1 g3 g4 g5, rfl, q⟩
theorem ps_comp {i : Nat} {y : Str} {py spos : Pos} (hc : X.calm = true) (hxe : X.xe = fun _ _ => False) (hN : X.N.Nodup) (hy : X.N[i]? = some y) (hl : X.env.scope.names.lookup y = some .local)
    (hsw : swapsWith (.ListComp elt [⟨tg, iter, ifs, 0⟩] scope pos) (some (.Name y py)) spos.line X.env = pure true)
    (S : Scp X.env.scope X.N N' ix scope) (hi : PI X tg iter wi) (hg : ∀ s H ex, PG (cxC X N' scope s H ex) tg g) (ht : ∀ s H ex, PF (cxC X N' scope s H ex) ifs tt) (he : ∀ s H ex, PE (cxC X N' scope s H ex) elt te)
    (hs : ∀ x, foldedSetIterable iter X.env x = pure x := by intro _; rfl) : PS X (.Assign [.Name y py] (.ListComp elt [⟨tg, iter, ifs, 0⟩] scope pos) spos) (tAsg (tComp ix wi g tt te) (gName i)) := by
  intro pins s σ H D I h
  rw [exec_Assign_Name_used _ _ _ _ hsw]
  refine wpAny_bind (wpAny_standAt (wpAny_bind ?_))
  show wpAny _ X.A (do let _ ← comprehension (.ListComp elt [⟨tg, iter, ifs, 0⟩] scope pos) scope X.env _ (newList []) false (eval iter X.env) (some (assign (.Name y py) X.env))) _ _ s
  refine wpAny_bind (wpAny_mono (wpAny_comprehension_free (use := some (assign (.Name y py) X.env)) (Q := fun _ s' => SP X pins D .next s') rfl hs (closure_is fun p hp e => I.ok.has p.1 (S.free p hp e)) S.kind S.names
    (comp_core hc hxe S hi hg ht he I h fun L C H' s' K1 F ⟨m, hn⟩ q => ?_)) (fun _ s' hq => wpAny_pure (wpAny_pure hq)) fun _ _ e => e)
  show wpAny _ X.A (assign (.Name y py) X.env (.ref L)) _ _ _
  obtain ⟨g0, g1, g2, g3, g4, g5⟩ := F
  refine wpAny_assign_Name (store_ok2 K1 hN hy (.inl hl) (v := .ref L) rfl (fun s2 I2 ⟨a, sb, ha⟩ => ?_) (.inr hl))
  have hCa : C ≠ a := by
    rcases ha with rfl | ha
    · exact g1
    · exact fun z => g4 _ _ ha z.symm
  refine ⟨m, hn.sameBut sb hCa, fun h' sb' => ?_⟩
  exact ⟨_, H', I2.turned (t' := s2.toks) (fun b o hb e => sb'.extBut b o hb e) g0 g1 g3 g4 g5, q⟩
end
def relS (scope psc : Scope) : Scope :=
  { scope with names := scope.names.map fun (n, k) => if (k == .free && psc.kind == .function && psc.names.lookup n == some .cell) then (n, .cell) else (n, k) }
def scpB (psc : Scope) (PN N' : List Str) (ix : List (Option Nat)) (scope : Scope) : Bool :=
  scope.kind == .function &&
  scope.names.all (fun x => x.2 != .local || scope.names.lookup x.1 == some .local) &&
  scope.names.all (fun x => x.2 != .free || scope.names.lookup x.1 == some .free) &&
  scope.names.all (fun x => x.2 != .cell || !scope.names.contains (x.1, NameKind.free)) &&
  scope.names.all (fun x => x.2 != .free || (psc.names.lookup x.1 == some .cell || psc.names.lookup x.1 == some .free)) &&
  ix.length == N'.length &&
  (List.range N'.length).all (fun j => match ix[j]?, N'[j]? with | some (some i), some x => PN[i]? == some x && scope.names.contains (x, NameKind.free) | _, _ => true)
theorem scp_of {psc : Scope} {PN N' : List Str} {ix : List (Option Nat)} {scope : Scope} (h : scpB psc PN N' ix scope = true) : Scp psc PN N' ix scope := by
  unfold scpB at h
  simp only [Bool.and_eq_true, List.all_eq_true, beq_iff_eq, Bool.or_eq_true, bne_iff_ne, ne_eq, List.contains_iff_mem, Bool.not_eq_true', List.mem_range] at h
  obtain ⟨⟨⟨⟨⟨⟨h1, h2⟩, h3⟩, h4⟩, h5⟩, h6⟩, h7⟩ := h
  refine ⟨h1, fun x hx e => (h2 x hx).resolve_left fun z => z e, fun x hx e => (h3 x hx).resolve_left fun z => z e, fun x hx e hm => ?_, fun x hx e => (h5 x hx).resolve_left fun z => z e, h6, fun j i x e1 e2 => ?_⟩
  · have := (h4 x hx).resolve_left fun z => z e
    rw [List.contains_iff_mem.mpr hm] at this
    cases this
  · have hj : j < N'.length := (List.getElem?_eq_some_iff.mp e1).1
    have := h7 j hj
    rw [e1, e2] at this
    simp only [Bool.and_eq_true, beq_iff_eq, List.contains_iff_mem] at this
    exact this
section
variable {X : Cx} {x : Str} {pos : Pos} {i : Nat} {e : Expr} {te : TE}
theorem pvc (i : Nat) (hN : X.N[i]? = some x := by rfl) (hv : X.env.scope.names.lookup x = some .cell := by rfl) (hd : (x == ("__debug__" : Str)) = false := by decide) (hcd : (x == ("__classdict__" : Str)) = false := by decide) : PE X (.Name x pos) (tVar i) := pe_var hN (.inr (.inl hv)) hd hcd
theorem ps_setc {pos' : Pos} (hN : X.N.Nodup) (hi : X.N[i]? = some x) (hx : X.env.scope.names.lookup x = some .cell) (hf : X.fn x = true) (he : PE X e te) (hs : swapsWith e (some (.Name x pos')) pos.line X.env = pure false) : PS X (.Assign [.Name x pos'] e pos) (tAsg te (gName i)) :=
  ps_set hN hi (.inr hx) he hs (.inl hf)
theorem pg_namec (hN : X.N.Nodup) (hi : X.N[i]? = some x) (hx : X.env.scope.names.lookup x = some .cell) (hf : X.fn x = true) : PG X (.Name x pos) (gName i) := pg_name hN hi (.inr hx) (.inl hf)
end
end L2
set_option Elab.async false
set_option linter.all false
set_option maxRecDepth 100000
set_option maxHeartbeats 1000000
namespace L2
open PySem PySem.Spec PyProof.Rows
theorem pi_listK {X : Cx} {K : PySem.W.Frag} {tg l : Expr} {tl : TE} (hK : X.K = K) (hl : PE X l tl) : PI X tg l (iList K tl) := hK ▸ pi_list hl
theorem ix_listK {X : Cx} {K : PySem.W.Frag} (hK : X.K = K) : IxR X (rIxL K) := hK ▸ ix_list
inductive Dt where
  | non | bl (b : Bool) | int (i : Int) | str (x : Str) | tup (xs : List Dt) | lst (xs : List Dt)
mutual
def Rep (H : Hp) : V → Dt → Prop
  | v, .non => v = .non
  | v, .bl b => v = .bl b
  | v, .int i => v = .int i
  | v, .str x => v = .str x
  | v, .tup ds => ∃ p xs, v = .ref p ∧ H p = some (.tup xs) ∧ Reps H xs ds
  | v, .lst ds => ∃ p xs, v = .ref p ∧ H p = some (.lst xs) ∧ Reps H xs ds
def Reps (H : Hp) : List V → List Dt → Prop
  | xs, [] => xs = []
  | xs, d :: ds => ∃ x r, xs = x :: r ∧ Rep H x d ∧ Reps H r ds
end
mutual
theorem Rep.mono {H H' : Hp} (e : Same H H') : ∀ {v : V} (d : Dt), Rep H v d → Rep H' v d
  | v, .non, h => h
  | v, .bl b, h => h
  | v, .int i, h => h
  | v, .str x, h => h
  | v, .tup ds, ⟨p, xs, h1, h2, h3⟩ => ⟨p, xs, h1, e _ _ h2, Reps.mono e ds h3⟩
  | v, .lst ds, ⟨p, xs, h1, h2, h3⟩ => ⟨p, xs, h1, e _ _ h2, Reps.mono e ds h3⟩
theorem Reps.mono {H H' : Hp} (e : Same H H') : ∀ {xs : List V} (ds : List Dt), Reps H xs ds → Reps H' xs ds
  | xs, [], h => h
  | xs, d :: ds, ⟨x, r, h1, h2, h3⟩ => ⟨x, r, h1, Rep.mono e d h2, Reps.mono e ds h3⟩
end
mutual
theorem Rep.inj {H : Hp} : ∀ {v : V} (d e : Dt), Rep H v d → Rep H v e → d = e
  | v, .non, e, h, h' => by
    cases h
    cases e <;> first | rfl | (simp [Rep] at h')
  | v, .bl b, e, h, h' => by
    cases h
    cases e <;> simp [Rep] at h' <;> simp [h']
  | v, .int i, e, h, h' => by
    cases h
    cases e <;> simp [Rep] at h' <;> simp [h']
  | v, .str x, e, h, h' => by
    cases h
    cases e <;> simp [Rep] at h' <;> simp [h']
  | v, .tup ds, e, ⟨p, xs, h1, h2, h3⟩, h' => by
    subst h1
    cases e with
    | tup es =>
      obtain ⟨p', xs', g1, g2, g3⟩ := h'
      cases g1
      rw [h2] at g2
      cases g2
      rw [Reps.inj ds es h3 g3]
    | lst es =>
      obtain ⟨p', xs', g1, g2, g3⟩ := h'
      cases g1
      rw [h2] at g2
      cases g2
    | _ => simp [Rep] at h'
  | v, .lst ds, e, ⟨p, xs, h1, h2, h3⟩, h' => by
    subst h1
    cases e with
    | tup es =>
      obtain ⟨p', xs', g1, g2, g3⟩ := h'
      cases g1
      rw [h2] at g2
      cases g2
    | lst es =>
      obtain ⟨p', xs', g1, g2, g3⟩ := h'
      cases g1
      rw [h2] at g2
      cases g2
      rw [Reps.inj ds es h3 g3]
    | _ => simp [Rep] at h'
theorem Reps.inj {H : Hp} : ∀ {xs : List V} (ds es : List Dt), Reps H xs ds → Reps H xs es → ds = es
  | xs, [], es, h, h' => by
    cases h
    cases es with
    | nil => rfl
    | cons e es => obtain ⟨x, r, g, _⟩ := h'; cases g
  | xs, d :: ds, es, ⟨x, r, h1, h2, h3⟩, h' => by
    subst h1
    cases es with
    | nil => cases h'
    | cons e es =>
      obtain ⟨x', r', g1, g2, g3⟩ := h'
      cases g1
      rw [Rep.inj d e h2 g2, Reps.inj ds es h3 g3]
end
theorem Reps.length {H : Hp} : ∀ {xs : List V} {ds : List Dt}, Reps H xs ds → xs.length = ds.length
  | xs, [], h => by cases h; rfl
  | xs, d :: ds, ⟨x, r, h1, h2, h3⟩ => by subst h1; simp [Reps.length h3]
theorem Reps.get {H : Hp} : ∀ {xs : List V} {ds : List Dt} {i : Nat} {d : Dt}, Reps H xs ds → ds[i]? = some d → ∃ x, xs[i]? = some x ∧ Rep H x d
  | xs, [], i, d, h, e => by simp at e
  | xs, d' :: ds, 0, d, ⟨x, r, h1, h2, h3⟩, e => by
    subst h1
    simp at e
    subst e
    exact ⟨x, rfl, h2⟩
  | xs, d' :: ds, i + 1, d, ⟨x, r, h1, h2, h3⟩, e => by
    subst h1
    obtain ⟨y, hy, hr⟩ := Reps.get (i := i) (d := d) h3 (by simpa using e)
    exact ⟨y, by simpa using hy, hr⟩
theorem Reps.append {H : Hp} : ∀ {xs : List V} {ds : List Dt} {ys : List V} {es : List Dt}, Reps H xs ds → Reps H ys es → Reps H (xs ++ ys) (ds ++ es)
  | xs, [], ys, es, h, g => by cases h; exact g
  | xs, d :: ds, ys, es, ⟨x, r, h1, h2, h3⟩, g => by subst h1; exact ⟨x, r ++ ys, rfl, h2, Reps.append h3 g⟩
mutual
def deq : Dt → Dt → Option Bool
  | .non, .non => some true
  | .bl a, .bl b => some (a == b)
  | .int a, .int b => some (a == b)
  | .str a, .str b => some (a == b)
  | .tup xs, .tup ys => deqs xs ys
  | .lst xs, .lst ys => if xs.length = ys.length then deqs xs ys else some false
  | _, _ => none
def deqs : List Dt → List Dt → Option Bool
  | [], [] => some true
  | x :: xs, y :: ys => match deq x y, deqs xs ys with
    | some a, some b => some (a && b)
    | _, _ => none
  | _, _ => some false
end
mutual
def dep : Dt → Nat
  | .tup ds => deps ds + 1
  | .lst ds => deps ds + 1
  | _ => 0
def deps : List Dt → Nat
  | [] => 0
  | d :: ds => max (dep d) (deps ds)
end
def eAt (ds es : List Dt) (j : Nat) : Bool := match ds[j]?, es[j]? with
  | some d, some e => (deq d e).getD false
  | _, _ => false
theorem deqs_range : ∀ (ds es : List Dt) (b : Bool), deqs ds es = some b → ((List.range (min ds.length es.length)).all (eAt ds es) && ds.length == es.length) = b
  | [], [], b, h => by cases h; rfl
  | [], _ :: _, b, h => by cases h; simp
  | _ :: _, [], b, h => by cases h; simp
  | d :: ds, e :: es, b, h => by
    rw [deqs] at h
    cases h1 : deq d e with
    | none => rw [h1] at h; cases h
    | some a =>
      cases h2 : deqs ds es with
      | none => rw [h1, h2] at h; cases h
      | some c =>
        rw [h1, h2] at h
        cases h
        rw [← deqs_range ds es c h2]
        simp only [List.length_cons, Nat.succ_min_succ, List.range_succ_eq_map, List.all_cons, List.all_map, Bool.and_assoc]
        congr 1
        · simp [eAt, h1]
        · congr 1
          simp
mutual
theorem deq_self : ∀ (d : Dt) (b : Bool), deq d d = some b → b = true
  | .non, b, h => by cases h; rfl
  | .bl a, b, h => by simp [deq] at h; exact h
  | .int a, b, h => by simp [deq] at h; exact h
  | .str a, b, h => by simp [deq] at h; exact h
  | .tup xs, b, h => deqs_self xs b h
  | .lst xs, b, h => by
    rw [deq, if_pos rfl] at h
    exact deqs_self xs b h
theorem deqs_self : ∀ (ds : List Dt) (b : Bool), deqs ds ds = some b → b = true
  | [], b, h => by cases h; rfl
  | d :: ds, b, h => by
    rw [deqs] at h
    cases h1 : deq d d with
    | none => rw [h1] at h; cases h
    | some a =>
      cases h2 : deqs ds ds with
      | none => rw [h1, h2] at h; cases h
      | some c =>
        rw [h1, h2] at h
        cases h
        rw [deq_self d a h1, deqs_self ds c h2]
        rfl
end
section
variable {X : Cx} {pins : List (Addr × Obj)} {σ : St} {H : Hp} {s : Shared}
mutual
theorem eqAt_D (I : Inv X pins σ H s) : ∀ (d e : Dt) {A : Around} {x y : V} {u v : Value} {b : Bool}, Rep H x d → Rep H y e → RelV x u → RelV y v → deq d e = some b → A.units + dep d < cLine → SeqAt.EqAt A s u v b
  | .non, e, A, x, y, u, v, b, hx, hy, rx, ry, hb, hu => by
    cases e <;> first | (cases hb; cases hx; cases hy; cases rx; cases ry; exact SeqAt.EqAt.same _) | (simp [deq] at hb)
  | .bl a, e, A, x, y, u, v, b, hx, hy, rx, ry, hb, hu => by
    cases e <;> first | (cases hb; cases hx; cases hy; cases rx; cases ry; exact SeqAt.EqAt.bool_bool _ _) | (simp [deq] at hb)
  | .int a, e, A, x, y, u, v, b, hx, hy, rx, ry, hb, hu => by
    cases e <;> first | (cases hb; cases hx; cases hy; obtain ⟨t, rfl⟩ := rx; obtain ⟨t', rfl⟩ := ry; exact SeqAt.EqAt.int_int _ _ _ _) | (simp [deq] at hb)
  | .str a, e, A, x, y, u, v, b, hx, hy, rx, ry, hb, hu => by
    cases e <;> first | (cases hb; cases hx; cases hy; obtain ⟨t, rfl⟩ := rx; obtain ⟨t', rfl⟩ := ry; exact SeqAt.EqAt.str_str _ _ _ _) | (simp [deq] at hb)
  | .tup ds, e, A, x, y, u, v, b, hx, hy, rx, ry, hb, hu => by
    cases e with
    | tup es =>
      obtain ⟨p, xs, e1, hp, hr⟩ := id hx
      obtain ⟨q, ys, e2, hq, hs⟩ := id hy
      subst e1 e2
      cases rx
      cases ry
      by_cases hpq : p = q
      · subst hpq
        have := Rep.inj _ _ hx hy
        cases this
        rw [deq_self _ b hb]
        exact SeqAt.EqAt.same _
      · obtain ⟨its, r1, pl1, _⟩ := I.tuple (xs := xs) (.inl (.inl hp))
        obtain ⟨its', r2, pl2, _⟩ := I.tuple (xs := ys) (.inl (.inl hq))
        have l1 := r1.length
        have l2 := r2.length
        have g1 := hr.length
        have g2 := hs.length
        have hu' : A.in1.units + deps ds < cLine := by
          have : A.units + (deps ds + 1) < cLine := hu
          rw [PySem.Around.in1_units]; omega
        have hb' : deqs ds es = some b := hb
        rw [← deqs_range ds es b hb']
        have := SeqAt.RcAt.tuples (e := eAt ds es) (A := A) (s := s) pl1 pl2 (Nat.lt_of_le_of_lt (Nat.le_add_right _ _) hu) (fun j h1 h2 => by
          have := eqAt_Ds I ds es hr hs r1 r2 hb' hu' j (by simpa using h1) (by simpa using h2)
          simpa using this)
        simp only [List.size_toArray, ← l1, ← l2, g1, g2] at this
        exact SeqAt.EqAt.of_refs hpq this
    | _ => simp [deq] at hb
  | .lst ds, e, A, x, y, u, v, b, hx, hy, rx, ry, hb, hu => by
    cases e with
    | lst es =>
      obtain ⟨p, xs, e1, hp, hr⟩ := id hx
      obtain ⟨q, ys, e2, hq, hs⟩ := id hy
      subst e1 e2
      cases rx
      cases ry
      by_cases hpq : p = q
      · subst hpq
        have := Rep.inj _ _ hx hy
        cases this
        rw [deq_self _ b hb]
        exact SeqAt.EqAt.same _
      · obtain ⟨its, r1, pl1, _⟩ := I.list (xs := xs) (.inl (.inl hp))
        obtain ⟨its', r2, pl2, _⟩ := I.list (xs := ys) (.inl (.inl hq))
        have l1 := r1.length
        have l2 := r2.length
        have g1 := hr.length
        have g2 := hs.length
        have hu0 : A.units < cLine := Nat.lt_of_le_of_lt (Nat.le_add_right _ _) hu
        have hu' : A.in1.units + deps ds < cLine := by
          have : A.units + (deps ds + 1) < cLine := hu
          rw [PySem.Around.in1_units]; omega
        rw [deq] at hb
        by_cases hl : ds.length = es.length
        · rw [if_pos hl] at hb
          rw [← deqs_range ds es b hb]
          have := SeqAt.RcAt.lists (e := eAt ds es) (A := A) (s := s) pl1.isList pl2.isList (by simp only [List.size_toArray]; omega) hu0 (fun j h1 h2 => by
            have := eqAt_Ds I ds es hr hs r1 r2 hb hu' j (by simpa using h1) (by simpa using h2)
            simpa using this)
          simp only [List.size_toArray, ← l1, g1] at this
          refine SeqAt.EqAt.of_refs hpq ?_
          have e3 : min ds.length es.length = ds.length := by omega
          rw [e3, hl]
          simpa [hl] using this
        · rw [if_neg hl] at hb
          cases hb
          exact SeqAt.EqAt.of_refs hpq (SeqAt.RcAt.lists_lengths pl1.isList pl2.isList (by simp only [List.size_toArray, bne_iff_ne, ne_eq]; omega) hu0)
    | _ => simp [deq] at hb
theorem eqAt_Ds (I : Inv X pins σ H s) : ∀ (ds es : List Dt) {A : Around} {xs ys : List V} {us vs : List Value} {b : Bool}, Reps H xs ds → Reps H ys es → Vals xs us → Vals ys vs → deqs ds es = some b → A.units + deps ds < cLine →
    ∀ (j : Nat) (h1 : j < us.length) (h2 : j < vs.length), SeqAt.EqAt A s us[j] vs[j] (eAt ds es j)
  | [], es, A, xs, ys, us, vs, b, hx, hy, rx, ry, hb, hu, j, h1, h2 => by
    cases hx
    cases rx
    exact absurd h1 (Nat.not_lt_zero _)
  | d :: ds, es, A, xs, ys, us, vs, b, ⟨x, r, e1, hd, hr⟩, hy, rx, ry, hb, hu, j, h1, h2 => by
    subst e1
    cases es with
    | nil =>
      cases hy
      cases ry
      exact absurd h2 (Nat.not_lt_zero _)
    | cons e es =>
      obtain ⟨y, r', e2, he, hs⟩ := hy
      subst e2
      cases rx with
      | cons rx rxs =>
        cases ry with
        | cons ry rys =>
          rw [deqs] at hb
          cases g1 : deq d e with
          | none => rw [g1] at hb; cases hb
          | some a =>
            cases g2 : deqs ds es with
            | none => rw [g1, g2] at hb; cases hb
            | some c =>
              have hm : A.units + max (dep d) (deps ds) < cLine := hu
              cases j with
              | zero =>
                have := eqAt_D I d e (A := A) hd he rx ry g1 (by omega)
                simpa [eAt, g1] using this
              | succ j =>
                have := eqAt_Ds I ds es (A := A) hr hs rxs rys g2 (by omega) j (by simpa using h1) (by simpa using h2)
                simpa [eAt] using this
end
def rEqD : R2 := fun x y H Q => ∃ p q d e b, x = .ref p ∧ y = .ref q ∧ Rep H x d ∧ Rep H y e ∧ deq d e = some b ∧ dep d ≤ 60 ∧ Q (.bl b) H
theorem op_eqD (hu : X.A.units + 64 < cLine) : OpR X (compareOp .Eq) rEqD := by
  intro pins s σ H x y v u Q I rx ry h
  obtain ⟨p, q, d, e, b, e1, e2, hx, hy, hb, hd, k⟩ := h
  subst e1 e2
  cases rx
  cases ry
  have fin : EP X pins σ Q (.bool b) s := ⟨.bl b, H, I, rfl, k⟩
  cases d with
  | tup ds =>
    cases e with
    | tup es =>
      obtain ⟨_, xs, z, hp, hr⟩ := hx
      cases z
      obtain ⟨_, ys, z, hq, hs⟩ := hy
      cases z
      obtain ⟨its, r1, pl1, _⟩ := I.tuple (xs := xs) (.inl (.inl hp))
      obtain ⟨its', r2, pl2, _⟩ := I.tuple (xs := ys) (.inl (.inl hq))
      have l1 := r1.length
      have l2 := r2.length
      have g1 := hr.length
      have g2 := hs.length
      have hd' : deps ds + 1 ≤ 60 := hd
      have hu' : X.A.in1.units + deps ds < cLine := by rw [PySem.Around.in1_units]; omega
      have hb' : deqs ds es = some b := hb
      refine SeqAt.eq_tupleAt (e := eAt ds es) pl1 pl2 (by omega) (fun j h1 h2 => by
        have := eqAt_Ds I ds es hr hs r1 r2 hb' hu' j (by simpa using h1) (by simpa using h2)
        simpa using this) ?_
      simp only [List.size_toArray, ← l1, ← l2, g1, g2]
      rw [deqs_range ds es b hb']
      exact fin
    | _ => simp [deq] at hb
  | lst ds =>
    cases e with
    | lst es =>
      obtain ⟨_, xs, z, hp, hr⟩ := hx
      cases z
      obtain ⟨_, ys, z, hq, hs⟩ := hy
      cases z
      obtain ⟨its, r1, pl1, _⟩ := I.list (xs := xs) (.inl (.inl hp))
      obtain ⟨its', r2, pl2, _⟩ := I.list (xs := ys) (.inl (.inl hq))
      have l1 := r1.length
      have l2 := r2.length
      have g1 := hr.length
      have g2 := hs.length
      have hd' : deps ds + 1 ≤ 60 := hd
      have hu' : X.A.in1.units + deps ds < cLine := by rw [PySem.Around.in1_units]; omega
      rw [deq] at hb
      by_cases hl : ds.length = es.length
      · rw [if_pos hl] at hb
        refine SeqAt.eq_listAt (e := eAt ds es) pl1.isList pl2.isList (by simp only [List.size_toArray]; omega) (by omega) (fun j h1 h2 => by
          have := eqAt_Ds I ds es hr hs r1 r2 hb hu' j (by simpa using h1) (by simpa using h2)
          simpa using this) ?_
        have e3 := deqs_range ds es b hb
        have e4 : min ds.length es.length = ds.length := by omega
        rw [e4, hl] at e3
        simp only [beq_self_eq_true, Bool.and_true] at e3
        simp only [List.size_toArray, ← l1, g1, hl, e3]
        exact fin
      · rw [if_neg hl] at hb
        cases hb
        exact SeqAt.eq_list_lengthsAt pl1.isList pl2.isList (by simp only [List.size_toArray, bne_iff_ne, ne_eq]; omega) (by omega) fin
    | _ => simp [deq] at hb
  | _ => simp [Rep] at hx
def rNeD : R2 := fun x y H Q => ∃ p q d e b, x = .ref p ∧ y = .ref q ∧ Rep H x d ∧ Rep H y e ∧ deq d e = some b ∧ dep d ≤ 60 ∧ Q (.bl (!b)) H
theorem op_neD (hu : X.A.units + 64 < cLine) : OpR X (compareOp .NotEq) rNeD := by
  intro pins s σ H x y v u Q I rx ry h
  obtain ⟨p, q, d, e, b, e1, e2, hx, hy, hb, hd, k⟩ := h
  subst e1 e2
  cases rx
  cases ry
  have fin : EP X pins σ Q (.bool (!b)) s := ⟨.bl (!b), H, I, rfl, k⟩
  cases d with
  | tup ds =>
    cases e with
    | tup es =>
      obtain ⟨_, xs, z, hp, hr⟩ := hx
      cases z
      obtain ⟨_, ys, z, hq, hs⟩ := hy
      cases z
      obtain ⟨its, r1, pl1, _⟩ := I.tuple (xs := xs) (.inl (.inl hp))
      obtain ⟨its', r2, pl2, _⟩ := I.tuple (xs := ys) (.inl (.inl hq))
      have l1 := r1.length
      have l2 := r2.length
      have g1 := hr.length
      have g2 := hs.length
      have hd' : deps ds + 1 ≤ 60 := hd
      have hu' : X.A.in1.units + deps ds < cLine := by rw [PySem.Around.in1_units]; omega
      have hb' : deqs ds es = some b := hb
      refine SeqAt.RcNeAt.tuples (e := eAt ds es) pl1 pl2 (by omega) (fun j h1 h2 => by
        have := eqAt_Ds I ds es hr hs r1 r2 hb' hu' j (by simpa using h1) (by simpa using h2)
        simpa using this) _ _ _ _ ?_
      simp only [List.size_toArray, ← l1, ← l2, g1, g2]
      rw [deqs_range ds es b hb']
      exact fin
    | _ => simp [deq] at hb
  | lst ds =>
    cases e with
    | lst es =>
      obtain ⟨_, xs, z, hp, hr⟩ := hx
      cases z
      obtain ⟨_, ys, z, hq, hs⟩ := hy
      cases z
      obtain ⟨its, r1, pl1, _⟩ := I.list (xs := xs) (.inl (.inl hp))
      obtain ⟨its', r2, pl2, _⟩ := I.list (xs := ys) (.inl (.inl hq))
      have l1 := r1.length
      have l2 := r2.length
      have g1 := hr.length
      have g2 := hs.length
      have hd' : deps ds + 1 ≤ 60 := hd
      have hu' : X.A.in1.units + deps ds < cLine := by rw [PySem.Around.in1_units]; omega
      rw [deq] at hb
      by_cases hl : ds.length = es.length
      · rw [if_pos hl] at hb
        refine SeqAt.RcNeAt.lists (e := eAt ds es) pl1.isList pl2.isList (by simp only [List.size_toArray]; omega) (by omega) (fun j h1 h2 => by
          have := eqAt_Ds I ds es hr hs r1 r2 hb hu' j (by simpa using h1) (by simpa using h2)
          simpa using this) _ _ _ _ ?_
        have e3 := deqs_range ds es b hb
        have e4 : min ds.length es.length = ds.length := by omega
        rw [e4, hl] at e3
        simp only [beq_self_eq_true, Bool.and_true] at e3
        simp only [List.size_toArray, ← l1, g1, hl, e3]
        exact fin
      · rw [if_neg hl] at hb
        cases hb
        exact SeqAt.RcNeAt.lists_lengths pl1.isList pl2.isList (by simp only [List.size_toArray, bne_iff_ne, ne_eq]; omega) (by omega) _ _ _ _ fin
    | _ => simp [deq] at hb
  | _ => simp [Rep] at hx
end
end L2
set_option Elab.async false
set_option linter.all false
set_option maxRecDepth 100000
set_option maxHeartbeats 1000000
namespace L2
open PySem PySem.Spec PyProof.Rows
section
variable {X : Cx} {pins : List (Addr × Obj)} {σ : St} {H : Hp} {s : Shared} {h' : Heap}
end
def Itz (K : PySem.W.Frag) (a b : Addr) : It :=
  ⟨fun i H => ∃ xs ys x y, SqL K H a xs ∧ SqL K H b ys ∧ xs[i]? = some x ∧ ys[i]? = some y,
   fun i H v H' => ∃ T x y, v = .ref T ∧ H T = none ∧ H' = upd H T (.tup [x, y]) ∧ (∀ xs, SqL K H a xs → xs[i]? = some x) ∧ (∀ ys, SqL K H b ys → ys[i]? = some y),
   fun i H => ∃ xs ys, SqL K H a xs ∧ SqL K H b ys ∧ (xs.length ≤ i ∨ ys.length ≤ i)⟩
def iZip (K : PySem.W.Frag) (ta : TA) : TI := fun σ H R => ta σ H fun vs H1 => ∃ a b, vs = [.ref a, .ref b] ∧ (∃ xs, SqL K H1 a xs) ∧ (∃ ys, SqL K H1 b ys) ∧ R (Itz K a b) H1
section
variable {X : Cx} {elts : List Expr} {kt : Nat} {tpos : Pos}
end
def rSum (K : PySem.W.Frag) : List V → Hp → VK → Prop := fun xs H Q => ∃ (p : Addr) (ns : List Int), xs = [V.ref p] ∧ SqL K H p (ns.map V.int) ∧ Q (.int ns.sum) H
def rListH : List V → Hp → VK → Prop := fun xs H Q => ∃ p ys, xs = [V.ref p] ∧ (H p = some (.lst ys) ∨ H p = some (.tup ys)) ∧ ∀ l, H l = none → Q (.ref l) (upd H l (.lst ys))
theorem call_listH {X : Cx} : CallR X (.type "list") rListH := by
  intro pins s σ H xs us Q I r h
  obtain ⟨p, ys, e, hp, q⟩ := h
  exact call_list_of pins s σ H xs us Q I r ⟨p, ys, e, hp.imp (fun z => .inl (.inl z)) (fun z => .inl (.inl z)), q⟩
theorem pe_callT {X : Cx} {x : Str} {e : Expr} {es : List Expr} {t : TA} {p pos : Pos} {n : String} {r : List V → Hp → VK → Prop} (hc : CallR X (.type n) r) (hg : Gl X x) (hm : X.mg x = none) (hv : bootBuiltins x = some (.type n)) (ha : PA X (e :: es) t) (hs : plainArgs (e :: es) = true := by rfl) (hn : x ≠ "__name__" := by decide) (hdb : (x == ("__debug__" : Str)) = false := by decide) :
    PE X (.Call (.Name x p) (e :: es) [] pos) (tCB r t) :=
  have h' : notStar e = true ∧ plainArgs es = true := by simpa [plainArgs] using hs
  pe_callTy hc hg hm hv ha hn hdb (starEach_plain h'.1) (backTo_plain h'.2)
end L2
set_option linter.all false
namespace RimM
def nf (t b : Int) : Int × Int := if b < 0 then (t / -(Int.gcd t b : Int), b / -(Int.gcd t b : Int)) else (t / (Int.gcd t b : Int), b / (Int.gcd t b : Int))
theorem gpos {t b : Int} (hb : b ≠ 0) : 0 < (Int.gcd t b : Int) := by
  have := Int.gcd_pos_of_ne_zero_right t hb
  omega
theorem nf_neg {t b : Int} (h : b < 0) : nf t b = nf (-t) (-b) := by
  have e : Int.gcd (-t) (-b) = Int.gcd t b := by rw [Int.gcd_neg, Int.neg_gcd]
  unfold nf
  rw [if_pos h, if_neg (by omega), e, Int.ediv_neg, Int.ediv_neg, Int.neg_ediv_of_dvd (Int.gcd_dvd_left ..), Int.neg_ediv_of_dvd (Int.gcd_dvd_right ..)]
theorem nf_pos {t b : Int} (h : 0 < b) : nf t b = (t / (Int.gcd t b : Int), b / (Int.gcd t b : Int)) := by
  unfold nf
  rw [if_neg (by omega)]
structure Low (p : Int × Int) : Prop where
  pos : 0 < p.2
  co : Int.gcd p.1 p.2 = 1
theorem nf_low {t b : Int} (hb : b ≠ 0) : Low (nf t b) ∧ t * (nf t b).2 = (nf t b).1 * b := by
  have key : ∀ {t b : Int}, 0 < b → Low (nf t b) ∧ t * (nf t b).2 = (nf t b).1 * b := fun {t b} h => by
    have g := gpos (t := t) (b := b) (by omega)
    rw [nf_pos h]
    refine ⟨⟨Int.ediv_pos_of_pos_of_dvd h (Int.le_of_lt g) (Int.gcd_dvd_right ..), Int.gcd_ediv_gcd_ediv_gcd (by omega)⟩, ?_⟩
    show t * (b / (Int.gcd t b : Int)) = t / (Int.gcd t b : Int) * b
    obtain ⟨x, hx⟩ := Int.gcd_dvd_left (a := t) (b := b)
    obtain ⟨y, hy⟩ := Int.gcd_dvd_right (a := t) (b := b)
    have e1 : t / (Int.gcd t b : Int) = x := by
      conv => lhs; arg 1; rw [hx]
      exact Int.mul_ediv_cancel_left _ (by omega)
    have e2 : b / (Int.gcd t b : Int) = y := by
      conv => lhs; arg 1; rw [hy]
      exact Int.mul_ediv_cancel_left _ (by omega)
    rw [e1, e2]
    conv => lhs; arg 1; rw [hx]
    conv => rhs; arg 2; rw [hy]
    rw [Int.mul_assoc, Int.mul_left_comm]
  rcases Int.lt_or_lt_of_ne hb with h | h
  · rw [nf_neg h]
    obtain ⟨a, e⟩ := key (t := -t) (b := -b) (by omega)
    refine ⟨a, ?_⟩
    rw [Int.neg_mul, Int.mul_neg] at e
    omega
  · exact key h
theorem dvd_co {k n m : Int} (h : k ∣ n * m) (g : Int.gcd k n = 1) : k ∣ m := by
  have := Int.dvd_gcd_mul_iff_dvd_mul.mpr h
  rw [g] at this
  simpa using this
theorem low_eq {p q : Int × Int} (hp : Low p) (hq : Low q) (h : p.1 * q.2 = q.1 * p.2) : p = q := by
  have d1 : p.2 ∣ q.2 := by
    have : p.2 ∣ p.1 * q.2 := ⟨q.1, by rw [h, Int.mul_comm]⟩
    exact dvd_co this (by rw [Int.gcd_comm]; exact hp.co)
  have d2 : q.2 ∣ p.2 := by
    have : q.2 ∣ q.1 * p.2 := ⟨p.1, by rw [← h, Int.mul_comm]⟩
    exact dvd_co this (by rw [Int.gcd_comm]; exact hq.co)
  have e : p.2 = q.2 := Int.dvd_antisymm (Int.le_of_lt hp.pos) (Int.le_of_lt hq.pos) d1 d2
  have e1 : p.1 = q.1 := by
    rw [e] at h
    exact Int.eq_of_mul_eq_mul_right (by have := hq.pos; omega) h
  exact Prod.ext e1 e
theorem nf_eq {t b t' b' : Int} (hb : b ≠ 0) (hb' : b' ≠ 0) (h : t * b' = t' * b) : nf t b = nf t' b' := by
  obtain ⟨l, e⟩ := nf_low (t := t) hb
  obtain ⟨l', e'⟩ := nf_low (t := t') hb'
  refine low_eq l l' ?_
  have : ((nf t b).1 * (nf t' b').2) * (b * b') = ((nf t' b').1 * (nf t b).2) * (b * b') := by
    calc ((nf t b).1 * (nf t' b').2) * (b * b') = ((nf t b).1 * b) * ((nf t' b').2 * b') := by ac_rfl
      _ = (t * (nf t b).2) * ((nf t' b').2 * b') := by rw [e]
      _ = (t * b') * ((nf t b).2 * (nf t' b').2) := by ac_rfl
      _ = (t' * b) * ((nf t b).2 * (nf t' b').2) := by rw [h]
      _ = (t' * (nf t' b').2) * ((nf t b).2 * b) := by ac_rfl
      _ = ((nf t' b').1 * b') * ((nf t b).2 * b) := by rw [e']
      _ = ((nf t' b').1 * (nf t b).2) * (b * b') := by ac_rfl
  exact Int.eq_of_mul_eq_mul_right (Int.mul_ne_zero hb hb') this
theorem nf_of_low {p : Int × Int} (h : Low p) : nf p.1 p.2 = p := by
  rw [nf_pos h.pos, h.co]
  simp
end RimM
set_option Elab.async false
set_option linter.all false
set_option maxRecDepth 100000
set_option maxHeartbeats 1000000
namespace L2
open PySem PySem.Spec PyProof.Rows
def newH (B H : Hp) : Hp := fun b => match B b with | some _ => none | none => H b
def cutH (B : Hp) (D : Addr) (H : Hp) : Hp := fun b => if b = D then none else newH B H b
theorem newH_of {B H : Hp} {b : Addr} {o : HO} (h : newH B H b = some o) : B b = none ∧ H b = some o := by
  unfold newH at h
  cases e : B b with
  | some z => rw [e] at h; cases h
  | none => rw [e] at h; exact ⟨rfl, h⟩
theorem newH_at {B H : Hp} {b : Addr} (h : B b = none) : newH B H b = H b := by
  unfold newH
  rw [h]
theorem cutH_of {B H : Hp} {D b : Addr} {o : HO} (h : cutH B D H b = some o) : b ≠ D ∧ B b = none ∧ H b = some o := by
  unfold cutH at h
  by_cases e : b = D
  · rw [if_pos e] at h; cases h
  · rw [if_neg e] at h; exact ⟨e, newH_of h⟩
theorem cutH_at {B H : Hp} {D b : Addr} (e : b ≠ D) (h : B b = none) : cutH B D H b = H b := by
  unfold cutH
  rw [if_neg e, newH_at h]
theorem newH_same {B H : Hp} : Same (newH B H) H := fun b o h => (newH_of h).2
theorem cutH_same {B H : Hp} {D : Addr} : Same (cutH B D H) H := fun b o h => (cutH_of h).2.2
theorem cutH_new {B H : Hp} {D : Addr} : Same (cutH B D H) (newH B H) := fun b o h => by
  obtain ⟨h1, h2, h3⟩ := cutH_of h
  rw [newH_at h2]; exact h3
theorem cutH_mono {B H H' : Hp} {D : Addr} (e : Same H H') : Same (cutH B D H) (cutH B D H') := fun b o h => by
  obtain ⟨h1, h2, h3⟩ := cutH_of h
  rw [cutH_at h1 h2]; exact e _ _ h3
theorem newH_mono {B H H' : Hp} (e : Same H H') : Same (newH B H) (newH B H') := fun b o h => by
  obtain ⟨h1, h2⟩ := newH_of h
  rw [newH_at h1]; exact e _ _ h2
theorem newH_less {B B' H : Hp} (e : Same B B') : Same (newH B' H) (newH B H) := fun b o h => by
  obtain ⟨h1, h2⟩ := newH_of h
  rw [newH_at (e.free h1)]; exact h2
theorem cutH_upd {B H : Hp} {D : Addr} {o : HO} : cutH B D (upd H D o) = cutH B D H := by
  funext b
  unfold cutH newH
  by_cases e : b = D
  · rw [if_pos e, if_pos e]
  · rw [if_neg e, if_neg e, upd_ne e]
theorem new_cut {B H H3 : Hp} {D : Addr} (hB : Same B H) (hD : ∃ o, H D = some o) : Same (newH H H3) (cutH B D H3) := fun b o h => by
  obtain ⟨h1, h2⟩ := newH_of h
  obtain ⟨z, hz⟩ := hD
  rw [cutH_at (ne_of_none hz h1).symm (hB.free h1)]
  exact h2
theorem old_cut {H H3 : Hp} {D : Addr} (hs : Same H H3) (hD : H D = none) : Same H (cutH (fun _ => none) D H3) := fun b o h => by
  rw [cutH_at (ne_of_none h hD) rfl]
  exact hs _ _ h
theorem comp_any {J : It} {g : TG} {te : TE} {σ : St} {H : Hp} {Q : VK} (n : Nat) (B : Hp) (Pσ : St → Prop) (ds : List Dt) (hB : Same B H) (h0 : Pσ σ) (hlen : ds.length = n) (hz : n ≤ 1000)
    (hgo : ∀ i H', i < n → Same H H' → J.go i H') (hst : ∀ H', Same H H' → J.stop n H')
    (hs : ∀ D i x d σ' H' H'', H D = none → (∃ o, H' D = some o) → Same H H' → i < n → ds[i]? = some d → J.yld i H' x H'' → Pσ σ' → ∀ R : St → V → Hp → Prop,
      (∀ σ2 v H3, Pσ σ2 → Same H' H3 → Rep (cutH B D H3) v d → R σ2 v H3) → g x σ' H'' fun σ2 H2 => te σ2 H2 fun v H3 => R σ2 v H3)
    (hd : ∀ D H', H D = none → Same H H' → Rep (newH B H') (.ref D) (.lst ds) → Q (.ref D) H') : CompGo J g tYes te σ H Q := by
  intro D hD
  have hBD : B D = none := hB.free hD
  refine ⟨fun i m σ' H' => m = n - i ∧ i ≤ n ∧ Pσ σ' ∧ Same H H' ∧ ∃ ys, H' D = some (.lst ys) ∧ Reps (cutH B D H') ys (ds.take i) ∧ ys.length = i, ⟨n, by simp, Nat.zero_le _, h0, Same.new hD, [], upd_same, rfl, rfl⟩, ?_⟩
  rintro i m σ' H' ⟨rfl, hi, hp, hs', ys, hys, hr, hl⟩
  by_cases hlt : i < n
  · refine .inr ⟨hgo i H' hlt hs', fun σ2 H2 => Pσ σ2 ∧ Same H H2 ∧ ∃ ys, H2 D = some (.lst ys) ∧ Reps (cutH B D H2) ys (ds.take (i + 1)) ∧ ys.length = i + 1, fun σ2 H2 ⟨a, b, c⟩ => ⟨n - (i + 1), by omega, rfl, hlt, a, b, c⟩, fun x H'' hy => ?_⟩
    have hdi : ds[i]? = some ds[i] := by simp [hlen, hlt]
    simp only [tYes, if_true]
    refine hs D i x ds[i] σ' H' H'' hD ⟨_, hys⟩ hs' hlt hdi hy hp _ fun σ2 v H3 hp2 s3 hv => ?_
    refine ⟨ys, s3 _ _ hys, by rw [hl]; exact small1000 (by omega), hp2, (hs'.trans s3).upd hD, ys ++ [v], upd_same, ?_, by simp [hl]⟩
    rw [cutH_upd]
    have e : ds.take (i + 1) = ds.take i ++ [ds[i]] := by rw [List.take_succ, hdi]; rfl
    rw [e]
    exact (Reps.mono (cutH_mono s3) _ hr).append ⟨v, [], rfl, hv, rfl⟩
  · have e : i = n := by omega
    subst e
    refine .inl ⟨hst H' hs', hd D H' hD hs' ⟨D, ys, rfl, ?_, ?_⟩⟩
    · rw [newH_at hBD]; exact hys
    · rw [List.take_of_length_le (by omega)] at hr
      exact Reps.mono cutH_new _ hr
theorem Reps.of_get {H : Hp} {xs : List V} {ds : List Dt} {i : Nat} {x : V} (h : Reps H xs ds) (e : xs[i]? = some x) : ∃ d, ds[i]? = some d ∧ Rep H x d := by
  have hi : i < xs.length := (List.getElem?_eq_some_iff.mp e).1
  have hi' : i < ds.length := by rw [← h.length]; exact hi
  obtain ⟨y, hy, hr⟩ := h.get (i := i) (d := ds[i]) (by simp [hi'])
  rw [e] at hy
  cases hy
  exact ⟨ds[i], by simp [hi'], hr⟩
theorem pg_tupK {X : Cx} {K : PySem.W.Frag} {es : List Expr} {k : Nat} {t : TGs} {n : Nat} {pos : Pos} (hK : X.K = K) (hc : X.calm = true) (h : PGs X es t)
    (hn : (assignEach es X.env).length = n := by rfl) (hst : (assignEach es X.env).findIdx? (·.1) = none := by rfl) : PG X (.Tuple es k pos) (gTup K n t) := hK ▸ pg_tup hc h hn hst
end L2
set_option Elab.async false
set_option linter.all false
set_option maxRecDepth 100000
namespace L2
open PySem PySem.Spec PyProof.Rows
theorem ObjOk.obj {P : Program} {w : World} {H : Hp} {h : Heap} {a : Addr} {o : HO} (x : ObjOk P w H h a o) : ∃ u, h.get? a = some u := by
  cases o with
  | lst xs => obtain ⟨_, _, _, _, e⟩ := x; exact ⟨_, e⟩
  | tup xs => obtain ⟨_, _, _, ob, e, _⟩ := x; exact ⟨_, e⟩
  | dK kvs => obtain ⟨_, _, _, _, o, _, _, e, _⟩ := x; exact ⟨_, e⟩
  | dT kvs => obtain ⟨_, _, _, _, o, _, _, e, _⟩ := x; exact ⟨_, e⟩
  | set S n => obtain ⟨o, _, _, _, e, _⟩ := x; exact ⟨_, e⟩
  | ins C dx fs => obtain ⟨_, _, _, e, _⟩ := x; exact ⟨_, e⟩
  | own y => exact x
  | xd fs => obtain ⟨_, ⟨_, _, _, e, _⟩, _⟩ := x; exact ⟨_, e⟩
  | rng lo hi => obtain ⟨_, _, _, e⟩ := x; exact ⟨_, e⟩
  | frz ob u => obtain ⟨e, _⟩ := x; exact ⟨_, e⟩
  | tbl ps => exact ⟨_, show h.get? a = some _ from x⟩
  | met f y => exact ⟨_, show h.get? a = some _ from x⟩
  | ext φ => obtain ⟨_, e, _⟩ := x; exact e
structure ExC (K : PySem.W.Frag) (C : Addr) : Prop where
  obj : ∀ {h : Heap}, K.In h → ∃ bm N nm q bs hdct sn sub ab col dd k0 k1 k2 k3 k5 mN, h.get? C = some (excClassObj nm q C N bs bm hdct sn sub ab col dd k0 k1 k2 k3 k5 "ValueError.__new__") ∧ h.Ns N mN ∧ mN "__init__" = none ∧
    OwnTail h [.type "ValueError", .type "Exception", .type "BaseException", .type "object"] bm
section
variable {P : Program} {w : World} {K : PySem.W.Frag} {mg : Str → Option Value} {base : Heap} {N : List Str} {qual : Str} {scope : Scope} {f : Addr} {cd : Value} {A : Around} {outer : List Env} {s₀ : Shared} {H₀ : Hp} {E : XK}
end
section
variable {X : Cx} {pins : List (Addr × Obj)} {σ : List (Option V)} {H : Hp} {s : Shared}
end
structure HnC (K : PySem.W.Frag) (C : Addr) : Prop where
  ty : PySem.W.typeIn K (.ref C) = some (.type "type")
  cl : (PySem.W.clsIn K C).isSome = true
  ex : PySem.W.mroIn K C (.type "BaseException") = some true
abbrev calmed (A : Around) : Around := { A with handled := none }
structure FnOkH (P : Program) (w : World) (K : PySem.W.Frag) (mg : Str → Option Value) (base : Heap) (k : Nat) (f : Addr) (fd : FuncData) (ps : List Str) (sp : Sp) : Prop where
  len : ∀ vs H Q E, sp vs H Q E → vs.length = ps.length
  run : ∀ (A : Around) (outer : List Env) (s : Shared) (H : Hp) (args : Args) (us : List Value) (vs : List V) (Q : VK) (E : XK), Room k (calmed A) → Env0 P w K mg base A outer s H → BindsTo s fd args (ps.zip us) → Vals vs us → sp vs H Q E →
    codeAny (model P w) A (.call (.ref f) args) (CR CX0 outer P w H s Q E) s
end L2
set_option Elab.async false
set_option linter.all false
set_option maxRecDepth 100000
namespace L2
open PySem PySem.Spec PyProof.Rows
section
variable {X : Cx} {x : Str} {ps : List Str} {k : Nat} {sp : Sp} {e : Expr} {es : List Expr} {t : TA} {p pos : Pos} {E : XK}
end
structure KitE (K : PySem.W.Frag) (C : Addr) : Prop where
  cl : (PySem.W.clsIn K C).isSome = true
  ga : PySem.W.findIn K (.ref C) "__getattribute__" = some (some (.builtin "BaseException.__getattribute__"))
  gh : PySem.W.findIn K (.ref C) "__getattr__" = some none
  at_ : PySem.W.findIn K (.ref C) "__class__" = some (some (.builtin "object.__class__"))
  get : PySem.W.specialIn K (.builtin "object.__class__") "__get__" = some (some (.builtin "getset_descriptor.__get__"))
  set : PySem.W.takesIn K (.builtin "object.__class__") = some true
  obj : PySem.W.mroIn K C (.type "object") = some true
  exc : PySem.W.mroIn K C (.type "BaseException") = some true
def ObjC (x : Addr) (D : Value) (h : Heap) : Prop := ∃ o, h.get? x = some o ∧ o.cls = D
theorem ObjC.ty {x : Addr} {D : Value} {M : Model} {h : Heap} (p : ObjC x D h) : PySem.W.Looks M h (typeOf (.ref x)) D := by
  obtain ⟨o, h1, h2⟩ := p
  exact h2 ▸ (PySem.W.Looks.ld h1).andThen .now
def tPar3 (i j k : Nat) (ta : TA) : TS := fun D σ H => ta σ H fun vs H1 => ∃ v w y, vs = [v, w, y] ∧ D.nx (((σ.set i (some v)).set j (some w)).set k (some y)) H1
end L2
set_option Elab.async false
set_option linter.all false
set_option maxRecDepth 100000
namespace L2
open PySem PySem.Spec PyProof.Rows
def Itd (hi : Int) (n : Nat) : It := ⟨fun i _ => i < n, fun i H x H' => H' = H ∧ x = .int (hi - i), fun i _ => n ≤ i⟩
theorem turn_rangeD {P : Program} {w : World} {K : PySem.W.Frag} {tg : Expr} (it : Addr) (hi : Int) (n : Nat) : Turn P w K tg (Itd hi n) [it] it (fun i h => IsRangeIter h it (hi + (i : Nat) * (-1)) ((n : Int) - (i : Nat)) (-1)) where
  mem := by simp
  obj := fun i h st b hb => by
    have e : b = it := by simpa using hb
    subst e
    exact ⟨_, st, fun v z => by
      have z' : Data.fields _ = Data.cell v := z
      cases z'⟩
  keep := fun i h h' st k => k it (by simp) _ st
  item := by
    intro X hP hw hK hc i pins s σ H E I hf st hg
    subst hP hw hK
    obtain ⟨f0, f1, f2, f3, f4, f5⟩ := hf it (by simp)
    have W := Walks.range (prog := X.prog) (w := X.w) (I.ok.hd hc) it hi (-1) n
    refine W.item i s _ _ hg st fun v h' tk hv st' kk => ?_
    obtain ⟨t, rfl⟩ := hv
    have I1 : Inv X pins σ H { s with heap := h', toks := tk } := I.turned (fun b o hb e => kk b o (by simpa using hb) e) f0 f1 f3 f4 f5
    refine ⟨_, rfl, go_of (s := { s with heap := h', toks := tk }) (n := "range_iterator") st' rfl rfl (by decide) ⟨.int (hi - i), H, I1, ⟨t, ?_⟩, ⟨rfl, rfl⟩, st', fun b hb => (hf b hb).1⟩⟩
    rw [Int.mul_neg, Int.mul_one, Int.sub_eq_add_neg]
  done := by
    intro X hP hw hK hc i pins s σ H E I hf st hg
    subst hP hw hK
    obtain ⟨f0, f1, f2, f3, f4, f5⟩ := hf it (by simp)
    exact wpAny_pyNext_range_end (I.ok.hd hc) st (by have : n ≤ i := hg; omega) fun h' eb => ⟨rfl, I.turned (t' := s.toks) (fun b o hb e => eb b o hb e) f0 f1 f3 f4 f5⟩
  self := fun _ _ _ _ _ st h => wpAny_pyIter_rangeiter st h
def iRngD (ta : TA) : TI := fun σ H R => ta σ H fun vs H1 => ∃ i j : Int, vs = [.int i, .int j, .int (-1)] ∧ (0 ≤ j ∧ j ≤ i ∧ i < 2 ^ 30) ∧ R (Itd i (i - j).toNat) H1
theorem sizeD {i j : Int} (h : j ≤ i) : Builtin.Range.rangeSize i j (-1) = i - j := by
  unfold Builtin.Range.rangeSize
  rw [if_neg (by decide), show -(-1 : Int) = 1 by decide, Int.ediv_one]
  split <;> omega
theorem smallD {i j : Int} (h0 : 0 ≤ j) (h : j ≤ i) (h1 : i < 2 ^ 30) : Builtin.Range.small i j (-1) = true := by
  unfold Builtin.Range.small
  rw [sizeD h]
  simp only [Builtin.Range.rangeFitsLong, Bool.and_eq_true, Bool.or_eq_true, decide_eq_true_eq, beq_iff_eq, show ¬ (-1 : Int) > 0 by decide, if_false]
  omega
theorem pi_rangeD {X : Cx} {tg a b c : Expr} {ta : TA} {p pos : Pos} (hg : Gl X "range") (hm : X.mg "range" = none) (ha : PA X [a, b, c] ta) (hs : plainArgs [a, b, c] = true := by rfl) :
    PI X tg (.Call (.Name "range" p) [a, b, c] [] pos) (iRngD ta) := by
  have h' : notStar a = true ∧ plainArgs [b, c] = true := by simpa [plainArgs] using hs
  intro pins s σ H R I h
  refine Call_ (ld_blt I hg hm boot_range (PyProof.Rows.callWith_type1 (thn (ha pos pins s σ H _ I h) fun us s1 ⟨vs, H1, I1, r1, q1⟩ => ?_) (starEach_plain h'.1) (backTo_plain h'.2)))
  obtain ⟨i, j, e, ⟨q1, q2, q3⟩, q⟩ := q1
  subst e
  cases r1 with
  | cons r rr =>
    cases rr with
    | cons r' rr =>
      cases rr with
      | cons r'' rr =>
        cases rr
        obtain ⟨t, rfl⟩ := r
        obtain ⟨t', rfl⟩ := r'
        obtain ⟨t'', rfl⟩ := r''
        refine call_range_3 (by decide) ?_ (Or.inl (PyProof.noPylong_of_log2 (by decide +kernel)))
        refine wpAny_pyIter_range (IsRange.new ..) (smallD q1 q2 q3) ?_
        have I2 : Inv X pins σ H1 { s1 with heap := s1.heap.push { cls := .type "range", data := .fields #[.int i t, .int j t', .int (-1) t''] }, toks := s1.toks } := I1.kept fun b o e => Heap.get?_push_of_some _ e
        refine ⟨(s1.heap.push { cls := .type "range", data := .fields #[.int i t, .int j t', .int (-1) t''] }).objs.size, [(s1.heap.push { cls := .type "range", data := .fields #[.int i t, .int j t', .int (-1) t''] }).objs.size], _, _, H1, rfl,
          I2.kept (t' := s1.toks) fun b o e => Heap.get?_push_of_some _ e, turn_rangeD _ i (i - j).toNat, ?_, fun b hb => ?_, q⟩
        · have e1 : i + ((0 : Nat) : Int) * (-1) = i := by simp
          have e2 : (((i - j).toNat : Nat) : Int) - ((0 : Nat) : Int) = Builtin.Range.rangeSize i j (-1) := by rw [sizeD q2]; omega
          show IsRangeIter _ _ (i + ((0 : Nat) : Int) * (-1)) ((((i - j).toNat : Nat) : Int) - ((0 : Nat) : Int)) (-1)
          rw [e1, e2]
          exact Heap.get?_push_size _ rfl
        · have e : b = (s1.heap.push { cls := .type "range", data := .fields #[.int i t, .int j t', .int (-1) t''] }).objs.size := by simpa using hb
          subst e
          exact I2.fpOk (Nat.le_refl _) (I2.hok.fresh (Nat.le_refl _))
theorem go_down {hi : Int} {n : Nat} {g : TG} {tb : TS} {D : Ends} {σ : St} {H : Hp} (Pv : Nat → St → Hp → Prop) (h0 : Pv 0 σ H)
    (hs : ∀ i σ H, i < n → Pv i σ H → g (.int (hi - i)) σ H fun σ2 H2 => tb { D with nx := Pv (i + 1), ct := Pv (i + 1), bk := D.nx } σ2 H2) (hd : ∀ σ H, Pv n σ H → D.nx σ H) : ForGo (Itd hi n) g tb D σ H := by
  refine ⟨fun i m σ H => i ≤ n ∧ m = n - i ∧ Pv i σ H, ⟨n, Nat.zero_le _, by omega, h0⟩, ?_⟩
  rintro i m σ H ⟨h1, rfl, p⟩
  by_cases e : i = n
  · subst e
    exact .inl ⟨Nat.le_refl _, hd _ _ p⟩
  · refine .inr ⟨show i < n by omega, Pv (i + 1), fun σ' H' q => ⟨n - (i + 1), by omega, by omega, rfl, q⟩, ?_⟩
    rintro x H' ⟨rfl, rfl⟩
    exact hs i σ _ (by omega) p
def rSlH : V → Option Int → Option Int → Hp → VK → Prop := fun x lo hi H Q => ∃ a xs, x = .ref a ∧ H a = some (.lst xs) ∧ ∀ p, H p = none → Q (.ref p) (upd H p (.lst (cutV xs lo hi)))
theorem sl_listH {X : Cx} : SlR X rSlH := by
  intro pins s σ H x v vl vu lo hi sl Q I rx hs pl pu h
  obtain ⟨a, xs, e, hx, q⟩ := h
  exact sl_list pins s σ H x v vl vu lo hi sl Q I rx hs pl pu ⟨a, xs, e, .inl (.inl hx), q⟩
theorem cut_from (xs : List V) (k : Nat) (h : k ≤ xs.length) : cutV xs (some (k : Int)) none = xs.drop k := by
  unfold cutV
  rw [HT.sIx_nat, HT.sIx_none, Nat.min_eq_left h]
  exact List.take_of_length_le (by simp)
theorem cut_to (xs : List V) (k : Nat) (h : k ≤ xs.length) : cutV xs none (some (k : Int)) = xs.take k := by
  unfold cutV
  rw [HT.sIx_nat, HT.sIx_none, Nat.min_eq_left h]
  simp
theorem cut_mid (xs : List V) (j k : Nat) (h1 : j ≤ k) (h : k ≤ xs.length) : cutV xs (some (j : Int)) (some (k : Int)) = (xs.drop j).take (k - j) := by
  unfold cutV
  rw [HT.sIx_nat, HT.sIx_nat, Nat.min_eq_left h, Nat.min_eq_left (by omega)]
end L2
set_option linter.all false
namespace RimD
def su : Nat → (Nat → Int) → Int
  | 0, _ => 0
  | n + 1, f => su n f + f n
theorem su_congr : ∀ {n : Nat} {f g : Nat → Int}, (∀ k, k < n → f k = g k) → su n f = su n g
  | 0, _, _, _ => rfl
  | n + 1, f, g, h => by
    show su n f + f n = su n g + g n
    rw [su_congr fun k hk => h k (by omega), h n (by omega)]
theorem su_add : ∀ (n : Nat) (f g : Nat → Int), su n (fun k => f k + g k) = su n f + su n g
  | 0, _, _ => rfl
  | n + 1, f, g => by
    show su n _ + (f n + g n) = su n f + f n + (su n g + g n)
    rw [su_add n f g]
    omega
theorem su_mul : ∀ (n : Nat) (c : Int) (f : Nat → Int), su n (fun k => c * f k) = c * su n f
  | 0, c, _ => (Int.mul_zero c).symm
  | n + 1, c, f => by
    show su n _ + c * f n = c * (su n f + f n)
    rw [su_mul n c f, Int.mul_add]
theorem su_zero : ∀ {n : Nat} {f : Nat → Int}, (∀ k, k < n → f k = 0) → su n f = 0
  | 0, _, _ => rfl
  | n + 1, f, h => by
    show su n f + f n = 0
    rw [su_zero fun k hk => h k (by omega), h n (by omega)]
    rfl
theorem su_front : ∀ (n : Nat) (f : Nat → Int), su (n + 1) f = f 0 + su n (fun k => f (k + 1))
  | 0, f => by show 0 + f 0 = f 0 + 0; omega
  | n + 1, f => by
    show su (n + 1) f + f (n + 1) = f 0 + (su n (fun k => f (k + 1)) + f (n + 1))
    rw [su_front n f]
    omega
theorem su_pairs (f : Nat → Nat → Int) : ∀ n : Nat, su (n + 1) (fun k => su n (f k)) = su (n + 1) (fun k => su k fun l => f k l + f l (k - 1))
  | 0 => rfl
  | n + 1 => by
    have ih := su_pairs f n
    show su (n + 1) (fun k => su n (f k) + f k n) + (su n (f (n + 1)) + f (n + 1) n) = su (n + 1) (fun k => su k fun l => f k l + f l (k - 1)) + su (n + 1) (fun l => f (n + 1) l + f l n)
    rw [su_add, ih, su_add (n + 1) (f (n + 1)) fun l => f l n]
    show _ + _ + (su n (f (n + 1)) + f (n + 1) n) = _ + (su n (f (n + 1)) + f (n + 1) n + _)
    omega
def sg (k : Nat) : Int := if k % 2 = 0 then 1 else -1
theorem sg_succ (k : Nat) : sg (k + 1) = -sg k := by
  unfold sg
  by_cases h : k % 2 = 0
  · rw [if_pos h, if_neg (by omega)]
  · rw [if_neg h, if_pos (by omega)]; rfl
def sk (k j : Nat) : Nat := if j < k then j else j + 1
abbrev Mat := Nat → Nat → Int
def mi (A : Mat) (k : Nat) : Mat := fun i j => A (i + 1) (sk k j)
def D : Nat → Mat → Int
  | 0, _ => 1
  | n + 1, A => su (n + 1) fun k => sg k * A 0 k * D n (mi A k)
theorem D_succ (n : Nat) (A : Mat) : D (n + 1) A = su (n + 1) fun k => sg k * A 0 k * D n (mi A k) := rfl
theorem D_congr : ∀ {n : Nat} {A B : Mat}, (∀ i j, i < n → j < n → A i j = B i j) → D n A = D n B
  | 0, _, _, _ => rfl
  | n + 1, A, B, h => su_congr fun k hk => by
    have e : D n (mi A k) = D n (mi B k) := D_congr fun i j hi hj => h (i + 1) (sk k j) (by omega) (by unfold sk; split <;> omega)
    show sg k * A 0 k * D n (mi A k) = _
    rw [h 0 k (by omega) hk, e]
theorem D_lin : ∀ {n i : Nat} {A B C : Mat} {p q : Int}, i < n → (∀ r c, r ≠ i → A r c = B r c ∧ A r c = C r c) → (∀ c, A i c = p * B i c + q * C i c) → D n A = p * D n B + q * D n C
  | 0, _, _, _, _, _, _, h, _, _ => absurd h (by omega)
  | n + 1, 0, A, B, C, p, q, _, h1, h2 => by
    rw [D_succ, D_succ, D_succ, ← su_mul, ← su_mul, ← su_add]
    refine su_congr fun k hk => ?_
    have e1 : D n (mi A k) = D n (mi B k) := D_congr fun i j _ _ => (h1 (i + 1) (sk k j) (by omega)).1
    have e2 : D n (mi A k) = D n (mi C k) := D_congr fun i j _ _ => (h1 (i + 1) (sk k j) (by omega)).2
    rw [h2 k, ← e1, ← e2]
    generalize D n (mi A k) = d
    generalize sg k = s
    grind
  | n + 1, i + 1, A, B, C, p, q, hi, h1, h2 => by
    rw [D_succ, D_succ, D_succ, ← su_mul, ← su_mul, ← su_add]
    refine su_congr fun k hk => ?_
    have e : D n (mi A k) = p * D n (mi B k) + q * D n (mi C k) := D_lin (i := i) (by omega) (fun r c hr => h1 (r + 1) (sk k c) (by omega)) fun c => h2 (sk k c)
    have z := h1 0 k (by omega)
    rw [e, ← z.1, ← z.2]
    generalize D n (mi B k) = d
    generalize D n (mi C k) = d'
    generalize sg k = s
    grind
theorem D_two (n : Nat) (A : Mat) : D (n + 2) A = su (n + 2) fun k => su k fun l => sg k * sg l * (A 0 k * A 1 l - A 0 l * A 1 k) * D n fun i j => A (i + 2) (sk k (sk l j)) := by
  have e : D (n + 2) A = su (n + 2) fun k => su (n + 1) fun l => sg k * A 0 k * (sg l * A 1 (sk k l) * D n (mi (mi A k) l)) := by
    rw [D_succ]
    exact su_congr fun k hk => by rw [D_succ, ← su_mul]; rfl
  rw [e, su_pairs fun k l => sg k * A 0 k * (sg l * A 1 (sk k l) * D n (mi (mi A k) l))]
  refine su_congr fun k hk => su_congr fun l hl => ?_
  have s1 : sk k l = l := by unfold sk; rw [if_pos hl]
  have s2 : sk l (k - 1) = k := by unfold sk; rw [if_neg (by omega)]; omega
  have s3 : sg (k - 1) = -sg k := by
    have z := sg_succ (k - 1)
    rw [show k - 1 + 1 = k by omega] at z
    omega
  have s4 : ∀ j, sk l (sk (k - 1) j) = sk k (sk l j) := fun j => by unfold sk; grind
  have d1 : D n (mi (mi A k) l) = D n fun i j => A (i + 2) (sk k (sk l j)) := rfl
  have d2 : D n (mi (mi A l) (k - 1)) = D n fun i j => A (i + 2) (sk k (sk l j)) := D_congr fun i j _ _ => by
    show A (i + 2) (sk l (sk (k - 1) j)) = _
    rw [s4]
  rw [s1, s2, s3, d1, d2]
  generalize (D n fun i j => A (i + 2) (sk k (sk l j))) = d
  generalize sg k = s
  generalize sg l = s'
  grind
theorem D_sw01 (n : Nat) (A B : Mat) (h0 : ∀ c, B 0 c = A 1 c) (h1 : ∀ c, B 1 c = A 0 c) (h : ∀ r c, 1 < r → B r c = A r c) : D (n + 2) B = -D (n + 2) A := by
  rw [D_two, D_two, show -(su (n + 2) fun k => su k fun l => sg k * sg l * (A 0 k * A 1 l - A 0 l * A 1 k) * D n fun i j => A (i + 2) (sk k (sk l j))) = -1 * (su (n + 2) fun k => su k fun l => sg k * sg l * (A 0 k * A 1 l - A 0 l * A 1 k) * D n fun i j => A (i + 2) (sk k (sk l j))) by omega, ← su_mul]
  refine su_congr fun k hk => ?_
  rw [← su_mul]
  refine su_congr fun l hl => ?_
  have d : (D n fun i j => B (i + 2) (sk k (sk l j))) = D n fun i j => A (i + 2) (sk k (sk l j)) := D_congr fun i j _ _ => h _ _ (by omega)
  rw [h0, h1, h0, h1, d]
  generalize (D n fun i j => A (i + 2) (sk k (sk l j))) = d
  grind
theorem D_eq0 : ∀ {n i j : Nat} {A : Mat}, i < j → j < n → (∀ c, A i c = A j c) → D n A = 0
  | 0, _, _, _, _, h, _ => absurd h (by omega)
  | n + 1, i + 1, j, A, h1, h2, h => by
    rw [D_succ]
    refine su_zero fun k hk => ?_
    obtain ⟨j, rfl⟩ : ∃ j', j = j' + 1 := ⟨j - 1, by omega⟩
    rw [D_eq0 (n := n) (i := i) (j := j) (by omega) (by omega) fun c => h (sk k c), Int.mul_zero]
  | n + 1, 0, j, A, h1, h2, h => by
    obtain ⟨n, rfl⟩ : ∃ m, n = m + 1 := ⟨n - 1, by omega⟩
    by_cases hj : j = 1
    · subst hj
      rw [D_two]
      refine su_zero fun k hk => su_zero fun l hl => ?_
      rw [h k, h l, show A 1 k * A 1 l - A 1 l * A 1 k = 0 by rw [Int.mul_comm (A 1 l)]; omega, Int.mul_zero, Int.zero_mul]
    · have e := D_sw01 n A (fun r c => if r = 0 then A 1 c else if r = 1 then A 0 c else A r c) (fun c => rfl) (fun c => rfl) fun r c hr => by
        show (if r = 0 then A 1 c else if r = 1 then A 0 c else A r c) = A r c
        rw [if_neg (by omega), if_neg (by omega)]
      have z : D (n + 2) (fun r c => if r = 0 then A 1 c else if r = 1 then A 0 c else A r c) = 0 := by
        rw [D_succ]
        refine su_zero fun k hk => ?_
        obtain ⟨j, rfl⟩ : ∃ j', j = j' + 1 := ⟨j - 1, by omega⟩
        rw [D_eq0 (n := n + 1) (i := 0) (j := j) (by omega) (by omega) fun c => ?_, Int.mul_zero]
        show (if 0 + 1 = 0 then A 1 (sk k c) else if 0 + 1 = 1 then A 0 (sk k c) else A (0 + 1) (sk k c)) = if j + 1 = 0 then A 1 (sk k c) else if j + 1 = 1 then A 0 (sk k c) else A (j + 1) (sk k c)
        rw [if_neg (by omega), if_pos (by omega), if_neg (by omega), if_neg (by omega)]
        exact h _
      show D (n + 2) A = 0
      rw [z] at e
      omega
  termination_by n i => (n, i)
theorem D_row {n i : Nat} {A B : Mat} {p : Int} (hi : i < n) (h1 : ∀ r c, r ≠ i → A r c = B r c) (h2 : ∀ c, A i c = p * B i c) : D n A = p * D n B := by
  have e := D_lin (p := p) (q := 0) (C := B) hi (fun r c hr => ⟨h1 r c hr, h1 r c hr⟩) fun c => by rw [h2 c]; omega
  rw [e]; omega
def pr : Nat → (Nat → Int) → Int
  | 0, _ => 1
  | n + 1, e => pr n e * e n
theorem D_rows (e : Nat → Int) (A : Mat) : ∀ {n m : Nat}, m ≤ n → D n (fun i j => if i < m then e i * A i j else A i j) = pr m e * D n A
  | n, 0, _ => by
    rw [show pr 0 e = 1 from rfl, Int.one_mul]
    exact D_congr fun i j _ _ => by rw [if_neg (by omega)]
  | n, m + 1, h => by
    have z := D_row (n := n) (i := m) (p := e m) (A := fun i j => if i < m + 1 then e i * A i j else A i j) (B := fun i j => if i < m then e i * A i j else A i j) (by omega)
      (fun r c hr => by
        by_cases q : r < m
        · rw [if_pos q, if_pos (by omega)]
        · rw [if_neg q, if_neg (by omega)]) fun c => by rw [if_pos (by omega), if_neg (by omega)]
    rw [z, D_rows e A (by omega)]
    show _ = pr m e * e m * _
    rw [Int.mul_comm (pr m e) (e m), Int.mul_assoc]
theorem D_scale {n : Nat} (e : Nat → Int) (A : Mat) : D n (fun i j => e i * A i j) = pr n e * D n A := by
  rw [← D_rows e A (Nat.le_refl n)]
  exact D_congr fun i j hi _ => by rw [if_pos hi]
theorem pr_const (c : Int) : ∀ n : Nat, pr n (fun _ => c) = c ^ n
  | 0 => (Int.pow_zero c).symm
  | n + 1 => by show pr n (fun _ => c) * c = c ^ (n + 1); rw [pr_const c n, Int.pow_succ]
theorem D_off (p : Int) (e : Nat → Int) (A : Mat) : ∀ {n m : Nat}, m ≤ n → D (n + 1) (fun i j => if 0 < i ∧ i ≤ m then p * A i j - e i * A 0 j else A i j) = p ^ m * D (n + 1) A
  | n, 0, _ => by
    rw [Int.pow_zero, Int.one_mul]
    exact D_congr fun i j _ _ => by rw [if_neg (by omega)]
  | n, m + 1, h => by
    have z := D_lin (n := n + 1) (i := m + 1) (p := p) (q := -e (m + 1)) (A := fun i j => if 0 < i ∧ i ≤ m + 1 then p * A i j - e i * A 0 j else A i j) (B := fun i j => if 0 < i ∧ i ≤ m then p * A i j - e i * A 0 j else A i j)
      (C := fun i j => if i = m + 1 then A 0 j else if 0 < i ∧ i ≤ m then p * A i j - e i * A 0 j else A i j) (by omega)
      (fun r c hr => by
        have q : (0 < r ∧ r ≤ m + 1) = (0 < r ∧ r ≤ m) := by apply propext; omega
        simp only [q, if_neg hr, and_self]) fun c => by
        rw [if_pos (by omega), if_neg (by omega), if_pos rfl, Int.neg_mul, Int.sub_eq_add_neg]
    have y : D (n + 1) (fun i j => if i = m + 1 then A 0 j else if 0 < i ∧ i ≤ m then p * A i j - e i * A 0 j else A i j) = 0 := D_eq0 (i := 0) (j := m + 1) (by omega) (by omega) fun c => by
      rw [if_neg (by omega), if_neg (by omega), if_pos rfl]
    rw [z, y, D_off p e A (by omega), Int.mul_zero, Int.add_zero, Int.pow_succ, Int.mul_comm (p ^ m) p, Int.mul_assoc]
theorem D_zero : ∀ {n : Nat} {A : Mat}, (∀ i, i < n + 1 → A i 0 = 0) → D (n + 1) A = 0 := by
    intro n
    induction n with
    | zero => intro A h; show 0 + sg 0 * A 0 0 * 1 = 0; rw [h 0 (by omega)]; omega
    | succ n ih =>
      intro A h
      rw [D_succ]
      refine su_zero fun k hk => ?_
      cases k with
      | zero => rw [h 0 (by omega)]; omega
      | succ k =>
        rw [ih fun i hi => ?_, Int.mul_zero]
        show A (i + 1) (sk (k + 1) 0) = 0
        rw [show sk (k + 1) 0 = 0 from rfl]
        exact h _ (by omega)
theorem D_col {n : Nat} {A : Mat} (h : ∀ i, 0 < i → i < n + 1 → A i 0 = 0) : D (n + 1) A = A 0 0 * D n (fun i j => A (i + 1) (j + 1)) := by
  rw [D_succ, su_front]
  rw [su_zero fun k hk => ?_]
  · show sg 0 * A 0 0 * D n (mi A 0) + 0 = _
    rw [show sg 0 = 1 from rfl, Int.one_mul, Int.add_zero]
    rfl
  · obtain ⟨n, rfl⟩ : ∃ m, n = m + 1 := ⟨n - 1, by omega⟩
    rw [D_zero fun i hi => ?_, Int.mul_zero]
    show A (i + 1) (sk (k + 1) 0) = 0
    exact h _ (by omega) (by omega)
theorem D_step {n : Nat} {A : Mat} (h : A 0 0 ≠ 0) : A 0 0 ^ n * D (n + 2) A = D (n + 1) fun i j => A 0 0 * A (i + 1) (j + 1) - A (i + 1) 0 * A 0 (j + 1) := by
  have e := D_off (A 0 0) (fun i => A i 0) A (n := n + 1) (Nat.le_refl _)
  rw [D_col fun i h1 h2 => by rw [if_pos (by omega), Int.mul_comm]; omega] at e
  simp only [Nat.lt_irrefl, false_and, if_false] at e
  rw [D_congr (B := fun i j => A 0 0 * A (i + 1) (j + 1) - A (i + 1) 0 * A 0 (j + 1)) fun i j hi _ => by rw [if_pos (by omega)]] at e
  rw [Int.pow_succ, Int.mul_comm _ (A 0 0), Int.mul_assoc] at e
  exact (Int.eq_of_mul_eq_mul_left h e).symm
theorem D_swap {n k : Nat} {A B : Mat} (hk : 0 < k) (hn : k < n) (h0 : ∀ c, B 0 c = -A k c) (h1 : ∀ c, B k c = A 0 c) (h : ∀ r c, r ≠ 0 → r ≠ k → B r c = A r c) : D n B = D n A := by
  -- rows (0, k): u, v are A's; f x y has x at 0 and y at k
  have f : ∀ (x y : Nat → Int), ∃ M : Mat, (∀ c, M 0 c = x c) ∧ (∀ c, M k c = y c) ∧ ∀ r c, r ≠ 0 → r ≠ k → M r c = A r c := fun x y =>
    ⟨fun r c => if r = 0 then x c else if r = k then y c else A r c, fun c => by simp, fun c => by simp [show k ≠ 0 by omega], fun r c a b => by simp [a, b]⟩
  obtain ⟨Mww, a0, a1, a2⟩ := f (fun c => A 0 c + A k c) (fun c => A 0 c + A k c)
  obtain ⟨Muw, b0, b1, b2⟩ := f (A 0) (fun c => A 0 c + A k c)
  obtain ⟨Mvw, c0, c1, c2⟩ := f (A k) (fun c => A 0 c + A k c)
  obtain ⟨Muu, d0, d1, d2⟩ := f (A 0) (A 0)
  obtain ⟨Mvv, e0, e1, e2⟩ := f (A k) (A k)
  obtain ⟨Mvu, g0, g1, g2⟩ := f (A k) (A 0)
  have off : ∀ {M N : Mat} {r c : Nat}, (∀ c, M k c = N k c) → (∀ r c, r ≠ 0 → r ≠ k → M r c = A r c) → (∀ r c, r ≠ 0 → r ≠ k → N r c = A r c) → r ≠ 0 → M r c = N r c := fun {M N r c} x y z hr => by
    by_cases q : r = k
    · rw [q]; exact x c
    · rw [y r c hr q, z r c hr q]
  have off' : ∀ {M N : Mat} {r c : Nat}, (∀ c, M 0 c = N 0 c) → (∀ r c, r ≠ 0 → r ≠ k → M r c = A r c) → (∀ r c, r ≠ 0 → r ≠ k → N r c = A r c) → r ≠ k → M r c = N r c := fun {M N r c} x y z hr => by
    by_cases q : r = 0
    · rw [q]; exact x c
    · rw [y r c q hr, z r c q hr]
  have s1 := D_lin (n := n) (i := 0) (p := 1) (q := 1) (A := Mww) (B := Muw) (C := Mvw) (by omega) (fun r c hr => ⟨off (fun c => by rw [a1, b1]) a2 b2 hr, off (fun c => by rw [a1, c1]) a2 c2 hr⟩) fun c => by rw [a0, b0, c0]; omega
  have s2 := D_lin (n := n) (i := k) (p := 1) (q := 1) (A := Muw) (B := Muu) (C := A) hn (fun r c hr => ⟨off' (fun c => by rw [b0, d0]) b2 d2 hr, off' (fun c => by rw [b0]) b2 (fun _ _ _ _ => rfl) hr⟩) fun c => by rw [b1, d1]; omega
  have s3 := D_lin (n := n) (i := k) (p := 1) (q := 1) (A := Mvw) (B := Mvu) (C := Mvv) hn (fun r c hr => ⟨off' (fun c => by rw [c0, g0]) c2 g2 hr, off' (fun c => by rw [c0, e0]) c2 e2 hr⟩) fun c => by rw [c1, g1, e1]; omega
  have z1 : D n Mww = 0 := D_eq0 hk hn fun c => by rw [a0, a1]
  have z2 : D n Muu = 0 := D_eq0 hk hn fun c => by rw [d0, d1]
  have z3 : D n Mvv = 0 := D_eq0 hk hn fun c => by rw [e0, e1]
  have s4 := D_row (n := n) (i := 0) (p := -1) (A := B) (B := Mvu) (by omega) (fun r c hr => by
    by_cases q : r = k
    · rw [q, h1, g1]
    · rw [h r c hr q, g2 r c hr q]) fun c => by rw [h0, g0]; omega
  omega
def Dv (b : Int) (R : Nat) (A : Mat) : Prop := ∀ (m : Nat) (ρ κ : Nat → Nat), (∀ i, ρ i < R) → b ^ m ∣ D (m + 1) fun i j => A (ρ i) (κ j)
theorem Dv_one (R : Nat) (A : Mat) : Dv 1 R A := fun m ρ κ _ => by rw [Int.one_pow]; exact Int.one_dvd _
theorem Dv_rows {b : Int} {R : Nat} {A B : Mat} (h : Dv b R A) (π : Nat → Nat) (e : Nat → Int) (hπ : ∀ i, i < R → π i < R) (hB : ∀ i j, i < R → B i j = e i * A (π i) j) : Dv b R B := fun m ρ κ hρ => by
  have z : (D (m + 1) fun i j => B (ρ i) (κ j)) = pr (m + 1) (fun i => e (ρ i)) * D (m + 1) fun i j => A (π (ρ i)) (κ j) := by
    rw [← D_scale]
    exact D_congr fun i j _ _ => hB _ _ (hρ i)
  rw [z]
  exact Int.dvd_mul_of_dvd_right (h m (fun i => π (ρ i)) κ fun i => hπ _ (hρ i))
theorem Dv_two {b : Int} {R : Nat} {A : Mat} (h : Dv b R A) {i j : Nat} (h0 : 0 < R) (hi : i < R) : b ∣ A 0 0 * A i j - A i 0 * A 0 j := by
  have z := h 1 (fun r => if r = 0 then 0 else i) (fun c => if c = 0 then 0 else j) (fun r => by show (if r = 0 then 0 else i) < R; split <;> assumption)
  rw [Int.pow_succ, Int.pow_zero, Int.one_mul] at z
  have e : (D (1 + 1) fun r c => A (if r = 0 then 0 else i) (if c = 0 then 0 else j)) = A 0 0 * A i j - A i 0 * A 0 j := by
    show 0 + sg 0 * A 0 0 * (0 + sg 0 * A i j * 1) + sg 1 * A 0 j * (0 + sg 0 * A i 0 * 1) = _
    rw [show sg 0 = 1 from rfl, show sg 1 = -1 from rfl]
    grind
  rw [e] at z
  exact z
theorem Dv_step {b : Int} {R : Nat} {A B : Mat} (hb : b ≠ 0) (hp : A 0 0 ≠ 0) (h : Dv b (R + 1) A) (hB : ∀ i j, i < R → b * B i j = A 0 0 * A (i + 1) (j + 1) - A (i + 1) 0 * A 0 (j + 1)) : Dv (A 0 0) R B := fun m ρ κ hρ => by
  obtain ⟨t, ht⟩ := h (m + 1) (fun i => match i with | 0 => 0 | i + 1 => ρ i + 1) (fun j => match j with | 0 => 0 | j + 1 => κ j + 1) fun i => by
    cases i with
    | zero => exact Nat.succ_pos _
    | succ i => exact Nat.succ_lt_succ (hρ i)
  have e := D_step (n := m) (A := fun i j => A (match i with | 0 => 0 | i + 1 => ρ i + 1) (match j with | 0 => 0 | j + 1 => κ j + 1)) hp
  have e2 : (D (m + 1) fun i j => A 0 0 * A (ρ i + 1) (κ j + 1) - A (ρ i + 1) 0 * A 0 (κ j + 1)) = b ^ (m + 1) * D (m + 1) fun i j => B (ρ i) (κ j) := by
    rw [← pr_const, ← D_scale]
    exact D_congr fun i j _ _ => (hB _ _ (hρ i)).symm
  have e3 : A 0 0 ^ m * (b ^ (m + 1) * t) = b ^ (m + 1) * D (m + 1) fun i j => B (ρ i) (κ j) := by
    rw [← ht, ← e2]
    exact e
  refine ⟨t, ?_⟩
  refine Int.eq_of_mul_eq_mul_left (Int.pow_ne_zero (m := m + 1) hb) (e3.symm.trans ?_)
  rw [Int.mul_left_comm]
theorem D_next {b : Int} {n : Nat} {A B : Mat} (hp : A 0 0 ≠ 0) (hB : ∀ i j, i < n + 1 → b * B i j = A 0 0 * A (i + 1) (j + 1) - A (i + 1) 0 * A 0 (j + 1)) : A 0 0 ^ n * D (n + 2) A = b ^ (n + 1) * D (n + 1) B := by
  rw [D_step hp, ← pr_const, ← D_scale]
  exact D_congr fun i j hi _ => (hB i j hi).symm
end RimD
set_option linter.all false
namespace RimD
def gi (r : List Int) (j : Nat) : Int := r.getD j 0
def ma (rows : List (List Int)) : Mat := fun i j => gi (rows.getD i []) j
def lessP (piv : List Int) (b : Int) (row : List Int) : List Int := (List.range (row.length - 1)).map fun j => (gi piv 0 * gi row (j + 1) - gi row 0 * gi piv (j + 1)).fdiv b
def firstP (rows : List (List Int)) : Nat → Nat → Option Nat
  | _, 0 => none
  | j, n + 1 => if gi (rows.getD j []) 0 ≠ 0 then some j else firstP rows (j + 1) n
def pivP (rows : List (List Int)) (free : Nat) : List (List Int) := match firstP rows 0 free with
  | none => []
  | some 0 => rows
  | some (k + 1) => [(rows.getD (k + 1) []).map fun x => -x] ++ (rows.drop 1).take k ++ [rows.getD 0 []] ++ rows.drop (k + 2)
def sweepP : Nat → Int → List (List Int) → Int × List (List Int)
  | 0, b, left => (b, left)
  | free + 1, b, left => match pivP left (free + 1) with
    | [] => (0, [])
    | piv :: others => sweepP free (gi piv 0) (others.map (lessP piv b) ++ [piv.drop 1])
theorem firstP_none {rows : List (List Int)} : ∀ {n j : Nat}, firstP rows j n = none → ∀ i, j ≤ i → i < j + n → gi (rows.getD i []) 0 = 0
  | 0, _, _, _, _, _ => by omega
  | n + 1, j, h, i, h1, h2 => by
    unfold firstP at h
    split at h
    · cases h
    · rename_i q
      by_cases e : i = j
      · subst e; exact Decidable.of_not_not q
      · exact firstP_none h i (by omega) (by omega)
theorem firstP_some {rows : List (List Int)} : ∀ {n j k : Nat}, firstP rows j n = some k → j ≤ k ∧ k < j + n ∧ gi (rows.getD k []) 0 ≠ 0
  | 0, _, _, h => by cases h
  | n + 1, j, k, h => by
    unfold firstP at h
    split at h
    · rename_i q; cases h; exact ⟨Nat.le_refl _, by omega, q⟩
    · obtain ⟨a, b, c⟩ := firstP_some h
      exact ⟨by omega, by omega, c⟩
theorem gi_map {f : Int → Int} (h : f 0 = 0) (r : List Int) (j : Nat) : gi (r.map f) j = f (gi r j) := by
  unfold gi
  simp only [List.getD_eq_getElem?_getD, List.getElem?_map]
  cases r[j]? <;> simp [h]
theorem piv_at {rows : List (List Int)} {k : Nat} (hk : k + 1 < rows.length) (i : Nat) :
    ([(rows.getD (k + 1) []).map fun x => -x] ++ (rows.drop 1).take k ++ [rows.getD 0 []] ++ rows.drop (k + 2)).getD i [] = if i = 0 then (rows.getD (k + 1) []).map fun x => -x else if i = k + 1 then rows.getD 0 [] else rows.getD i [] := by
  have l : ((rows.drop 1).take k).length = k := by simp; omega
  simp only [List.getD_eq_getElem?_getD, List.append_assoc, List.singleton_append, List.cons_append, List.nil_append]
  by_cases h0 : i = 0
  · subst h0; simp
  · obtain ⟨i, rfl⟩ : ∃ j, i = j + 1 := ⟨i - 1, by omega⟩
    rw [if_neg h0, List.getElem?_cons_succ]
    by_cases h1 : i < k
    · rw [List.getElem?_append_left (by rw [l]; exact h1), List.getElem?_take_of_lt h1, List.getElem?_drop, if_neg (by omega), Nat.add_comm 1 i]
    · rw [List.getElem?_append_right (by rw [l]; omega), l]
      by_cases h2 : i = k
      · subst h2; simp
      · rw [if_neg (by omega)]
        obtain ⟨d, rfl⟩ : ∃ d, i = k + 1 + d := ⟨i - (k + 1), by omega⟩
        rw [show k + 1 + d - k = d + 1 by omega, List.getElem?_cons_succ, List.getElem?_drop]
        rw [show k + 2 + d = k + 1 + d + 1 by omega]
theorem piv_len {rows : List (List Int)} {k : Nat} (hk : k + 1 < rows.length) : ([(rows.getD (k + 1) []).map fun x => -x] ++ (rows.drop 1).take k ++ [rows.getD 0 []] ++ rows.drop (k + 2)).length = rows.length := by
  simp only [List.length_append, List.length_cons, List.length_nil, List.length_take, List.length_drop]
  omega
structure Rect (w : Nat) (rows : List (List Int)) : Prop where
  w : ∀ r ∈ rows, r.length = w
theorem Rect.at {w : Nat} {rows : List (List Int)} (h : Rect w rows) {i : Nat} (hi : i < rows.length) : (rows.getD i []).length = w := by
  rw [List.getD_eq_getElem?_getD, List.getElem?_eq_getElem hi]
  exact h.w _ (List.getElem_mem _)
theorem gi_over {r : List Int} {j : Nat} (h : r.length ≤ j) : gi r j = 0 := by
  unfold gi
  rw [List.getD_eq_getElem?_getD, List.getElem?_eq_none h]
  rfl
theorem piv_some {rows ord : List (List Int)} {m : Nat} {b : Int} {w : Nat} (hl : m + 1 ≤ rows.length) (hw : Rect w rows) (hd : Dv b (m + 1) (ma rows)) (h : pivP rows (m + 1) = ord) (hn : ord ≠ []) :
    ord.length = rows.length ∧ Rect w ord ∧ ma ord 0 0 ≠ 0 ∧ Dv b (m + 1) (ma ord) ∧ D (m + 1) (ma ord) = D (m + 1) (ma rows) := by
  unfold pivP at h
  split at h
  · exact absurd h.symm hn
  · rename_i e
    subst h
    obtain ⟨_, _, c⟩ := firstP_some e
    exact ⟨rfl, hw, c, hd, rfl⟩
  · rename_i k e
    obtain ⟨_, hk, c⟩ := firstP_some e
    have hk' : k + 1 < rows.length := by omega
    subst h
    have at' := piv_at hk'
    have ln := piv_len hk'
    generalize ([(rows.getD (k + 1) []).map fun x => -x] ++ (rows.drop 1).take k ++ [rows.getD 0 []] ++ rows.drop (k + 2)) = ord at *
    have m0 : ∀ c, ma ord 0 c = -ma rows (k + 1) c := fun c => by unfold ma; rw [at', if_pos rfl, gi_map (by rfl)]
    have m1 : ∀ c, ma ord (k + 1) c = ma rows 0 c := fun c => by unfold ma; rw [at', if_neg (by omega), if_pos rfl]
    have m2 : ∀ r c, r ≠ 0 → r ≠ k + 1 → ma ord r c = ma rows r c := fun r c a b => by unfold ma; rw [at', if_neg a, if_neg b]
    refine ⟨ln, ⟨fun r hr => ?_⟩, ?_, ?_, ?_⟩
    · obtain ⟨i, hi, rfl⟩ := List.mem_iff_getElem.mp hr
      have e : ord[i] = ord.getD i [] := by rw [List.getD_eq_getElem?_getD, List.getElem?_eq_getElem hi]; rfl
      rw [e, at']
      split
      · rw [List.length_map]; exact hw.at hk'
      · split
        · exact hw.at (by omega)
        · exact hw.at (by omega)
    · rw [m0]
      have c' : ma rows (k + 1) 0 ≠ 0 := c
      omega
    · refine Dv_rows hd (fun i => if i = 0 then k + 1 else if i = k + 1 then 0 else i) (fun i => if i = 0 then -1 else 1) (fun i hi => ?_) fun i j hi => ?_
      · show (if i = 0 then k + 1 else if i = k + 1 then 0 else i) < m + 1
        split
        · omega
        · split <;> omega
      · by_cases h0 : i = 0
        · subst h0; simp only [if_true]; rw [m0]; omega
        · simp only [if_neg h0]
          by_cases h1 : i = k + 1
          · subst h1; simp only [if_true]; rw [m1]; omega
          · simp only [if_neg h1]; rw [m2 i j h0 h1]; omega
    · exact D_swap (k := k + 1) (by omega) (by omega) m0 m1 m2
theorem piv_none {rows : List (List Int)} {m : Nat} (hl : 0 < rows.length) (h : pivP rows (m + 1) = []) : D (m + 1) (ma rows) = 0 := by
  unfold pivP at h
  split at h
  · rename_i e
    exact D_zero fun i hi => firstP_none e i (by omega) (by omega)
  · subst h; simp at hl
  · simp at h
theorem gi_less {piv row : List Int} {b : Int} (h : row.length = piv.length) (j : Nat) : gi (lessP piv b row) j = (gi piv 0 * gi row (j + 1) - gi row 0 * gi piv (j + 1)).fdiv b := by
  by_cases hj : j < row.length - 1
  · unfold lessP
    show ((List.range (row.length - 1)).map _).getD j 0 = _
    rw [List.getD_eq_getElem?_getD, List.getElem?_map, List.getElem?_range hj]
    rfl
  · rw [gi_over (r := lessP piv b row) (by unfold lessP; simp; omega), gi_over (r := row) (j := j + 1) (by omega), gi_over (r := piv) (j := j + 1) (by omega)]
    simp
theorem fdiv_exact {b x : Int} (h : b ∣ x) (hb : b ≠ 0) : b * x.fdiv b = x := Int.mul_fdiv_cancel' h
theorem sweep_det (V : Int) : ∀ {free w : Nat} {b : Int} {left : List (List Int)}, free ≤ left.length → free ≤ w → Rect w left → b ≠ 0 → Dv b free (ma left) → (free = 0 → b = V) → (∀ m, free = m + 1 → D (m + 1) (ma left) = b ^ m * V) → (sweepP free b left).1 = V
  | 0, _, b, left, _, _, _, _, _, h0, _ => h0 rfl
  | m + 1, w, b, left, hl, hw, hr, hb, hd, _, h1 => by
    have v := h1 m rfl
    unfold sweepP
    split
    · rename_i e
      rw [piv_none (by omega) e] at v
      rcases Int.mul_eq_zero.mp v.symm with z | z
      · exact absurd z (Int.pow_ne_zero hb)
      · exact z.symm
    · rename_i piv others e
      obtain ⟨ln, rect, hp, dv, dd⟩ := piv_some hl hr hd e (by simp)
      rw [← dd] at v
      have pw : piv.length = w := rect.w _ (.head _)
      have row : ∀ i j, i < others.length → ma (others.map (lessP piv b) ++ [piv.drop 1]) i j = (ma (piv :: others) 0 0 * ma (piv :: others) (i + 1) (j + 1) - ma (piv :: others) (i + 1) 0 * ma (piv :: others) 0 (j + 1)).fdiv b := fun i j hi => by
        unfold ma
        have e1 : (others.map (lessP piv b) ++ [piv.drop 1]).getD i [] = lessP piv b (others.getD i []) := by
          rw [List.getD_eq_getElem?_getD, List.getElem?_append_left (by simpa using hi), List.getElem?_map, List.getD_eq_getElem?_getD, List.getElem?_eq_getElem hi]
          rfl
        have e2 : (piv :: others).getD (i + 1) [] = others.getD i [] := rfl
        have e3 : (piv :: others).getD 0 [] = piv := rfl
        rw [e1, e2, e3, gi_less]
        rw [pw]
        exact Rect.at ⟨fun r h => rect.w r (.tail _ h)⟩ hi
      have ol : others.length + 1 = left.length := ln
      have ex : ∀ i j, i < m → b * ma (others.map (lessP piv b) ++ [piv.drop 1]) i j = ma (piv :: others) 0 0 * ma (piv :: others) (i + 1) (j + 1) - ma (piv :: others) (i + 1) 0 * ma (piv :: others) 0 (j + 1) := fun i j hi => by
        rw [row i j (by omega)]
        exact fdiv_exact (Dv_two dv (by omega) (by omega)) hb
      have hp' : gi piv 0 ≠ 0 := hp
      refine sweep_det V (w := w - 1) (by simp; omega) (by omega) ⟨fun r hx => ?_⟩ hp' ?_ (fun z => ?_) fun m' z => ?_
      · rcases List.mem_append.mp hx with hx | hx
        · obtain ⟨r', hr', rfl⟩ := List.mem_map.mp hx
          have := rect.w r' (.tail _ hr')
          unfold lessP
          simp
          omega
        · simp at hx
          subst hx
          simp
          omega
      · exact Dv_step (A := ma (piv :: others)) hb hp dv ex
      · subst z
        have v' : D 1 (ma (piv :: others)) = b ^ 0 * V := v
        rw [Int.pow_zero, Int.one_mul] at v'
        have : D 1 (ma (piv :: others)) = gi piv 0 := by
          show 0 + sg 0 * gi piv 0 * 1 = gi piv 0
          rw [show sg 0 = 1 from rfl]
          omega
        omega
      · subst z
        have n := D_next (A := ma (piv :: others)) (n := m') hp ex
        rw [v] at n
        refine Int.eq_of_mul_eq_mul_left (Int.pow_ne_zero (m := m' + 1) hb) (n.symm.trans ?_)
        show gi piv 0 ^ m' * (b ^ (m' + 1) * V) = _
        rw [Int.mul_left_comm]
theorem sweep_is {rows : List (List Int)} {w : Nat} (hw : Rect w rows) (h : rows.length ≤ w) : (sweepP rows.length 1 rows).1 = D rows.length (ma rows) :=
  sweep_det _ (Nat.le_refl _) h hw (by decide) (Dv_one _ _) (fun z => by rw [z]; rfl) fun m z => by rw [Int.one_pow, Int.one_mul, z]
end RimD
set_option linter.all false
namespace RimD
open RimM
theorem pr_front : ∀ (n : Nat) (b : Nat → Int), pr (n + 1) b = b 0 * pr n fun i => b (i + 1)
  | 0, b => by show 1 * b 0 = b 0 * 1; omega
  | n + 1, b => by
    show pr (n + 1) b * b (n + 1) = b 0 * (pr n (fun i => b (i + 1)) * b (n + 1))
    rw [pr_front n b, Int.mul_assoc]
theorem pr_pos : ∀ {n : Nat} {b : Nat → Int}, (∀ i, i < n → 0 < b i) → 0 < pr n b
  | 0, _, _ => (by decide : (0 : Int) < 1)
  | n + 1, b, h => Int.mul_pos (pr_pos fun i hi => h i (by omega)) (h n (by omega))
theorem su_le : ∀ {n : Nat} {f : Nat → Int} {K : Nat}, (∀ k, k < n → (f k).natAbs ≤ K) → (su n f).natAbs ≤ n * K
  | 0, _, _, _ => by show 0 ≤ _; omega
  | n + 1, f, K, h => by
    have a := su_le (n := n) (f := f) (K := K) fun k hk => h k (by omega)
    have b := h n (by omega)
    have c := Int.natAbs_add_le (su n f) (f n)
    show (su n f + f n).natAbs ≤ (n + 1) * K
    rw [Nat.succ_mul]
    omega
theorem sg_abs (k : Nat) : (sg k).natAbs = 1 := by unfold sg; split <;> rfl
theorem D_le {B : Nat} : ∀ {n : Nat} {N : Mat}, n ≤ 8 → (∀ i j, i < n → j < n → (N i j).natAbs ≤ 2 ^ B) → (D n N).natAbs ≤ 2 ^ ((B + 3) * n)
  | 0, _, _, _ => by show 1 ≤ 2 ^ ((B + 3) * 0); simp
  | n + 1, N, h8, h => by
    have z : (D (n + 1) N).natAbs ≤ (n + 1) * (2 ^ B * 2 ^ ((B + 3) * n)) := su_le fun k hk => by
      rw [Int.natAbs_mul, Int.natAbs_mul, sg_abs, Nat.one_mul]
      exact Nat.mul_le_mul (h 0 k (by omega) hk) (D_le (by omega) fun i j hi hj => h _ _ (by omega) (by unfold sk; split <;> omega))
    refine Nat.le_trans z (Nat.le_trans (Nat.mul_le_mul_right _ h8) ?_)
    rw [show (8 : Nat) = 2 ^ 3 by rfl, ← Nat.pow_add, ← Nat.pow_add, Nat.mul_succ]
    exact Nat.pow_le_pow_right (by decide) (by omega)
theorem pr_le {B : Nat} : ∀ {n : Nat} {b : Nat → Int}, (∀ i, i < n → (b i).natAbs ≤ 2 ^ B) → (pr n b).natAbs ≤ 2 ^ (B * n)
  | 0, _, _ => by show 1 ≤ 2 ^ (B * 0); simp
  | n + 1, b, h => by
    show (pr n b * b n).natAbs ≤ _
    rw [Int.natAbs_mul, Nat.mul_succ, Nat.pow_add]
    exact Nat.mul_le_mul (pr_le fun i hi => h i (by omega)) (h n (by omega))
theorem nf_mul {t b t' b' : Int} {p : Int × Int} (hp : 0 < p.2) (hb : b ≠ 0) (hb' : b' ≠ 0) (h : p.1 * b = t * p.2) : nf (p.1 * (nf t' b').1) (p.2 * (nf t' b').2) = nf (t * t') (b * b') := by
  obtain ⟨l, e⟩ := nf_low (t := t') hb'
  have l0 := l.pos
  refine nf_eq (Int.mul_ne_zero (by omega) (by omega)) (Int.mul_ne_zero hb hb') ?_
  calc p.1 * (nf t' b').1 * (b * b') = (p.1 * b) * ((nf t' b').1 * b') := by ac_rfl
    _ = (t * p.2) * (t' * (nf t' b').2) := by rw [h, e]
    _ = t * t' * (p.2 * (nf t' b').2) := by ac_rfl
theorem nf_add {t t' b : Int} {s : Int} (hb : b ≠ 0) : nf ((nf t b).1 * (nf t' b).2 + (nf t' b).1 * s * (nf t b).2) ((nf t b).2 * (nf t' b).2) = nf (t + t' * s) b := by
  obtain ⟨l, e⟩ := nf_low (t := t) hb
  obtain ⟨l', e'⟩ := nf_low (t := t') hb
  have l0 := l.pos
  have l0' := l'.pos
  refine nf_eq (Int.mul_ne_zero (by omega) (by omega)) hb ?_
  calc ((nf t b).1 * (nf t' b).2 + (nf t' b).1 * s * (nf t b).2) * b = ((nf t b).1 * b) * (nf t' b).2 + ((nf t' b).1 * b) * (s * (nf t b).2) := by rw [Int.add_mul]; congr 1 <;> ac_rfl
    _ = (t * (nf t b).2) * (nf t' b).2 + (t' * (nf t' b).2) * (s * (nf t b).2) := by rw [← e, ← e']
    _ = (t + t' * s) * ((nf t b).2 * (nf t' b).2) := by rw [Int.add_mul]; congr 1 <;> ac_rfl
def Bd (B : Nat) (rows : List (List Int)) : Prop := ∀ r ∈ rows, ∀ x ∈ r, x.natAbs ≤ 2 ^ B
theorem fdiv_le (x b : Int) (hb : b ≠ 0) : (x.fdiv b).natAbs ≤ x.natAbs := by
  rcases Int.lt_or_lt_of_ne hb with h | h
  · have e : x.fdiv b = (-x).fdiv (-b) := by rw [Int.neg_fdiv_neg]
    rw [e, Int.fdiv_eq_ediv_of_nonneg _ (by omega)]
    have := Int.natAbs_ediv_le_natAbs (-x) (-b)
    omega
  · rw [Int.fdiv_eq_ediv_of_nonneg _ (by omega)]
    exact Int.natAbs_ediv_le_natAbs x b
theorem gi_le {B : Nat} {r : List Int} (h : ∀ x ∈ r, x.natAbs ≤ 2 ^ B) (j : Nat) : (gi r j).natAbs ≤ 2 ^ B := by
  unfold gi
  rw [List.getD_eq_getElem?_getD]
  cases e : r[j]? with
  | none => simp
  | some x => exact h x (List.mem_of_getElem? e)
theorem less_le {B : Nat} {piv row : List Int} {b : Int} (hb : b ≠ 0) (h1 : ∀ x ∈ piv, x.natAbs ≤ 2 ^ B) (h2 : ∀ x ∈ row, x.natAbs ≤ 2 ^ B) : ∀ x ∈ lessP piv b row, x.natAbs ≤ 2 ^ (2 * B + 1) := fun x hx => by
  obtain ⟨j, _, rfl⟩ := List.mem_map.mp hx
  refine Nat.le_trans (fdiv_le _ _ hb) ?_
  have a := Nat.mul_le_mul (gi_le h1 0) (gi_le h2 (j + 1))
  have c := Nat.mul_le_mul (gi_le h2 0) (gi_le h1 (j + 1))
  rw [← Int.natAbs_mul, ← Nat.pow_add] at a c
  have z := Int.natAbs_sub_le (gi piv 0 * gi row (j + 1)) (gi row 0 * gi piv (j + 1))
  rw [show 2 * B + 1 = B + B + 1 by omega, Nat.pow_succ]
  omega
end RimD
set_option Elab.async false
set_option linter.all false
set_option maxRecDepth 100000
namespace L2
open PySem PySem.Spec PyProof.Rows
end L2
set_option Elab.async false
set_option linter.all false
set_option maxRecDepth 100000
namespace L2
open PySem PySem.Spec PyProof.Rows
end L2
set_option Elab.async false
set_option linter.all false
set_option maxRecDepth 100000
namespace L2
open PySem PySem.Spec PyProof.Rows
theorem ix_tupK {X : Cx} {K : PySem.W.Frag} (hK : X.K = K) : IxR X (rIxT K) := hK ▸ ix_tup
theorem pe_gobj {X : Cx} {x : Str} {C : Addr} {pos : Pos} (hm : X.mg x = some (.ref C)) (hg : Gl X x) (hd : (x == ("__debug__" : Str)) = false := by decide) : PE X (.Name x pos) (tC (.ref C)) := pe_glob hg hm rfl hd
def numsV (n : Nat) : List V := (List.range n).map fun i : Nat => V.int (i : Int)
def tLRange (ta : TA) : TE := fun σ H Q => ta σ H fun vs H1 => ∃ n : Nat, vs = [.int (n : Int)] ∧ n ≤ 1000 ∧ ∀ l, H1 l = none → Q (.ref l) (upd H1 l (.lst (numsV n)))
theorem vals_get : ∀ {xs : List V} {us : List Value}, xs.length = us.length → (∀ (j : Nat) x u, xs[j]? = some x → us[j]? = some u → RelV x u) → Vals xs us
  | [], [], _, _ => .nil
  | [], _ :: _, h, _ => by simp at h
  | _ :: _, [], h, _ => by simp at h
  | x :: xs, u :: us, h, k => .cons (k 0 x u rfl rfl) (vals_get (by simpa using h) fun j y v e e' => k (j + 1) y v (by simpa using e) (by simpa using e'))
theorem pe_listRange {X : Cx} {a : Expr} {ta : TA} {p p' pos pos' : Pos} (hc : X.calm = true) (hg : Gl X "list") (hm : X.mg "list" = none) (hg' : Gl X "range") (hm' : X.mg "range" = none) (ha : PA X [a] ta) (hs : plainArgs [a] = true := by rfl) :
    PE X (.Call (.Name "list" p) [.Call (.Name "range" p') [a] [] pos'] [] pos) (tLRange ta) := by
  have h' : notStar a = true := by simpa [plainArgs] using hs
  intro pins s σ H Q I h
  refine wpAny_Call_Name_kw (ld_blt I hg hm bt_list ?_ (by decide) (by decide))
  refine PyProof.Rows.callWith_type1 ?_ (starEach_plain rfl) rfl
  rw [starEach_plain (e := .Call (.Name "range" p') [a] [] pos') (es := []) rfl]
  show wpAny _ _ (spliced ((false, eval (.Call (.Name "range" p') [a] [] pos') X.env) :: backTo pos (starEach [] X.env))) _ _ s
  refine Calls.spliced_cons ?_
  refine Call_ (ld_blt I hg' hm' boot_range (PyProof.Rows.callWith_type1 (thn (ha pos' pins s σ H _ I h) fun us s1 ⟨vs, H1, I1, r1, q1⟩ => ?_) (starEach_plain h') rfl))
  obtain ⟨n, e, n1, q⟩ := q1
  subst e
  cases r1 with
  | cons r rr =>
    cases rr
    obtain ⟨t, rfl⟩ := r
    refine call_range_1 ?_
    refine Calls.spliced_nil ?_
    have I2 : Inv X pins σ H1 { s1 with heap := s1.heap.push { cls := .type "range", data := .fields #[.int 0 s1.toks, .int (n : Int) t, .int 1 (s1.toks + 1)] }, toks := s1.toks + 1 + 1 } := I1.kept fun b o e => Heap.get?_push_of_some _ e
    refine call_list_range (n := n) (I2.ok.hd hc) (IsRange.new ..) (small_one (by omega) (by omega) (by omega) (by omega)) (by rw [rangeSize_one]; split <;> omega) (by omega) fun h2 tk acc c hk hS hacc => ?_
    refine ⟨.ref _, _, I2.laid (t' := tk) hk (Nat.le_refl _) (show ObjOk X.prog X.w _ h2 _ (.lst (numsV n)) from ⟨?_, acc.toList, c, vals_get ?_ ?_, by simpa using hS⟩), rfl, q _ (I2.hok.fresh (Nat.le_refl _))⟩
    · exact Nat.le_of_lt (small1000 (by simp [numsV]; omega))
    · simp [numsV, hacc.1]
    · intro j x u hx hu
      have hj : j < n := by
        have := (List.getElem?_eq_some_iff.mp hx).1
        simpa [numsV] using this
      have hx' : x = V.int (j : Int) := by
        rw [numsV, List.getElem?_map, List.getElem?_range hj] at hx
        exact (Option.some.inj hx).symm
      obtain ⟨tk', rfl⟩ := hacc.2 j u (by simpa using hu)
      rw [hx']
      exact ⟨tk', by rw [Int.zero_add, Int.mul_one]⟩
def tRev (te : TE) (ts : TO) : TE := fun σ H Q => te σ H fun x H1 => ts σ H1 fun o H2 => o = some (-1) ∧ ∃ a xs, x = .ref a ∧ H2 a = some (.lst xs) ∧ ∀ p, H2 p = none → Q (.ref p) (upd H2 p (.lst xs.reverse))
theorem vals_rev {xs : List V} {us : List Value} (r : Vals xs us) : Vals xs.reverse us.reverse := by
  have hl := r.length
  refine vals_get (by simp [hl]) fun j x u hx hu => ?_
  have hj : j < xs.length := by
    have := (List.getElem?_eq_some_iff.mp hx).1
    simpa using this
  rw [List.getElem?_reverse hj] at hx
  rw [List.getElem?_reverse (by omega), ← hl] at hu
  obtain ⟨u', hu', ru⟩ := r.get hx
  rw [hu] at hu'
  cases hu'
  exact ru
theorem pe_rev {X : Cx} {e : Expr} {st : Expr} {te : TE} {ts : TO} {pos p2 : Pos} (he : PE X e te) (hk : PO X (some st) ts) : PE X (.Subscript e (.Slice none none (some st) p2) pos) (tRev te ts) := by
  intro pins s σ H Q I h
  refine Subscript_ (thn (he pins s σ H _ I h) fun v s1 ⟨x, H1, I1, r1, q1⟩ => ?_)
  refine wpAny_Slice ?_
  rw [evalPart_none]
  refine wpAny_pure (wpAny_pure ?_)
  refine thn (hk pins s1 σ H1 _ I1 q1) fun vk s2 ⟨o, H2, I2, pk, q2⟩ => ?_
  obtain ⟨rfl, a, xs, rfl, hx, q⟩ := q2
  cases r1
  have I4 : Inv X pins σ H2 { s2 with heap := s2.heap.push { cls := .type "slice", data := .fields #[.none, .none, vk] } } := I2.kept (t' := s2.toks) fun b ob q => Heap.get?_push_of_some _ q
  obtain ⟨its, r, ht, hz⟩ := I4.list (.inl (.inl hx))
  have hlen := r.length
  show wpAny (model X.prog X.w) X.A (subscriptTail e (.Slice none none (some st) p2) (.ref a) (.ref s2.heap.objs.size)) (EP X pins σ Q) X.xe { s2 with heap := s2.heap.push { cls := .type "slice", data := .fields #[.none, .none, vk] } }
  refine tail_any (ops := [.ref a, .ref s2.heap.objs.size]) ht.isList.typeIs slot_list_getitem.lookup ?_ (by with_unfolding_all rfl)
  refine wpAny_getItem_list_slice ht.isList (Heap.IsSliceOf.new ..) .none .none pk (by decide) ?_ (by rw [List.size_toArray] <;> omega)
  rw [PySem.W.krv_pick]
  refine ⟨.ref _, _, I4.laid (t' := s2.toks) (o := .lst xs.reverse) (fun b ob q => Heap.get?_push_of_some _ q) (Nat.le_refl _) ?_, rfl, q _ (I4.hok.fresh (Nat.le_refl _))⟩
  exact ⟨by rw [List.length_reverse]; exact hz, its.reverse, 0, vals_rev r, Heap.get?_push_size _ rfl⟩
end L2
set_option linter.all false
namespace RimD
open RimM
theorem nf_minus {t b : Int} (hb : b ≠ 0) : nf (0 * (nf t b).2 - (nf t b).1 * 1) (1 * (nf t b).2) = nf (-t) b := by
  obtain ⟨l, e⟩ := nf_low (t := t) hb
  have l0 := l.pos
  refine nf_eq (by omega) hb ?_
  rw [Int.zero_mul, Int.mul_one, Int.one_mul, Int.zero_sub, Int.neg_mul, Int.neg_mul, e]
theorem nf_minus1 {t b : Int} {p : Int × Int} (hp : 0 < p.2) (hb : b ≠ 0) (h : p.1 * b = t * p.2) : nf (0 * p.2 - p.1 * 1) (1 * p.2) = nf (-t) b := by
  refine nf_eq (by omega) hb ?_
  rw [Int.zero_mul, Int.mul_one, Int.one_mul, Int.zero_sub, Int.neg_mul, Int.neg_mul, h]
theorem nf_mul2 {t b t' b' : Int} {p q : Int × Int} (hp : 0 < p.2) (hq : 0 < q.2) (hb : b ≠ 0) (hb' : b' ≠ 0) (h : p.1 * b = t * p.2) (h' : q.1 * b' = t' * q.2) : nf (p.1 * q.1) (p.2 * q.2) = nf (t * t') (b * b') := by
  refine nf_eq (Int.mul_ne_zero (by omega) (by omega)) (Int.mul_ne_zero hb hb') ?_
  calc p.1 * q.1 * (b * b') = (p.1 * b) * (q.1 * b') := by ac_rfl
    _ = (t * p.2) * (t' * q.2) := by rw [h, h']
    _ = t * t' * (p.2 * q.2) := by ac_rfl
theorem nf_less {t t' b : Int} (hb : b ≠ 0) : nf ((nf t b).1 * (nf t' b).2 - (nf t' b).1 * (nf t b).2) ((nf t b).2 * (nf t' b).2) = nf (t - t') b := by
  have z := nf_add (t := t) (t' := t') (b := b) (s := -1) hb
  rw [show (nf t' b).1 * -1 = -(nf t' b).1 by omega, Int.neg_mul, show t + t' * -1 = t - t' by omega] at z
  exact z
theorem D_one (N : Mat) : D 1 N = N 0 0 := by
  show (0 : Int) + sg 0 * N 0 0 * 1 = _
  have : sg 0 = 1 := rfl
  rw [this]
  omega
theorem D_2 (N : Mat) : D 2 N = N 0 0 * N 1 1 - N 0 1 * N 1 0 := by
  show (0 : Int) + sg 0 * N 0 0 * D 1 (mi N 0) + sg 1 * N 0 1 * D 1 (mi N 1) = _
  rw [D_one, D_one]
  have e0 : sg 0 = 1 := rfl
  have e1 : sg 1 = -1 := rfl
  show (0 : Int) + sg 0 * N 0 0 * N 1 1 + sg 1 * N 0 1 * N 1 0 = _
  rw [e0, e1, Int.one_mul, Int.zero_add, Int.neg_mul, Int.one_mul, Int.neg_mul]
  rfl
theorem pr_one (b : Nat → Int) : pr 1 b = b 0 := by
  show (1 : Int) * b 0 = _
  omega
theorem pr_two (b : Nat → Int) : pr 2 b = b 0 * b 1 := by
  show (1 : Int) * b 0 * b 1 = _
  rw [Int.one_mul]
theorem su_neg (f : Nat → Int) : ∀ n, su n (fun k => -f k) = -su n f
  | 0 => rfl
  | n + 1 => by
    show su n (fun k => -f k) + -f n = -(su n f + f n)
    rw [su_neg f n, Int.neg_add]
theorem sgm_int (i : Nat) : 2 * ((i : Int) % 2) - 1 = -sg i := by
  unfold sg
  split <;> omega
end RimD
set_option Elab.async false
set_option linter.all false
set_option maxRecDepth 100000
set_option maxHeartbeats 4000000
namespace Rim47
open PySem PySem.Spec PyProof.Rows L2 RimM
theorem plainT_int : plainT "int" = True := eq_true (.inl rfl)
theorem plainT_bool : plainT "bool" = True := eq_true (.inr (.inl rfl))
theorem plainT_tuple : plainT "tuple" = True := eq_true (.inr (.inr (.inl rfl)))
theorem plainT_list : plainT "list" = True := eq_true (.inr (.inr (.inr (.inl rfl))))
theorem plainT_str : plainT "str" = True := eq_true (.inr (.inr (.inr (.inr rfl))))
theorem gcd_step {x y : Int} (hx : 0 ≤ x) (hy : 0 < y) : Int.gcd y (x % y) = Int.gcd x y := by
  obtain ⟨m, rfl⟩ := Int.eq_ofNat_of_zero_le hx
  obtain ⟨n, rfl⟩ := Int.eq_ofNat_of_zero_le (Int.le_of_lt hy)
  show Int.gcd (n : Int) ((m : Int) % (n : Int)) = Int.gcd (m : Int) (n : Int)
  rw [← Int.natCast_emod, Int.gcd_natCast_natCast, Int.gcd_natCast_natCast, Nat.gcd_comm n, ← Nat.gcd_rec, Nat.gcd_comm]
local macro_rules | `(tactic| walk_at "rd") => `(tactic| first | (dsimp only [tSeq, tAsg, gName, tTup, tLst, tCons, tNil, tVar, tC, tCB, tOp, rI, rI0, tTest, tIfS, tNext, tRet, tRetN, tDrop, tB, tAnd, tOr, tNot, tAndV, tOrV, tNotV, rU, tUn, tBM0, tBM, rBits, tCall, L2.start, rIxTH, rIxLH, rLenH, rEqTH, rEq, rNe, CMul, CMulB, CDivB, CDivF, CPow, List.map_cons, List.map_nil, List.length_cons, List.length_nil, List.replicate, List.cons_append, List.nil_append, List.set_cons_zero, List.set_cons_succ, List.getElem?_cons_zero, List.getElem?_cons_succ, gSub, rSetL, rCat, iRng1, tPar, iList, tComp, pick, tYes, iZip, gTup, gCons, gNil, rSum, rListH, List.map, iRng2, iRngD, tSl, rSlH, tPart, tNoPart, tPar3, tIf, tRev, tLRange, rIxT, rPopAt]; try simp only [tSeq, tAsg, gName, tTup, tLst, tCons, tNil, tVar, tC, tCB, tOp, rI, rI0, tTest, tIfS, tNext, tRet, tRetN, tDrop, tB, tAnd, tOr, tNot, tAndV, tOrV, tNotV, rU, tUn, tBM0, tBM, rBits, tCall, L2.start, rIxTH, rIxLH, rLenH, rEqTH, rEq, rNe, scal, tyV, CMul, CMulB, CDivB, CDivF, CPow, List.map_cons, List.map_nil, List.length_cons, List.length_nil, List.replicate, List.cons_append, List.nil_append, List.append_nil, List.set_cons_zero, List.set_cons_succ, List.getElem?_cons_zero, List.getElem?_cons_succ, Option.some.injEq, List.cons.injEq, V.int.injEq, V.bl.injEq, V.str.injEq, V.ref.injEq, V.ty.injEq, HO.tup.injEq, HO.lst.injEq, exists_eq_left, exists_eq_left', exists_and_left, and_assoc, and_true, true_and, upd_same, atI_0, atI_1, atI_2, Nat.zero_add, Nat.reduceAdd, Nat.reduceSub, decide_eq_true_eq, Bool.not_eq_true', decide_eq_false_iff_not, reduceCtorEq, false_or, or_false, true_or, or_true, plainT_int, plainT_bool, plainT_tuple, plainT_list, plainT_str, Bool.false_eq_true, if_false, if_true, Bool.not_false, Bool.not_true, Bool.not_not, gSub, rSetL, ixN_00, upd_upd, rCat, iRng1, tFor_eq, tPar, iList, tComp, pick, tYes, iZip, gTup, gCons, gNil, rSum, rListH, List.map, Option.bind, iRng2, iRngD, tSl, rSlH, tPart, tNoPart, tPar3, tIf, tRev, tLRange, rIxT, rPopAt]) | simp only [tSeq, tAsg, gName, tTup, tLst, tCons, tNil, tVar, tC, tCB, tOp, rI, rI0, tTest, tIfS, tNext, tRet, tRetN, tDrop, tB, tAnd, tOr, tNot, tAndV, tOrV, tNotV, rU, tUn, tBM0, tBM, rBits, tCall, L2.start, rIxTH, rIxLH, rLenH, rEqTH, rEq, rNe, scal, tyV, CMul, CMulB, CDivB, CDivF, CPow, List.map_cons, List.map_nil, List.length_cons, List.length_nil, List.replicate, List.cons_append, List.nil_append, List.append_nil, List.set_cons_zero, List.set_cons_succ, List.getElem?_cons_zero, List.getElem?_cons_succ, Option.some.injEq, List.cons.injEq, V.int.injEq, V.bl.injEq, V.str.injEq, V.ref.injEq, V.ty.injEq, HO.tup.injEq, HO.lst.injEq, exists_eq_left, exists_eq_left', exists_and_left, and_assoc, and_true, true_and, upd_same, atI_0, atI_1, atI_2, Nat.zero_add, Nat.reduceAdd, Nat.reduceSub, decide_eq_true_eq, Bool.not_eq_true', decide_eq_false_iff_not, reduceCtorEq, false_or, or_false, true_or, or_true, plainT_int, plainT_bool, plainT_tuple, plainT_list, plainT_str, Bool.false_eq_true, if_false, if_true, Bool.not_false, Bool.not_true, Bool.not_not, gSub, rSetL, ixN_00, upd_upd, rCat, iRng1, tFor_eq, tPar, iList, tComp, pick, tYes, iZip, gTup, gCons, gNil, rSum, rListH, List.map, Option.bind, iRng2, iRngD, tSl, rSlH, tPart, tNoPart, tPar3, tIf, tRev, tLRange, rIxT, rPopAt])
structure Txt (K : PySem.W.Frag) (mg : Str → Option Value) : Prop where
  n_max : mg "max" = none
  n_min : mg "min" = none
  n_abs : mg "abs" = none
  n_len : mg "len" = none
  n_isinstance : mg "isinstance" = none
  n_int : mg "int" = none
  n_bool : mg "bool" = none
  n_tuple : mg "tuple" = none
  n_range : mg "range" = none
  n_list : mg "list" = none
  c_NOUGHT : ∃ C, mg "NOUGHT" = some (.ref C) ∧ ∀ H : Hp, SqT K H C [.int 0, .int 1]
  c_LONG_BITS : ∃ t, mg "LONG_BITS" = some (.int 8000 t)
variable {P : Program} {w : World} {K : PySem.W.Frag} {mg : Str → Option Value} {base : Heap}
abbrev s_greatest_divisor : Stmt := PySem.Challenge.pw_rimread_k47_minors.main.body.getD 9 (.Pass ⟨0, 0, 0, 0⟩)
theorem sc_greatest_divisor : FnScope ["one", "other", "pair", "rest"] ["one", "other"] (defScope s_greatest_divisor) := ⟨rfl, rfl, rfl, by decide +kernel, rfl, by decide +kernel, by decide +kernel⟩
theorem lk_greatest_divisor_0 : (defScope s_greatest_divisor).names.lookup ("one" : Str) = some PySem.NameKind.local := by decide +kernel
theorem lk_greatest_divisor_1 : (defScope s_greatest_divisor).names.lookup ("other" : Str) = some PySem.NameKind.local := by decide +kernel
theorem lk_greatest_divisor_2 : (defScope s_greatest_divisor).names.lookup ("pair" : Str) = some PySem.NameKind.local := by decide +kernel
theorem lk_greatest_divisor_3 : (defScope s_greatest_divisor).names.lookup ("rest" : Str) = some PySem.NameKind.local := by decide +kernel
theorem gk_greatest_divisor_LONG_BITS : (defScope s_greatest_divisor).names.lookup ("LONG_BITS" : Str) = some PySem.NameKind.globalImplicit := by decide +kernel
theorem gk_greatest_divisor_max : (defScope s_greatest_divisor).names.lookup ("max" : Str) = some PySem.NameKind.globalImplicit := by decide +kernel
theorem gk_greatest_divisor_min : (defScope s_greatest_divisor).names.lookup ("min" : Str) = some PySem.NameKind.globalImplicit := by decide +kernel
def sp_gcd : Sp := fun vs H Q _ => ∃ a b : Int, vs = [.int a, .int b] ∧ 0 ≤ a ∧ 0 ≤ b ∧ Builtin.Int.intBits a ≤ 8000 ∧ Builtin.Int.intBits b ≤ 8000 ∧ ∀ H', Same H H' → Q (.int (Int.gcd a b : Nat)) H'
theorem ok_greatest_divisor (T : Txt K mg) (F : Fn0 K mg "greatest_divisor" s_greatest_divisor) : Cal P w K mg base "greatest_divisor" ["one", "other"] 1 sp_gcd := by
  refine cal_of F sc_greatest_divisor (fun _ _ _ _ _ _ us hl => match us, hl with | [_, _], _ => rfl) ?len ?body
  case len => rintro vs H Q E ⟨a, b, rfl, _⟩; rfl
  case body =>
    intro f cdv A outer s H vs Q E hr h
    obtain ⟨a, b, rfl, ha, hb, la, lb, k⟩ := h
    refine' ⟨_, ?D, ?R⟩
    case D =>
      refine' pss_cons ?g1 ?g2
      case g1 =>
        refine' ps_set1 (i := 2) sc_greatest_divisor.nd rfl lk_greatest_divisor_2 ?g3
        case g3 =>
          refine' pe_tup ?g4
          case g4 =>
            refine' pa_c ?g5 ?g6
            case g5 =>
              refine' pe_callE (call_max2 rfl) gk_greatest_divisor_max T.n_max bt_max ?g7
              case g7 =>
                refine' pa_c ?g8 ?g9
                case g8 => exact pv1 0 rfl lk_greatest_divisor_0
                case g9 =>
                  refine' pa_c ?g10 ?g11
                  case g10 => exact pv1 1 rfl lk_greatest_divisor_1
                  case g11 => exact pa_nil
            case g6 =>
              refine' pa_c ?g12 ?g13
              case g12 =>
                refine' pe_callE (call_min2 rfl) gk_greatest_divisor_min T.n_min bt_min ?g14
                case g14 =>
                  refine' pa_c ?g15 ?g16
                  case g15 => exact pv1 0 rfl lk_greatest_divisor_0
                  case g16 =>
                    refine' pa_c ?g17 ?g18
                    case g17 => exact pv1 1 rfl lk_greatest_divisor_1
                    case g18 => exact pa_nil
              case g13 => exact pa_nil
      case g2 =>
        refine' pss_cons ?g19 ?g20
        case g19 =>
          refine' ps_while PassesOwn.never ?g21 ?g22
          case g21 =>
            refine' pt_cmpR op_gt ?g23 ?g24 (nomark _)
            case g23 =>
              refine' pe_bm0 PySem.F.plainAttrs_int PySem.F.slot_int_bit_length PySem.F.type_int_bit_length mt_bits ?g25
              case g25 =>
                refine' pe_ix ix_tupH ?g26 ?g27 (fun _ _ => rfl)
                case g26 => exact pv1 2 rfl lk_greatest_divisor_2
                case g27 => exact pe_int
            case g24 => exact pe_gint T.c_LONG_BITS gk_greatest_divisor_LONG_BITS
          case g22 => exact pss_never
        case g20 =>
          refine' pss_cons ?g28 ?g29
          case g28 =>
            refine' ps_set1 (i := 0) sc_greatest_divisor.nd rfl lk_greatest_divisor_0 ?g30
            case g30 =>
              refine' pe_ix ix_tupH ?g31 ?g32 (fun _ _ => rfl)
              case g31 => exact pv1 2 rfl lk_greatest_divisor_2
              case g32 => exact pe_int
          case g29 =>
            refine' pss_cons ?g33 ?g34
            case g33 =>
              refine' ps_set1 (i := 1) sc_greatest_divisor.nd rfl lk_greatest_divisor_1 ?g35
              case g35 =>
                refine' pe_ix ix_tupH ?g36 ?g37 (fun _ _ => rfl)
                case g36 => exact pv1 2 rfl lk_greatest_divisor_2
                case g37 => exact pe_int
            case g34 =>
              refine' pss_cons ?g38 ?g39
              case g38 =>
                refine' ps_while PassesOwn.never ?g40 ?g41
                case g40 =>
                  refine' pt_cmpR op_ne ?g42 ?g43 (nomark _)
                  case g42 => exact pv1 1 rfl lk_greatest_divisor_1
                  case g43 => exact pe_int
                case g41 =>
                  refine' pss_cons ?g44 ?g45
                  case g44 =>
                    refine' ps_set1 (i := 3) sc_greatest_divisor.nd rfl lk_greatest_divisor_3 ?g46
                    case g46 =>
                      refine' pe_op op_mod ?g47 ?g48
                      case g47 => exact pv1 0 rfl lk_greatest_divisor_0
                      case g48 => exact pv1 1 rfl lk_greatest_divisor_1
                  case g45 =>
                    refine' pss_cons ?g49 ?g50
                    case g49 =>
                      refine' ps_set1 (i := 0) sc_greatest_divisor.nd rfl lk_greatest_divisor_0 ?g51
                      case g51 => exact pv1 1 rfl lk_greatest_divisor_1
                    case g50 =>
                      refine' pss_one ?g52
                      case g52 =>
                        refine' ps_set1 (i := 1) sc_greatest_divisor.nd rfl lk_greatest_divisor_1 ?g53
                        case g53 => exact pv1 3 rfl lk_greatest_divisor_3
              case g39 =>
                refine' pss_one ?g54
                case g54 =>
                  refine' ps_ret ?g55
                  case g55 => exact pv1 0 rfl lk_greatest_divisor_0
    case R =>
      walk_at "rd"
      refine ⟨(by decide), fun p hp => ?_⟩
      refine while_W (fun σ H1 => σ = [some (.int a), some (.int b), some (.ref p), none] ∧ H1 = upd H p (.tup [V.int (if b > a then b else a), V.int (if b < a then b else a)])) (fun _ _ => 0) ⟨rfl, rfl⟩ ?_
      rintro σ H1 ⟨rfl, rfl⟩
      walk_at "rd"
      have hm : ¬ (8000 : Int) < (Builtin.Int.intBits (if b < a then b else a) : Nat) := by
        split <;> omega
      rw [if_neg hm]
      refine while_W (fun σ H1 => ∃ (x y : Int) (z : Option V), σ = [some (.int x), some (.int y), some (.ref p), z] ∧ H1 = upd H p (.tup [V.int (if b > a then b else a), V.int (if b < a then b else a)]) ∧ 0 ≤ x ∧ 0 ≤ y ∧ Int.gcd x y = Int.gcd a b)
        (fun σ _ => match σ with | [_, some (.int y), _, _] => y.toNat | _ => 0) ?_ ?_
      · refine ⟨_, _, _, rfl, rfl, ?_, ?_, ?_⟩
        · split <;> omega
        · split <;> omega
        · by_cases h : b < a
          · rw [if_pos h, if_neg (by omega)]
          · rw [if_neg h]
            by_cases h' : b > a
            · rw [if_pos h', Int.gcd_comm]
            · rw [if_neg h', Int.gcd_comm]; congr 1 <;> omega
      · rintro σ H1 ⟨x, y, z, rfl, rfl, hx, hy, e⟩
        walk_at "rd"
        refine ite2 (fun hne => ?_) (fun he => ?_)
        · refine ⟨_, N_ok, ?_⟩
          walk_at "rd"
          have h0 : 0 < y := by omega
          have h1 := Int.emod_nonneg x hne
          have h2 := Int.emod_lt_of_pos x h0
          exact ⟨h0, hy, h1, (gcd_step hx h0).trans e, by omega⟩
        · have hy0 : y = 0 := Decidable.not_not.mp he
          have : x = (Int.gcd a b : Nat) := by
            rw [← e, hy0, Int.gcd_zero_right]; omega
          rw [this]
          exact k _ (Same.new hp)
theorem bits_pos {b : Int} (h : b ≠ 0) : Builtin.Int.intBits b = b.natAbs.log2 + 1 := by
  unfold Builtin.Int.intBits
  simp [h]
theorem log_of {g b : Int} (h0 : g ≠ 0) (h1 : g.natAbs ≤ b.natAbs) (hb : Builtin.Int.intBits b ≤ 8000) : g.natAbs.log2 < 9000 := by
  have h := PyProof.Rows.bits_of_natAbs_le (a := g) (b := b) (n := 8000) h1 hb
  rw [bits_pos h0] at h
  omega
theorem abs_gcd (t b : Int) : Int.gcd (if t < 0 then -t else t) (if b < 0 then -b else b) = Int.gcd t b := by
  split <;> split <;> simp [Int.gcd_neg, Int.neg_gcd]
theorem abs_bits {t : Int} {n : Nat} (h : Builtin.Int.intBits t ≤ n) : Builtin.Int.intBits (if t < 0 then -t else t) ≤ n :=
  PyProof.Rows.bits_of_natAbs_le (b := t) (by split <;> omega) h
abbrev s_fraction : Stmt := PySem.Challenge.pw_rimread_k47_minors.main.body.getD 10 (.Pass ⟨0, 0, 0, 0⟩)
theorem sc_fraction : FnScope ["top", "bottom", "divisor"] ["top", "bottom"] (defScope s_fraction) := ⟨rfl, rfl, rfl, by decide +kernel, rfl, by decide +kernel, by decide +kernel⟩
theorem lk_fraction_0 : (defScope s_fraction).names.lookup ("top" : Str) = some PySem.NameKind.local := by decide +kernel
theorem lk_fraction_1 : (defScope s_fraction).names.lookup ("bottom" : Str) = some PySem.NameKind.local := by decide +kernel
theorem lk_fraction_2 : (defScope s_fraction).names.lookup ("divisor" : Str) = some PySem.NameKind.local := by decide +kernel
theorem gk_fraction_abs : (defScope s_fraction).names.lookup ("abs" : Str) = some PySem.NameKind.globalImplicit := by decide +kernel
theorem gk_fraction_greatest_divisor : (defScope s_fraction).names.lookup ("greatest_divisor" : Str) = some PySem.NameKind.globalImplicit := by decide +kernel
def sp_fraction : Sp := fun vs H Q _ => ∃ t b : Int, vs = [.int t, .int b] ∧ b ≠ 0 ∧ Builtin.Int.intBits t ≤ 8000 ∧ Builtin.Int.intBits b ≤ 8000 ∧ ∀ p H', Same H H' → H p = none → H' p = some (.tup [.int (nf t b).1, .int (nf t b).2]) → Q (.ref p) H'
theorem ok_fraction (T : Txt K mg) (F : Fn0 K mg "fraction" s_fraction) (C_greatest_divisor : Cal P w K mg base "greatest_divisor" ["one", "other"] 1 sp_gcd) : Cal P w K mg base "fraction" ["top", "bottom"] 2 sp_fraction := by
  refine cal_of F sc_fraction (fun _ _ _ _ _ _ us hl => match us, hl with | [_, _], _ => rfl) ?len ?body
  case len => rintro vs H Q E ⟨a, b, rfl, _⟩; rfl
  case body =>
    intro f cdv A outer s H vs Q E hr h
    obtain ⟨t, b, rfl, hb, lt, lb, k⟩ := h
    refine' ⟨_, ?D, ?R⟩
    case D =>
      refine' pss_cons ?g1 ?g2
      case g1 =>
        refine' ps_if ?g3 ?g4 ?g5
        case g3 =>
          refine' pt_cmpR op_eq ?g6 ?g7 (nomark _)
          case g6 => exact pv1 1 rfl lk_fraction_1
          case g7 => exact pe_int
        case g4 =>
          refine' pss_one ?g8
          case g8 => exact ps_never
        case g5 => exact pss_nil
      case g2 =>
        refine' pss_cons ?g9 ?g10
        case g9 =>
          refine' ps_set1 (i := 2) sc_fraction.nd rfl lk_fraction_2 ?g11
          case g11 =>
            refine' pe_callD C_greatest_divisor (hr.mono (by decide)) gk_fraction_greatest_divisor ?g12
            case g12 =>
              refine' pa_c ?g13 ?g14
              case g13 =>
                refine' pe_callE call_abs gk_fraction_abs T.n_abs bt_abs ?g15
                case g15 =>
                  refine' pa_c ?g16 ?g17
                  case g16 => exact pv1 0 rfl lk_fraction_0
                  case g17 => exact pa_nil
              case g14 =>
                refine' pa_c ?g18 ?g19
                case g18 =>
                  refine' pe_callE call_abs gk_fraction_abs T.n_abs bt_abs ?g20
                  case g20 =>
                    refine' pa_c ?g21 ?g22
                    case g21 => exact pv1 1 rfl lk_fraction_1
                    case g22 => exact pa_nil
                case g19 => exact pa_nil
        case g10 =>
          refine' pss_cons ?g23 ?g24
          case g23 =>
            refine' ps_if ?g25 ?g26 ?g27
            case g25 =>
              refine' pt_cmpR op_lt ?g28 ?g29 (nomark _)
              case g28 => exact pv1 1 rfl lk_fraction_1
              case g29 => exact pe_int
            case g26 =>
              refine' pss_one ?g30
              case g30 =>
                refine' ps_set1 (i := 2) sc_fraction.nd rfl lk_fraction_2 ?g31
                case g31 =>
                  refine' pe_un un_neg ?g32
                  case g32 => exact pv1 2 rfl lk_fraction_2
            case g27 => exact pss_nil
          case g24 =>
            refine' pss_one ?g33
            case g33 =>
              refine' ps_ret ?g34
              case g34 =>
                refine' pe_tup ?g35
                case g35 =>
                  refine' pa_c ?g36 ?g37
                  case g36 =>
                    refine' pe_op op_fdivF ?g38 ?g39
                    case g38 => exact pv1 0 rfl lk_fraction_0
                    case g39 => exact pv1 2 rfl lk_fraction_2
                  case g37 =>
                    refine' pa_c ?g40 ?g41
                    case g40 =>
                      refine' pe_op op_fdivF ?g42 ?g43
                      case g42 => exact pv1 1 rfl lk_fraction_1
                      case g43 => exact pv1 2 rfl lk_fraction_2
                    case g41 => exact pa_nil
    case R =>
      walk_at "rd"
      rw [if_neg hb]
      refine ⟨_, _, rfl, ?_, ?_, abs_bits lt, abs_bits lb, fun H1 s1 => ?_⟩
      · split <;> omega
      · split <;> omega
      · rw [abs_gcd]
        have g := gpos (t := t) hb
        have d1 := Int.gcd_dvd_left (a := t) (b := b)
        have d2 := Int.gcd_dvd_right (a := t) (b := b)
        have gl : (Int.gcd t b : Int).natAbs ≤ b.natAbs := by
          have := Int.natAbs_dvd_natAbs.mpr d2
          exact Nat.le_of_dvd (by omega) this
        have lg := log_of (g := (Int.gcd t b : Int)) (by omega) gl lb
        walk_at "rd"
        refine ite2 (fun hn => ?_) (fun hn => ?_)
        · have e : nf t b = (t.fdiv (-(Int.gcd t b : Int)), b.fdiv (-(Int.gcd t b : Int))) := by
            unfold nf
            rw [if_pos hn, Int.fdiv_eq_ediv_of_dvd (Int.neg_dvd.mpr d1), Int.fdiv_eq_ediv_of_dvd (Int.neg_dvd.mpr d2)]
          rw [e] at k
          have lg' : (-(Int.gcd t b : Int)).natAbs.log2 < 9000 := by rw [Int.natAbs_neg]; exact lg
          exact ⟨by omega, lg', by omega, lg', by decide, fun p hp => k p _ (s1.trans (Same.new hp)) (s1.free hp) upd_same⟩
        · have e : nf t b = (t.fdiv (Int.gcd t b : Int), b.fdiv (Int.gcd t b : Int)) := by
            unfold nf
            rw [if_neg hn, Int.fdiv_eq_ediv_of_dvd d1, Int.fdiv_eq_ediv_of_dvd d2]
          rw [e] at k
          exact ⟨by omega, lg, by omega, lg, by decide, fun p hp => k p _ (s1.trans (Same.new hp)) (s1.free hp) upd_same⟩
end Rim47
set_option Elab.async false
set_option linter.all false
set_option maxRecDepth 100000
set_option maxHeartbeats 4000000
namespace Rim47
open PySem PySem.Spec PyProof.Rows L2 RimM RimD
local macro_rules | `(tactic| walk_at "rd") => `(tactic| first | (dsimp only [tSeq, tAsg, gName, tTup, tLst, tCons, tNil, tVar, tC, tCB, tOp, rI, rI0, tTest, tIfS, tNext, tRet, tRetN, tDrop, tB, tAnd, tOr, tNot, tAndV, tOrV, tNotV, rU, tUn, tBM0, tBM, rBits, tCall, L2.start, rIxTH, rIxLH, rLenH, rEqTH, rEq, rNe, CMul, CMulB, CDivB, CDivF, CPow, List.map_cons, List.map_nil, List.length_cons, List.length_nil, List.replicate, List.cons_append, List.nil_append, List.set_cons_zero, List.set_cons_succ, List.getElem?_cons_zero, List.getElem?_cons_succ, gSub, rSetL, rCat, iRng1, tPar, iList, tComp, pick, tYes, iZip, gTup, gCons, gNil, rSum, rListH, List.map, iRng2, iRngD, tSl, rSlH, tPart, tNoPart, tPar3, tIf, tRev, tLRange, rIxT, rPopAt]; try simp only [tSeq, tAsg, gName, tTup, tLst, tCons, tNil, tVar, tC, tCB, tOp, rI, rI0, tTest, tIfS, tNext, tRet, tRetN, tDrop, tB, tAnd, tOr, tNot, tAndV, tOrV, tNotV, rU, tUn, tBM0, tBM, rBits, tCall, L2.start, rIxTH, rIxLH, rLenH, rEqTH, rEq, rNe, scal, tyV, CMul, CMulB, CDivB, CDivF, CPow, List.map_cons, List.map_nil, List.length_cons, List.length_nil, List.replicate, List.cons_append, List.nil_append, List.append_nil, List.set_cons_zero, List.set_cons_succ, List.getElem?_cons_zero, List.getElem?_cons_succ, Option.some.injEq, List.cons.injEq, V.int.injEq, V.bl.injEq, V.str.injEq, V.ref.injEq, V.ty.injEq, HO.tup.injEq, HO.lst.injEq, exists_eq_left, exists_eq_left', exists_and_left, and_assoc, and_true, true_and, upd_same, atI_0, atI_1, atI_2, Nat.zero_add, Nat.reduceAdd, Nat.reduceSub, decide_eq_true_eq, Bool.not_eq_true', decide_eq_false_iff_not, reduceCtorEq, false_or, or_false, true_or, or_true, plainT_int, plainT_bool, plainT_tuple, plainT_list, plainT_str, Bool.false_eq_true, if_false, if_true, Bool.not_false, Bool.not_true, Bool.not_not, gSub, rSetL, ixN_00, upd_upd, rCat, iRng1, tFor_eq, tPar, iList, tComp, pick, tYes, iZip, gTup, gCons, gNil, rSum, rListH, List.map, Option.bind, iRng2, iRngD, tSl, rSlH, tPart, tNoPart, tPar3, tIf, tRev, tLRange, rIxT, rPopAt]) | simp only [tSeq, tAsg, gName, tTup, tLst, tCons, tNil, tVar, tC, tCB, tOp, rI, rI0, tTest, tIfS, tNext, tRet, tRetN, tDrop, tB, tAnd, tOr, tNot, tAndV, tOrV, tNotV, rU, tUn, tBM0, tBM, rBits, tCall, L2.start, rIxTH, rIxLH, rLenH, rEqTH, rEq, rNe, scal, tyV, CMul, CMulB, CDivB, CDivF, CPow, List.map_cons, List.map_nil, List.length_cons, List.length_nil, List.replicate, List.cons_append, List.nil_append, List.append_nil, List.set_cons_zero, List.set_cons_succ, List.getElem?_cons_zero, List.getElem?_cons_succ, Option.some.injEq, List.cons.injEq, V.int.injEq, V.bl.injEq, V.str.injEq, V.ref.injEq, V.ty.injEq, HO.tup.injEq, HO.lst.injEq, exists_eq_left, exists_eq_left', exists_and_left, and_assoc, and_true, true_and, upd_same, atI_0, atI_1, atI_2, Nat.zero_add, Nat.reduceAdd, Nat.reduceSub, decide_eq_true_eq, Bool.not_eq_true', decide_eq_false_iff_not, reduceCtorEq, false_or, or_false, true_or, or_true, plainT_int, plainT_bool, plainT_tuple, plainT_list, plainT_str, Bool.false_eq_true, if_false, if_true, Bool.not_false, Bool.not_true, Bool.not_not, gSub, rSetL, ixN_00, upd_upd, rCat, iRng1, tFor_eq, tPar, iList, tComp, pick, tYes, iZip, gTup, gCons, gNil, rSum, rListH, List.map, Option.bind, iRng2, iRngD, tSl, rSlH, tPart, tNoPart, tPar3, tIf, tRev, tLRange, rIxT, rPopAt])
variable {P : Program} {w : World} {K : PySem.W.Frag} {mg : Str → Option Value} {base : Heap}
def dF (p : Int × Int) : Dt := .tup [.int p.1, .int p.2]
def dRow (r : List (Int × Int)) : Dt := .lst (r.map dF)
structure Sm (p : Int × Int) : Prop where
  pos : 0 < p.2
  top : Builtin.Int.intBits p.1 ≤ 44
  bot : Builtin.Int.intBits p.2 ≤ 24
theorem rep_dF {H : Hp} {v : V} {p : Int × Int} (h : Rep H v (dF p)) : ∃ q, v = .ref q ∧ H q = some (.tup [.int p.1, .int p.2]) := by
  obtain ⟨q, xs, e, hq, x, r, e1, hx, y, r', e2, hy, e3⟩ := h
  cases hx
  cases hy
  subst e1 e2 e3
  exact ⟨q, e, hq⟩
theorem rep_row {H : Hp} {v : V} {r : List (Int × Int)} (h : Rep H v (dRow r)) : ∃ p xs, v = .ref p ∧ H p = some (.lst xs) ∧ Reps H xs (r.map dF) := h
theorem rep_at {H : Hp} {xs : List V} {r : List (Int × Int)} {i : Nat} {x : V} (h : Reps H xs (r.map dF)) (e : xs[i]? = some x) : ∃ q p, r[i]? = some p ∧ x = .ref q ∧ H q = some (.tup [.int p.1, .int p.2]) := by
  obtain ⟨d, hd, hr⟩ := h.of_get e
  rw [List.getElem?_map] at hd
  cases z : r[i]? with
  | none => rw [z] at hd; cases hd
  | some p =>
    rw [z] at hd
    cases hd
    obtain ⟨q, e1, e2⟩ := rep_dF hr
    exact ⟨q, p, rfl, e1, e2⟩
theorem lcm_step {c e : Int} {n : Nat} (hc : 0 < c) (he : 0 < e) (bc : Builtin.Int.intBits c ≤ n) (be : Builtin.Int.intBits e ≤ 24) :
    0 < c / (Int.gcd c e : Int) * e ∧ c ∣ c / (Int.gcd c e : Int) * e ∧ e ∣ c / (Int.gcd c e : Int) * e ∧ Builtin.Int.intBits (c / (Int.gcd c e : Int) * e) ≤ n + 24 ∧ Builtin.Int.intBits (c / (Int.gcd c e : Int)) ≤ n := by
  have g := gpos (t := c) (b := e) (by omega)
  have d1 := Int.gcd_dvd_left (a := c) (b := e)
  obtain ⟨y, hy⟩ := Int.gcd_dvd_right (a := c) (b := e)
  have q := Int.ediv_pos_of_pos_of_dvd hc (Int.le_of_lt g) d1
  have e1 : c / (Int.gcd c e : Int) * (Int.gcd c e : Int) = c := Int.ediv_mul_cancel d1
  have bq : Builtin.Int.intBits (c / (Int.gcd c e : Int)) ≤ n := PyProof.Rows.bits_of_natAbs_le (b := c) (by have := Int.natAbs_ediv_le_natAbs c (Int.gcd c e : Int); omega) bc
  refine ⟨Int.mul_pos q he, ⟨y, ?_⟩, ⟨_, Int.mul_comm _ _⟩, PyProof.Rows.bits_mul bq be, bq⟩
  calc c / (Int.gcd c e : Int) * e = c / (Int.gcd c e : Int) * ((Int.gcd c e : Int) * y) := by rw [← hy]
    _ = c / (Int.gcd c e : Int) * (Int.gcd c e : Int) * y := by rw [Int.mul_assoc]
    _ = c * y := by rw [e1]
structure Bot (r : List (Int × Int)) (L : Int) : Prop where
  pos : 0 < L
  dvd : ∀ p ∈ r, p.2 ∣ L
  bits : Builtin.Int.intBits L ≤ 24 * r.length + 1
def lcmB (r : List (Int × Int)) : Int := r.foldl (fun c e => c / (Int.gcd c e.2 : Int) * e.2) 1
theorem lcm_fold : ∀ (l : List (Int × Int)) (c : Int) (n : Nat), 0 < c → Builtin.Int.intBits c ≤ n → (∀ p ∈ l, Sm p) →
    0 < l.foldl (fun c e => c / (Int.gcd c e.2 : Int) * e.2) c ∧ c ∣ l.foldl (fun c e => c / (Int.gcd c e.2 : Int) * e.2) c ∧ (∀ p ∈ l, p.2 ∣ l.foldl (fun c e => c / (Int.gcd c e.2 : Int) * e.2) c) ∧ Builtin.Int.intBits (l.foldl (fun c e => c / (Int.gcd c e.2 : Int) * e.2) c) ≤ n + 24 * l.length
  | [], c, n, h0, hb, _ => ⟨h0, Int.dvd_refl _, (fun p hp => absurd hp (by simp)), (by simpa using hb)⟩
  | q :: l, c, n, h0, hb, hs => by
    have sq := hs q List.mem_cons_self
    obtain ⟨l1, l2, l3, l4, l5⟩ := lcm_step h0 sq.pos hb sq.bot
    obtain ⟨i1, i2, i3, i4⟩ := lcm_fold l _ _ l1 l4 fun p hp => hs p (List.mem_cons_of_mem _ hp)
    refine ⟨i1, Int.dvd_trans l2 i2, fun p hp => ?_, ?_⟩
    · rcases List.mem_cons.mp hp with rfl | hp
      · exact Int.dvd_trans l3 i2
      · exact i3 p hp
    · simp only [List.length_cons, List.foldl_cons]
      omega
theorem bot_lcm {r : List (Int × Int)} (h : ∀ p ∈ r, Sm p) : Bot r (lcmB r) := by
  obtain ⟨a, _, c, d⟩ := lcm_fold r 1 1 (by decide) (by decide +kernel) h
  exact ⟨a, c, by unfold lcmB; omega⟩
abbrev s_common_bottom : Stmt := PySem.Challenge.pw_rimread_k47_minors.main.body.getD 13 (.Pass ⟨0, 0, 0, 0⟩)
theorem sc_common_bottom : FnScope ["entries", "common", "entry"] ["entries"] (defScope s_common_bottom) := ⟨rfl, rfl, rfl, by decide +kernel, rfl, by decide +kernel, by decide +kernel⟩
theorem lk_common_bottom_0 : (defScope s_common_bottom).names.lookup ("entries" : Str) = some PySem.NameKind.local := by decide +kernel
theorem lk_common_bottom_1 : (defScope s_common_bottom).names.lookup ("common" : Str) = some PySem.NameKind.local := by decide +kernel
theorem lk_common_bottom_2 : (defScope s_common_bottom).names.lookup ("entry" : Str) = some PySem.NameKind.local := by decide +kernel
theorem gk_common_bottom_greatest_divisor : (defScope s_common_bottom).names.lookup ("greatest_divisor" : Str) = some PySem.NameKind.globalImplicit := by decide +kernel
def sp_cb : Sp := fun vs H Q _ => ∃ v r, vs = [v] ∧ Rep H v (dRow r) ∧ (∀ p ∈ r, Sm p) ∧ r.length ≤ 8 ∧ ∀ H', Same H H' → Q (.int (lcmB r)) H'
theorem ok_common_bottom (T : Txt K mg) (F : Fn0 K mg "common_bottom" s_common_bottom) (C_greatest_divisor : Cal P w K mg base "greatest_divisor" ["one", "other"] 1 sp_gcd) : Cal P w K mg base "common_bottom" ["entries"] 2 sp_cb := by
  refine cal_of F sc_common_bottom (fun _ _ _ _ _ _ us hl => match us, hl with | [_], _ => rfl) ?len ?body
  case len => rintro vs H Q E ⟨a, b, rfl, _⟩; rfl
  case body =>
    intro f cdv A outer s H vs Q E hr h
    obtain ⟨v, r, rfl, hv, hsm, h8, k⟩ := h
    obtain ⟨p, xs, rfl, hp, hxs⟩ := rep_row hv
    have hl : xs.length = r.length := by rw [hxs.length, List.length_map]
    refine' ⟨_, ?D, ?R⟩
    case D =>
      refine' pss_cons ?g1 ?g2
      case g1 =>
        refine' ps_set1 (i := 1) sc_common_bottom.nd rfl lk_common_bottom_1 ?g3
        case g3 => exact pe_int
      case g2 =>
        refine' pss_cons ?g4 ?g5
        case g4 =>
          refine' ps_for PassesOwn.never rfl ?g6 ?g7 ?g8
          case g6 =>
            refine' pi_listK (K := K) rfl ?g9
            case g9 => exact pv1 0 rfl lk_common_bottom_0
          case g7 => exact pg_name1 (i := 2) sc_common_bottom.nd rfl lk_common_bottom_2
          case g8 =>
            refine' pss_one ?g10
            case g10 =>
              refine' ps_set1 (i := 1) sc_common_bottom.nd rfl lk_common_bottom_1 ?g11
              case g11 =>
                refine' pe_op op_mulB ?g12 ?g13
                case g12 =>
                  refine' pe_op op_fdivB ?g14 ?g15
                  case g14 => exact pv1 1 rfl lk_common_bottom_1
                  case g15 =>
                    refine' pe_callD C_greatest_divisor (hr.mono (by decide)) gk_common_bottom_greatest_divisor ?g16
                    case g16 =>
                      refine' pa_c ?g17 ?g18
                      case g17 => exact pv1 1 rfl lk_common_bottom_1
                      case g18 =>
                        refine' pa_c ?g19 ?g20
                        case g19 =>
                          refine' pe_ix ix_tupH ?g21 ?g22 (fun _ _ => rfl)
                          case g21 => exact pv1 2 rfl lk_common_bottom_2
                          case g22 => exact pe_int
                        case g20 => exact pa_nil
                case g13 =>
                  refine' pe_ix ix_tupH ?g23 ?g24 (fun _ _ => rfl)
                  case g23 => exact pv1 2 rfl lk_common_bottom_2
                  case g24 => exact pe_int
        case g5 =>
          refine' pss_one ?g25
          case g25 =>
            refine' ps_ret ?g26
            case g26 => exact pv1 1 rfl lk_common_bottom_1
    case R =>
      walk_at "rd"
      refine ⟨⟨xs, .inl (.inl hp)⟩, ?_⟩
      refine go_list (xs := xs) (fun i σ H' => ∃ (c : Int) (e : Option V), σ = [some (.ref p), some (.int c), e] ∧ Same H H' ∧ 0 < c ∧ c = lcmB (r.take i) ∧ Builtin.Int.intBits c ≤ 24 * i + 1) ⟨1, none, rfl, Same.refl _, by decide, rfl, by decide +kernel⟩ ?_ ?_ ?_
      · rintro i σ H' hi ⟨c, e, rfl, s1, _⟩
        exact .inl (.inl (s1 _ _ hp))
      · rintro i x σ H' hx ⟨c, e, rfl, s1, hc, hd, hb⟩
        obtain ⟨q, z, hz, rfl, hq⟩ := rep_at hxs hx
        have hq' := s1 _ _ hq
        have hi : i < r.length := (List.getElem?_eq_some_iff.mp hz).1
        have sm := hsm z (List.mem_of_getElem? hz)
        have h0 := sm.pos
        walk_at "rd"
        simp only [hq', Option.some.injEq, HO.tup.injEq, exists_eq_left']
        walk_at "rd"
        have bz := sm.bot
        refine ⟨c, z.2, rfl, by omega, by omega, by omega, by omega, fun H2 s2 => ?_⟩
        have hq2 := s2 _ _ hq'
        obtain ⟨l1, l2, l3, l4, l5⟩ := lcm_step hc h0 hb sm.bot
        have g := gpos (t := c) (b := z.2) (by omega)
        have gl : (Int.gcd c z.2 : Int).natAbs ≤ c.natAbs := Nat.le_of_dvd (by omega) (Int.natAbs_dvd_natAbs.mpr (Int.gcd_dvd_left ..))
        have lg := log_of (g := (Int.gcd c z.2 : Int)) (b := c) (by omega) gl (by omega)
        walk_at "rd"
        simp only [hq2, Option.some.injEq, HO.tup.injEq, exists_eq_left']
        walk_at "rd"
        refine ⟨g, lg, by omega, s1.trans s2, l1, ?_, by omega⟩
        rw [List.take_succ, hz]
        show _ = lcmB (r.take i ++ [z])
        unfold lcmB
        rw [List.foldl_append]
        show c / (Int.gcd c z.2 : Int) * z.2 = _
        rw [hd]
        rfl
      · rintro σ H' ⟨c, e, rfl, s1, hc, hd, hb⟩
        walk_at "rd"
        rw [List.take_of_length_le (by omega)] at hd
        rw [hd]
        exact k H' s1
def tops (r : List (Int × Int)) (L : Int) : List Int := r.map fun e => e.1 * (L / e.2)
abbrev s_cleared : Stmt := PySem.Challenge.pw_rimread_k47_minors.main.body.getD 14 (.Pass ⟨0, 0, 0, 0⟩)
theorem sc_cleared : FnScope ["entries", "bottom"] ["entries"] (defScope s_cleared) := ⟨rfl, rfl, rfl, by decide +kernel, rfl, by decide +kernel, by decide +kernel⟩
theorem lk_cleared_0 : (defScope s_cleared).names.lookup ("entries" : Str) = some PySem.NameKind.local := by decide +kernel
theorem lk_cleared_1 : (defScope s_cleared).names.lookup ("bottom" : Str) = some PySem.NameKind.cell := by decide +kernel
theorem gk_cleared_common_bottom : (defScope s_cleared).names.lookup ("common_bottom" : Str) = some PySem.NameKind.globalImplicit := by decide +kernel
def sp_cleared : Sp := fun vs H Q _ => ∃ v r, vs = [v] ∧ Rep H v (dRow r) ∧ (∀ p ∈ r, Sm p) ∧ r.length ≤ 8 ∧ ∀ x H', Same H H' → Rep (newH H H') x (.tup [.lst ((tops r (lcmB r)).map Dt.int), .int (lcmB r)]) → Q x H'
theorem ok_cleared (T : Txt K mg) (F : Fn0 K mg "cleared" s_cleared) (C_common_bottom : Cal P w K mg base "common_bottom" ["entries"] 2 sp_cb) : Cal P w K mg base "cleared" ["entries"] 3 sp_cleared := by
  refine cal_of F sc_cleared (fun _ _ _ _ _ _ us hl => match us, hl with | [_], _ => rfl) ?len ?body
  case len => rintro vs H Q E ⟨a, b, rfl, _⟩; rfl
  case body =>
    intro f cdv A outer s H vs Q E hr h
    obtain ⟨v, r, rfl, hv, hsm, h8, k⟩ := h
    obtain ⟨p, xs, rfl, hp, hxs⟩ := rep_row hv
    have hl : xs.length = r.length := by rw [hxs.length, List.length_map]
    refine' ⟨_, ?D, ?R⟩
    case D =>
      refine' pss_cons ?g1 ?g2
      case g1 =>
        refine' ps_setc (i := 1) sc_cleared.nd rfl lk_cleared_1 rfl ?g3 rfl
        case g3 =>
          refine' pe_callD C_common_bottom (hr.mono (by decide)) gk_cleared_common_bottom ?g4
          case g4 =>
            refine' pa_c ?g5 ?g6
            case g5 => exact pv1 0 rfl lk_cleared_0
            case g6 => exact pa_nil
      case g2 =>
        refine' pss_one ?g7
        case g7 =>
          refine' ps_ret ?g8
          case g8 =>
            refine' pe_tup ?g9
            case g9 =>
              refine' pa_c ?g10 ?g11
              case g10 =>
                refine' pe_comp (N' := ["entry", "bottom"]) (ix := [none, some 1]) rfl rfl (scp_of ?g12) ?g13 (fun _ _ _ => ?g14) (fun _ _ _ => ?g15) (fun _ _ _ => ?g16)
                case g12 => exact (by show scpB (defScope s_cleared) ["entries", "bottom"] _ _ _ = true; decide +kernel)
                case g13 =>
                  refine' pi_listK (K := K) rfl ?g17
                  case g17 => exact pv1 0 rfl lk_cleared_0
                case g14 => exact pg_name1 (i := 0) (by show List.Nodup (["entry", "bottom"] : List Str); decide +kernel) rfl rfl
                case g15 => exact pf_nil
                case g16 =>
                  refine' pe_op op_mulB ?g18 ?g19
                  case g18 =>
                    refine' pe_ix ix_tupH ?g20 ?g21 (fun _ _ => rfl)
                    case g20 => exact pv1 0 rfl rfl
                    case g21 => exact pe_int
                  case g19 =>
                    refine' pe_op op_fdivB ?g22 ?g23
                    case g22 => exact pvc 1 rfl rfl
                    case g23 =>
                      refine' pe_ix ix_tupH ?g24 ?g25 (fun _ _ => rfl)
                      case g24 => exact pv1 0 rfl rfl
                      case g25 => exact pe_int
              case g11 =>
                refine' pa_c ?g26 ?g27
                case g26 => exact pvc 1 rfl lk_cleared_1
                case g27 => exact pa_nil
    case R =>
      walk_at "rd"
      refine ⟨_, r, rfl, hv, hsm, h8, fun H1 s1 => ?_⟩
      have bot := bot_lcm hsm
      generalize lcmB r = L at *
      have hp1 := s1 _ _ hp
      walk_at "rd"
      refine ⟨⟨xs, .inl (.inl hp1)⟩, ?_⟩
      have bp := bot.pos
      have bb := bot.bits
      refine comp_any (n := xs.length) (B := H1) (Pσ := fun σ => ∃ e, σ = [e, some (.int L)]) (ds := (tops r L).map Dt.int) (Same.refl _) ⟨_, rfl⟩ (by simp [tops, hl]) (by omega) (fun i H' hi s' => ⟨xs, xs[i], .inl (.inl (s' _ _ hp1)), by simp [hi]⟩) (fun H' s' => ⟨xs, .inl (.inl (s' _ _ hp1)), Nat.le_refl _⟩) ?_ ?_
      · rintro D i x d σ' H' H'' hD hDo hs' hi hdi ⟨rfl, hy⟩ ⟨e, rfl⟩ R kR
        have hx := hy xs (.inl (.inl (hs' _ _ hp1)))
        obtain ⟨q, z, hz, rfl, hq⟩ := rep_at hxs hx
        have hq' := hs' _ _ (s1 _ _ hq)
        have sm := hsm z (List.mem_of_getElem? hz)
        have z0 := sm.pos
        have zb := sm.bot
        have zt := sm.top
        have lz := log_of (g := z.2) (b := z.2) (by omega) (Nat.le_refl _) (by omega)
        have bl : Builtin.Int.intBits (L / z.2) ≤ 24 * r.length + 1 := PyProof.Rows.bits_of_natAbs_le (b := L) (by have := Int.natAbs_ediv_le_natAbs L z.2; omega) bb
        walk_at "rd"
        simp only [hq', Option.some.injEq, HO.tup.injEq, exists_eq_left']
        walk_at "rd"
        refine ⟨z0, lz, by omega, kR _ _ _ ⟨_, rfl⟩ (Same.refl _) ?_⟩
        have : d = .int (z.1 * (L / z.2)) := by
          rw [List.getElem?_map, tops, List.getElem?_map, hz] at hdi
          exact (Option.some.inj hdi).symm
        rw [this]
        rfl
      · intro D H' hD s' rep
        refine ⟨by decide, fun q hq => k _ _ ((s1.trans s').trans (Same.new hq)) ⟨q, _, rfl, ?_, _, _, rfl, Rep.mono ((newH_less s1).trans (newH_mono (Same.new hq))) _ rep, _, _, rfl, rfl, rfl⟩⟩
        rw [newH_at ((s1.trans s').free hq)]
        exact upd_same
end Rim47
set_option Elab.async false
set_option linter.all false
set_option maxRecDepth 100000
set_option maxHeartbeats 4000000
namespace Rim47
open PySem PySem.Spec PyProof.Rows L2 RimM RimD
local macro_rules | `(tactic| walk_at "rd") => `(tactic| first | (dsimp only [tSeq, tAsg, gName, tTup, tLst, tCons, tNil, tVar, tC, tCB, tOp, rI, rI0, tTest, tIfS, tNext, tRet, tRetN, tDrop, tB, tAnd, tOr, tNot, tAndV, tOrV, tNotV, rU, tUn, tBM0, tBM, rBits, tCall, L2.start, rIxTH, rIxLH, rLenH, rEqTH, rEq, rNe, CMul, CMulB, CDivB, CDivF, CPow, List.map_cons, List.map_nil, List.length_cons, List.length_nil, List.replicate, List.cons_append, List.nil_append, List.set_cons_zero, List.set_cons_succ, List.getElem?_cons_zero, List.getElem?_cons_succ, gSub, rSetL, rCat, iRng1, tPar, iList, tComp, pick, tYes, iZip, gTup, gCons, gNil, rSum, rListH, List.map, iRng2, iRngD, tSl, rSlH, tPart, tNoPart, tPar3, tIf, tRev, tLRange, rIxT, rPopAt]; try simp only [tSeq, tAsg, gName, tTup, tLst, tCons, tNil, tVar, tC, tCB, tOp, rI, rI0, tTest, tIfS, tNext, tRet, tRetN, tDrop, tB, tAnd, tOr, tNot, tAndV, tOrV, tNotV, rU, tUn, tBM0, tBM, rBits, tCall, L2.start, rIxTH, rIxLH, rLenH, rEqTH, rEq, rNe, scal, tyV, CMul, CMulB, CDivB, CDivF, CPow, List.map_cons, List.map_nil, List.length_cons, List.length_nil, List.replicate, List.cons_append, List.nil_append, List.append_nil, List.set_cons_zero, List.set_cons_succ, List.getElem?_cons_zero, List.getElem?_cons_succ, Option.some.injEq, List.cons.injEq, V.int.injEq, V.bl.injEq, V.str.injEq, V.ref.injEq, V.ty.injEq, HO.tup.injEq, HO.lst.injEq, exists_eq_left, exists_eq_left', exists_and_left, and_assoc, and_true, true_and, upd_same, atI_0, atI_1, atI_2, Nat.zero_add, Nat.reduceAdd, Nat.reduceSub, decide_eq_true_eq, Bool.not_eq_true', decide_eq_false_iff_not, reduceCtorEq, false_or, or_false, true_or, or_true, plainT_int, plainT_bool, plainT_tuple, plainT_list, plainT_str, Bool.false_eq_true, if_false, if_true, Bool.not_false, Bool.not_true, Bool.not_not, gSub, rSetL, ixN_00, upd_upd, rCat, iRng1, tFor_eq, tPar, iList, tComp, pick, tYes, iZip, gTup, gCons, gNil, rSum, rListH, List.map, Option.bind, iRng2, iRngD, tSl, rSlH, tPart, tNoPart, tPar3, tIf, tRev, tLRange, rIxT, rPopAt]) | simp only [tSeq, tAsg, gName, tTup, tLst, tCons, tNil, tVar, tC, tCB, tOp, rI, rI0, tTest, tIfS, tNext, tRet, tRetN, tDrop, tB, tAnd, tOr, tNot, tAndV, tOrV, tNotV, rU, tUn, tBM0, tBM, rBits, tCall, L2.start, rIxTH, rIxLH, rLenH, rEqTH, rEq, rNe, scal, tyV, CMul, CMulB, CDivB, CDivF, CPow, List.map_cons, List.map_nil, List.length_cons, List.length_nil, List.replicate, List.cons_append, List.nil_append, List.append_nil, List.set_cons_zero, List.set_cons_succ, List.getElem?_cons_zero, List.getElem?_cons_succ, Option.some.injEq, List.cons.injEq, V.int.injEq, V.bl.injEq, V.str.injEq, V.ref.injEq, V.ty.injEq, HO.tup.injEq, HO.lst.injEq, exists_eq_left, exists_eq_left', exists_and_left, and_assoc, and_true, true_and, upd_same, atI_0, atI_1, atI_2, Nat.zero_add, Nat.reduceAdd, Nat.reduceSub, decide_eq_true_eq, Bool.not_eq_true', decide_eq_false_iff_not, reduceCtorEq, false_or, or_false, true_or, or_true, plainT_int, plainT_bool, plainT_tuple, plainT_list, plainT_str, Bool.false_eq_true, if_false, if_true, Bool.not_false, Bool.not_true, Bool.not_not, gSub, rSetL, ixN_00, upd_upd, rCat, iRng1, tFor_eq, tPar, iList, tComp, pick, tYes, iZip, gTup, gCons, gNil, rSum, rListH, List.map, Option.bind, iRng2, iRngD, tSl, rSlH, tPart, tNoPart, tPar3, tIf, tRev, tLRange, rIxT, rPopAt])
variable {P : Program} {w : World} {K : PySem.W.Frag} {mg : Str → Option Value} {base : Heap}
def dI (r : List Int) : Dt := .lst (r.map Dt.int)
def dM (m : List (List Int)) : Dt := .lst (m.map dI)
theorem reps_ints {H : Hp} : ∀ {xs : List V} {ns : List Int}, Reps H xs (ns.map Dt.int) → xs = ns.map V.int
  | xs, [], h => h
  | xs, n :: ns, ⟨x, r, e, hx, hr⟩ => by
    cases hx
    rw [e, reps_ints hr]
    rfl
theorem reps_of_ints {H : Hp} : ∀ (ns : List Int), Reps H (ns.map V.int) (ns.map Dt.int)
  | [] => rfl
  | n :: ns => ⟨_, _, rfl, rfl, reps_of_ints ns⟩
theorem rep_ints {H : Hp} {v : V} {r : List Int} (h : Rep H v (dI r)) : ∃ p, v = .ref p ∧ H p = some (.lst (r.map V.int)) := by
  obtain ⟨p, xs, e, hp, hxs⟩ := h
  rw [reps_ints hxs] at hp
  exact ⟨p, e, hp⟩
theorem rep_of_ints {H : Hp} {p : Addr} {r : List Int} (h : H p = some (.lst (r.map V.int))) : Rep H (.ref p) (dI r) := ⟨p, _, rfl, h, reps_of_ints r⟩
theorem at_ints {r : List Int} {i : Int} (h0 : 0 ≤ i) (h : i.toNat < r.length) : atI (r.map V.int) i = some (.int (gi r i.toNat)) := by
  refine atI_nn h0 ?_
  unfold gi
  simp [List.getD_eq_getElem?_getD, h]
theorem gi_bits {r : List Int} {n : Nat} (h : ∀ x ∈ r, Builtin.Int.intBits x ≤ n) (j : Nat) : Builtin.Int.intBits (gi r j) ≤ n := by
  unfold gi
  rw [List.getD_eq_getElem?_getD]
  cases e : r[j]? with
  | none => exact Nat.le_trans (show Builtin.Int.intBits 0 ≤ 0 by decide +kernel) (Nat.zero_le _)
  | some x => exact h x (List.mem_of_getElem? e)
abbrev s_lessened : Stmt := PySem.Challenge.pw_rimread_k47_minors.main.body.getD 16 (.Pass ⟨0, 0, 0, 0⟩)
theorem sc_lessened : FnScope ["row", "pivot_row", "before"] ["row", "pivot_row", "before"] (defScope s_lessened) := ⟨rfl, rfl, rfl, by decide +kernel, rfl, by decide +kernel, by decide +kernel⟩
theorem lk_lessened_0 : (defScope s_lessened).names.lookup ("row" : Str) = some PySem.NameKind.cell := by decide +kernel
theorem gk_lessened_len : (defScope s_lessened).names.lookup ("len" : Str) = some PySem.NameKind.globalImplicit := by decide +kernel
theorem gk_lessened_range : (defScope s_lessened).names.lookup ("range" : Str) = some PySem.NameKind.globalImplicit := by decide +kernel
def sp_lsn : Sp := fun vs H Q _ => ∃ (v u : V) (r p : List Int) (b : Int), vs = [v, u, .int b] ∧ Rep H v (dI r) ∧ Rep H u (dI p) ∧ r.length = p.length ∧ 1 ≤ r.length ∧ r.length ≤ 100 ∧ b ≠ 0 ∧ b.natAbs.log2 < 9000 ∧
  (∀ x ∈ r, Builtin.Int.intBits x ≤ 9000) ∧ (∀ x ∈ p, Builtin.Int.intBits x ≤ 9000) ∧ ∀ x H', Same H H' → Rep (newH H H') x (dI (lessP p b r)) → Q x H'
theorem ok_lessened (T : Txt K mg) (F : Fn0 K mg "lessened" s_lessened) : Cal P w K mg base "lessened" ["row", "pivot_row", "before"] 1 sp_lsn := by
  refine cal_of F sc_lessened (fun _ _ _ _ _ _ us hl => match us, hl with | [_, _, _], _ => rfl) ?len ?body
  case len => rintro vs H Q E ⟨a, b, c, d, e, rfl, _⟩; rfl
  case body =>
    intro f cdv A outer s H vs Q E hr h
    obtain ⟨v, u, r, p, b, rfl, hv, hu, hl, h1, h100, hb, hlog, br, bp, k⟩ := h
    obtain ⟨x, rfl, hx⟩ := rep_ints hv
    obtain ⟨y, rfl, hy⟩ := rep_ints hu
    refine' ⟨_, ?D, ?R⟩
    case D =>
      refine' pss_one ?g1
      case g1 =>
        refine' ps_ret ?g2
        case g2 =>
          refine' pe_comp (N' := ["j", "pivot_row", "row", "before"]) (ix := [none, some 1, some 0, some 2]) rfl rfl (scp_of ?g3) ?g4 (fun _ _ _ => ?g5) (fun _ _ _ => ?g6) (fun _ _ _ => ?g7)
          case g3 => exact (by show scpB (defScope s_lessened) ["row", "pivot_row", "before"] _ _ _ = true; decide +kernel)
          case g4 =>
            refine' pi_range2 gk_lessened_range T.n_range ?g8
            case g8 =>
              refine' pa_c ?g9 ?g10
              case g9 => exact pe_int
              case g10 =>
                refine' pa_c ?g11 ?g12
                case g11 =>
                  refine' pe_callE call_lenH gk_lessened_len T.n_len bt_len ?g13
                  case g13 =>
                    refine' pa_c ?g14 ?g15
                    case g14 => exact pvc 0 rfl lk_lessened_0
                    case g15 => exact pa_nil
                case g12 => exact pa_nil
          case g5 => exact pg_name1 (i := 0) (by show List.Nodup (["j", "pivot_row", "row", "before"] : List Str); decide +kernel) rfl rfl
          case g6 => exact pf_nil
          case g7 =>
            refine' pe_op op_fdivF ?g16 ?g17
            case g16 =>
              refine' pe_op op_sub ?g18 ?g19
              case g18 =>
                refine' pe_op op_mulB ?g20 ?g21
                case g20 =>
                  refine' pe_ix ix_listH ?g22 ?g23 (fun _ _ => rfl)
                  case g22 => exact pvc 1 rfl rfl
                  case g23 => exact pe_int
                case g21 =>
                  refine' pe_ix ix_listH ?g24 ?g25 (fun _ _ => rfl)
                  case g24 => exact pvc 2 rfl rfl
                  case g25 => exact pv1 0 rfl rfl
              case g19 =>
                refine' pe_op op_mulB ?g26 ?g27
                case g26 =>
                  refine' pe_ix ix_listH ?g28 ?g29 (fun _ _ => rfl)
                  case g28 => exact pvc 2 rfl rfl
                  case g29 => exact pe_int
                case g27 =>
                  refine' pe_ix ix_listH ?g30 ?g31 (fun _ _ => rfl)
                  case g30 => exact pvc 1 rfl rfl
                  case g31 => exact pv1 0 rfl rfl
            case g17 => exact pvc 3 rfl rfl
    case R =>
      walk_at "rd"
      refine ⟨_, .inl hx, ?_⟩
      rw [List.length_map]
      refine ⟨by decide, by decide, by omega, by omega, ?_⟩
      refine comp_any (n := r.length - 1) (B := H) (Pσ := fun σ => ∃ e, σ = [e, some (.ref y), some (.ref x), some (.int b)]) (ds := (lessP p b r).map Dt.int) (Same.refl _) ⟨_, rfl⟩ (by simp [lessP]) (by omega) (fun i H' hi s' => by show i < Int.toNat _; omega) (fun H' s' => by show Int.toNat _ ≤ _; omega) ?_ (fun D H' hD s' rep => k _ _ s' rep)
      rintro D j z d σ' H' H'' hD hDo hs' hj hdj ⟨rfl, rfl⟩ ⟨e, rfl⟩ R kR
      have hx' := hs' _ _ hx
      have hy' := hs' _ _ hy
      walk_at "rd"
      simp only [hx', hy', Option.some.injEq, HO.lst.injEq, exists_eq_left']
      have t1 : ((1 : Int) + (j : Nat)).toNat = j + 1 := by omega
      have g1 := gi_bits bp 0
      have g2 := gi_bits br (j + 1)
      have g3 := gi_bits br 0
      have g4 := gi_bits bp (j + 1)
      have a1 := at_ints (r := r) (i := (1 : Int) + (j : Nat)) (by omega) (by omega)
      have a2 := at_ints (r := p) (i := (1 : Int) + (j : Nat)) (by omega) (by omega)
      rw [t1] at a1 a2
      refine ⟨_, at_ints (by decide) (show (0 : Int).toNat < p.length by omega), _, a1, _, rfl, _, rfl, by show Builtin.Int.intBits (gi p 0) + _ ≤ _; omega, _, at_ints (by decide) (show (0 : Int).toNat < r.length by omega), _, a2, _, rfl, _, rfl, by show Builtin.Int.intBits (gi r 0) + _ ≤ _; omega, hb, hlog, kR _ _ _ ⟨_, rfl⟩ (Same.refl _) ?_⟩
      have : d = .int ((gi p 0 * gi r (j + 1) - gi r 0 * gi p (j + 1)).fdiv b) := by
        rw [List.getElem?_map, lessP, List.getElem?_map, List.getElem?_range hj] at hdj
        exact (Option.some.inj hdj).symm
      rw [this]
      rfl
theorem rep_mat {H : Hp} {xs : List V} {m : List (List Int)} {i : Nat} {x : V} (h : Reps H xs (m.map dI)) (e : xs[i]? = some x) : ∃ q r, m[i]? = some r ∧ x = .ref q ∧ H q = some (.lst (r.map V.int)) := by
  obtain ⟨d, hd, hr⟩ := h.of_get e
  rw [List.getElem?_map] at hd
  cases z : m[i]? with
  | none => rw [z] at hd; cases hd
  | some r =>
    rw [z] at hd
    cases hd
    obtain ⟨q, e1, e2⟩ := rep_ints hr
    exact ⟨q, r, rfl, e1, e2⟩
theorem Reps_drop {H : Hp} : ∀ (n : Nat) {xs : List V} {ds : List Dt}, Reps H xs ds → Reps H (xs.drop n) (ds.drop n)
  | 0, _, _, h => h
  | n + 1, xs, [], h => by rw [show xs = [] from h]; rfl
  | n + 1, xs, d :: ds, ⟨x, r, e, hx, hr⟩ => by rw [e]; exact Reps_drop n hr
theorem Reps_take {H : Hp} : ∀ (n : Nat) {xs : List V} {ds : List Dt}, Reps H xs ds → Reps H (xs.take n) (ds.take n)
  | 0, _, _, h => rfl
  | n + 1, xs, [], h => by rw [show xs = [] from h]; rfl
  | n + 1, xs, d :: ds, ⟨x, r, e, hx, hr⟩ => by rw [e]; exact ⟨x, _, rfl, hx, Reps_take n hr⟩
theorem first_next {rows : List (List Int)} {i n : Nat} (h : i < n) : firstP rows i (n - i) = if gi (rows.getD i []) 0 ≠ 0 then some i else firstP rows (i + 1) (n - (i + 1)) := by
  obtain ⟨d, hd⟩ : ∃ d, n - i = d + 1 := ⟨n - i - 1, by omega⟩
  rw [hd, firstP, show n - (i + 1) = d by omega]
abbrev s_with_pivot : Stmt := PySem.Challenge.pw_rimread_k47_minors.main.body.getD 15 (.Pass ⟨0, 0, 0, 0⟩)
theorem sc_with_pivot : FnScope ["rows", "free", "k", "brought"] ["rows", "free"] (defScope s_with_pivot) := ⟨rfl, rfl, rfl, by decide +kernel, rfl, by decide +kernel, by decide +kernel⟩
theorem lk_with_pivot_0 : (defScope s_with_pivot).names.lookup ("rows" : Str) = some PySem.NameKind.local := by decide +kernel
theorem lk_with_pivot_1 : (defScope s_with_pivot).names.lookup ("free" : Str) = some PySem.NameKind.local := by decide +kernel
theorem lk_with_pivot_2 : (defScope s_with_pivot).names.lookup ("k" : Str) = some PySem.NameKind.local := by decide +kernel
theorem lk_with_pivot_3 : (defScope s_with_pivot).names.lookup ("brought" : Str) = some PySem.NameKind.local := by decide +kernel
theorem gk_with_pivot_range : (defScope s_with_pivot).names.lookup ("range" : Str) = some PySem.NameKind.globalImplicit := by decide +kernel
def sp_piv : Sp := fun vs H Q _ => ∃ (v : V) (m : List (List Int)) (free : Nat), vs = [v, .int free] ∧ Rep H v (dM m) ∧ free ≤ m.length ∧ m.length ≤ 20 ∧ (∀ r ∈ m, 1 ≤ r.length ∧ r.length ≤ 100) ∧ ∀ x H', Same H H' → Rep H' x (dM (pivP m free)) → Q x H'
theorem ok_with_pivot (T : Txt K mg) (F : Fn0 K mg "with_pivot" s_with_pivot) : Cal P w K mg base "with_pivot" ["rows", "free"] 1 sp_piv := by
  refine cal_of F sc_with_pivot (fun _ _ _ _ _ _ us hl => match us, hl with | [_, _], _ => rfl) ?len ?body
  case len => rintro vs H Q E ⟨a, b, c, rfl, _⟩; rfl
  case body =>
    intro f cdv A outer s H vs Q E hr h
    obtain ⟨v, m, free, rfl, hv, hf, h20, hw, k⟩ := h
    obtain ⟨p, xs, rfl, hp, hxs⟩ := id hv
    have hl : xs.length = m.length := by rw [hxs.length, List.length_map]
    refine' ⟨_, ?D, ?R⟩
    case D =>
      refine' pss_cons ?g1 ?g2
      case g1 =>
        refine' ps_for PassesOwn.never rfl ?g3 ?g4 ?g5
        case g3 =>
          refine' pi_range1 gk_with_pivot_range T.n_range ?g6
          case g6 =>
            refine' pa_c ?g7 ?g8
            case g7 => exact pv1 1 rfl lk_with_pivot_1
            case g8 => exact pa_nil
        case g4 => exact pg_name1 (i := 2) sc_with_pivot.nd rfl lk_with_pivot_2
        case g5 =>
          refine' pss_one ?g9
          case g9 =>
            refine' ps_if ?g10 ?g11 ?g12
            case g10 =>
              refine' pt_cmpR op_ne ?g13 ?g14 (nomark _)
              case g13 =>
                refine' pe_ix ix_listH ?g15 ?g16 (fun _ _ => rfl)
                case g15 =>
                  refine' pe_ix ix_listH ?g17 ?g18 (fun _ _ => rfl)
                  case g17 => exact pv1 0 rfl lk_with_pivot_0
                  case g18 => exact pv1 2 rfl lk_with_pivot_2
                case g16 => exact pe_int
              case g14 => exact pe_int
            case g11 =>
              refine' pss_cons ?g19 ?g20
              case g19 =>
                refine' ps_if ?g21 ?g22 ?g23
                case g21 =>
                  refine' pt_cmpR op_eq ?g24 ?g25 (nomark _)
                  case g24 => exact pv1 2 rfl lk_with_pivot_2
                  case g25 => exact pe_int
                case g22 =>
                  refine' pss_one ?g26
                  case g26 =>
                    refine' ps_ret ?g27
                    case g27 => exact pv1 0 rfl lk_with_pivot_0
                case g23 => exact pss_nil
              case g20 =>
                refine' pss_cons ?g28 ?g29
                case g28 =>
                  refine' ps_comp (i := 3) (N' := ["entry"]) (ix := [none]) rfl rfl sc_with_pivot.nd rfl lk_with_pivot_3 rfl (scp_of ?g30) ?g31 (fun _ _ _ => ?g32) (fun _ _ _ => ?g33) (fun _ _ _ => ?g34)
                  case g30 => exact (by show scpB (defScope s_with_pivot) ["rows", "free", "k", "brought"] _ _ _ = true; decide +kernel)
                  case g31 =>
                    refine' pi_listK (K := K) rfl ?g35
                    case g35 =>
                      refine' pe_ix ix_listH ?g36 ?g37 (fun _ _ => rfl)
                      case g36 => exact pv1 0 rfl lk_with_pivot_0
                      case g37 => exact pv1 2 rfl lk_with_pivot_2
                  case g32 => exact pg_name1 (i := 0) (by show List.Nodup (["entry"] : List Str); decide +kernel) rfl rfl
                  case g33 => exact pf_nil
                  case g34 =>
                    refine' pe_un un_neg ?g38
                    case g38 => exact pv1 0 rfl rfl
                case g29 =>
                  refine' pss_one ?g39
                  case g39 =>
                    refine' ps_ret ?g40
                    case g40 =>
                      refine' pe_op op_cat ?g41 ?g42
                      case g41 =>
                        refine' pe_op op_cat ?g43 ?g44
                        case g43 =>
                          refine' pe_op op_cat ?g45 ?g46
                          case g45 =>
                            refine' pe_lst ?g47
                            case g47 =>
                              refine' pa_c ?g48 ?g49
                              case g48 => exact pv1 3 rfl lk_with_pivot_3
                              case g49 => exact pa_nil
                          case g46 =>
                            refine' pe_slice sl_listH ?g50 ?g51 ?g52
                            case g50 => exact pv1 0 rfl lk_with_pivot_0
                            case g51 =>
                              refine' po_some ?g53
                              case g53 => exact pe_int
                            case g52 =>
                              refine' po_some ?g54
                              case g54 => exact pv1 2 rfl lk_with_pivot_2
                        case g44 =>
                          refine' pe_lst ?g55
                          case g55 =>
                            refine' pa_c ?g56 ?g57
                            case g56 =>
                              refine' pe_ix ix_listH ?g58 ?g59 (fun _ _ => rfl)
                              case g58 => exact pv1 0 rfl lk_with_pivot_0
                              case g59 => exact pe_int
                            case g57 => exact pa_nil
                      case g42 =>
                        refine' pe_slice sl_listH ?g60 ?g61 ?g62
                        case g60 => exact pv1 0 rfl lk_with_pivot_0
                        case g61 =>
                          refine' po_some ?g63
                          case g63 =>
                            refine' pe_op op_add ?g64 ?g65
                            case g64 => exact pv1 2 rfl lk_with_pivot_2
                            case g65 => exact pe_int
                        case g62 => exact po_none
            case g12 => exact pss_nil
      case g2 =>
        refine' pss_one ?g66
        case g66 =>
          refine' ps_ret ?g67
          case g67 =>
            refine' pe_lst ?g68
            case g68 => exact pa_nil
    case R =>
      walk_at "rd"
      refine ⟨by omega, by omega, ?_⟩
      rw [show Int.toNat (free : Int) = free by omega]
      refine go_range (fun i σ H' => ∃ e z : Option V, σ = [some (.ref p), some (.int free), e, z] ∧ H' = H ∧ firstP m 0 free = firstP m i (free - i)) ⟨_, _, rfl, rfl, rfl⟩ ?_ ?_
      · rintro i σ H' hi ⟨e, z, rfl, rfl, hq⟩
        rw [first_next hi] at hq
        obtain ⟨q, r, hr0, ex, hq0⟩ := rep_mat hxs (i := i) (x := xs[i]'(by omega)) (by simp [show i < xs.length by omega])
        have hrm := hw r (List.mem_of_getElem? hr0)
        have mg : m.getD i [] = r := by rw [List.getD_eq_getElem?_getD, hr0]; rfl
        rw [mg] at hq
        walk_at "rd"
        simp only [hp, Option.some.injEq, HO.lst.injEq, exists_eq_left']
        have ai : atI xs ((0 : Int) + (i : Nat)) = some (.ref q) := atI_nn (by omega) (by rw [show ((0 : Int) + (i : Nat)).toNat = i by omega, ← ex]; simp [show i < xs.length by omega])
        simp only [ai, Option.some.injEq, exists_eq_left']
        try walk_at "rd"
        refine ⟨_, hq0, _, at_ints (by decide) (show (0 : Int).toNat < r.length by omega), rfl, ?_⟩
        refine ite2 (fun h0 => ?_) (fun h0 => ?_)
        · have hne : gi r 0 ≠ 0 := fun z => h0 (by show V.int (gi r 0) = _; rw [z])
          rw [if_pos hne] at hq
          refine ite2 (fun hi0 => ?_) (fun hi0 => ?_)
          · have e0 : i = 0 := by omega
            subst e0
            refine k _ _ (Same.refl _) ?_
            unfold pivP
            rw [hq]
            exact hv
          · obtain ⟨i, rfl⟩ : ∃ i', i = i' + 1 := ⟨i - 1, by omega⟩
            refine ⟨⟨_, .inl (.inl hq0)⟩, ?_⟩
            refine comp_any (n := r.length) (B := fun _ => none) (Pσ := fun σ => ∃ e, σ = [e]) (ds := (r.map fun x => -x).map Dt.int) (fun b o e => by cases e) ⟨_, rfl⟩ (by simp) (by omega) (fun j H2 hj s2 => ⟨_, .int (r[j]), .inl (.inl (s2 _ _ hq0)), by simp [hj]⟩) (fun H2 s2 => ⟨_, .inl (.inl (s2 _ _ hq0)), by simp⟩) ?_ ?_
            · rintro D j x d σ' H2 H2' hD hDo hs2 hj hdj ⟨rfl, hy⟩ ⟨e2, rfl⟩ R kR
              have hx := hy _ (.inl (.inl (hs2 _ _ hq0)))
              rw [List.getElem?_map, List.getElem?_eq_getElem hj] at hx
              cases hx
              walk_at "rd"
              refine kR _ _ _ ⟨_, rfl⟩ (Same.refl _) ?_
              have : d = .int (-(r[j])) := by
                rw [List.getElem?_map, List.getElem?_map, List.getElem?_eq_getElem hj] at hdj
                exact (Option.some.inj hdj).symm
              rw [this]
              rfl
            · intro D H1 hD s1 rep
              have rep1 : Rep H1 (.ref D) (dI (r.map fun x => -x)) := Rep.mono newH_same _ rep
              refine ⟨by decide, fun p1 n1 => ⟨xs, (s1.trans (Same.new n1)) _ _ hp, fun p2 n2 => ?_⟩⟩
              have c1 : cutV xs (some 1) (some (0 + ((i + 1 : Nat) : Int))) = (xs.drop 1).take i := by
                rw [Int.zero_add]
                exact cut_mid xs 1 (i + 1) (by omega) (by omega)
              have c2 : cutV xs (some (0 + ((i + 1 : Nat) : Int) + 1)) none = xs.drop (i + 2) := by
                rw [Int.zero_add]
                exact cut_from xs (i + 2) (by omega)
              rw [c1]
              have S2 : Same H1 (upd (upd H1 p1 (HO.lst [V.ref D])) p2 (HO.lst ((xs.drop 1).take i))) := (Same.new n1).trans (Same.new n2)
              have a2 : upd (upd H1 p1 (HO.lst [V.ref D])) p2 (HO.lst ((xs.drop 1).take i)) p1 = some (.lst [.ref D]) := (Same.new n2) _ _ upd_same
              have b2 : upd (upd H1 p1 (HO.lst [V.ref D])) p2 (HO.lst ((xs.drop 1).take i)) p2 = some (.lst ((xs.drop 1).take i)) := upd_same
              generalize upd (upd H1 p1 (HO.lst [V.ref D])) p2 (HO.lst ((xs.drop 1).take i)) = H2 at *
              refine ⟨_, a2, (by rw [List.length_take]; show 1 + min i _ ≤ sizeLine; exact Nat.le_of_lt (small1000 (by omega))), fun p3 n3 => ?_⟩
              have S3 : Same H1 (upd H2 p3 (HO.lst ([V.ref D] ++ (xs.drop 1).take i))) := S2.trans (Same.new n3)
              have a3 := upd_same (H := H2) (a := p3) (o := HO.lst ([V.ref D] ++ (xs.drop 1).take i))
              generalize upd H2 p3 (HO.lst ([V.ref D] ++ (xs.drop 1).take i)) = H3 at *
              have x0 : atI xs 0 = some (xs[0]'(by omega)) := atI_nn (by decide) (by show xs[0]? = _; simp [show 0 < xs.length by omega])
              refine ⟨xs, (s1.trans S3) _ _ hp, _, x0, by decide, fun p4 n4 => ?_⟩
              have S4 : Same H1 (upd H3 p4 (HO.lst [xs[0]'(by omega)])) := S3.trans (Same.new n4)
              have a4 := (Same.new n4 (o := HO.lst [xs[0]'(by omega)])) _ _ a3
              generalize upd H3 p4 (HO.lst [xs[0]'(by omega)]) = H4 at *
              have l1 : ([V.ref D] ++ (xs.drop 1).take i).length ≤ 30 := by simp; omega
              refine ⟨_, a4, Nat.le_of_lt (small1000 (by omega)), fun p5 n5 => ?_⟩
              have S5 : Same H1 (upd H4 p5 (HO.lst ([V.ref D] ++ (xs.drop 1).take i ++ [xs[0]'(by omega)]))) := S4.trans (Same.new n5)
              have a5 := upd_same (H := H4) (a := p5) (o := HO.lst ([V.ref D] ++ (xs.drop 1).take i ++ [xs[0]'(by omega)]))
              generalize upd H4 p5 (HO.lst ([V.ref D] ++ (xs.drop 1).take i ++ [xs[0]'(by omega)])) = H5 at *
              refine ⟨xs, (s1.trans S5) _ _ hp, fun p6 n6 => ?_⟩
              rw [c2]
              have S6 : Same H1 (upd H5 p6 (HO.lst (xs.drop (i + 2)))) := S5.trans (Same.new n6)
              have a6 := (Same.new n6 (o := HO.lst (xs.drop (i + 2)))) _ _ a5
              generalize upd H5 p6 (HO.lst (xs.drop (i + 2))) = H6 at *
              have l2 : ([V.ref D] ++ (xs.drop 1).take i ++ [xs[0]'(by omega)]).length + (xs.drop (i + 2)).length ≤ 100 := by simp; omega
              refine ⟨_, a6, Nat.le_of_lt (small1000 (by omega)), fun p7 n7 => k _ _ ((s1.trans S6).trans (Same.new n7)) ⟨p7, _, rfl, upd_same, ?_⟩⟩
              have S7 := S6.trans (Same.new n7 (o := HO.lst ([V.ref D] ++ (xs.drop 1).take i ++ [xs[0]'(by omega)] ++ xs.drop (i + 2))))
              have T7 := s1.trans S7
              unfold pivP
              rw [hq]
              dsimp only
              rw [mg, List.map_append, List.map_append, List.map_append, List.map_take, List.map_drop, List.map_drop]
              refine Reps.append (Reps.append (Reps.append ⟨_, _, rfl, Rep.mono S7 _ rep1, rfl⟩ (Reps_take _ (Reps_drop _ (Reps.mono T7 _ hxs)))) ⟨_, _, rfl, ?_, rfl⟩) (Reps_drop _ (Reps.mono T7 _ hxs))
              obtain ⟨q1, r1, hr1, ex1, hq1⟩ := rep_mat hxs (i := 0) (x := xs[0]'(by omega)) (by simp [show 0 < xs.length by omega])
              have mg1 : m.getD 0 [] = r1 := by rw [List.getD_eq_getElem?_getD, hr1]; rfl
              have R0 := Rep.mono T7 _ (rep_of_ints hq1)
              rw [← ex1, ← mg1] at R0
              exact R0
        · have hz : gi r 0 = 0 := by
            by_cases z : gi r 0 = 0
            · exact z
            · exact absurd (fun w => z (by have := V.int.inj w; exact this)) h0
          rw [if_neg (by simp [hz])] at hq
          try walk_at "rd"
          exact hq
      · rintro σ H' ⟨e, z, rfl, rfl, hq⟩
        walk_at "rd"
        refine ⟨by decide, fun q hq' => k _ _ (Same.new hq') ?_⟩
        rw [Nat.sub_self] at hq
        unfold pivP
        rw [hq]
        exact ⟨q, [], rfl, upd_same, rfl⟩
end Rim47
set_option Elab.async false
set_option linter.all false
set_option maxRecDepth 100000
set_option maxHeartbeats 4000000
namespace Rim47
open PySem PySem.Spec PyProof.Rows L2 RimM RimD
local macro_rules | `(tactic| walk_at "rd") => `(tactic| first | (dsimp only [tSeq, tAsg, gName, tTup, tLst, tCons, tNil, tVar, tC, tCB, tOp, rI, rI0, tTest, tIfS, tNext, tRet, tRetN, tDrop, tB, tAnd, tOr, tNot, tAndV, tOrV, tNotV, rU, tUn, tBM0, tBM, rBits, tCall, L2.start, rIxTH, rIxLH, rLenH, rEqTH, rEq, rNe, CMul, CMulB, CDivB, CDivF, CPow, List.map_cons, List.map_nil, List.length_cons, List.length_nil, List.replicate, List.cons_append, List.nil_append, List.set_cons_zero, List.set_cons_succ, List.getElem?_cons_zero, List.getElem?_cons_succ, gSub, rSetL, rCat, iRng1, tPar, iList, tComp, pick, tYes, iZip, gTup, gCons, gNil, rSum, rListH, List.map, iRng2, iRngD, tSl, rSlH, tPart, tNoPart, tPar3, tIf, tRev, tLRange, rIxT, rPopAt]; try simp only [tSeq, tAsg, gName, tTup, tLst, tCons, tNil, tVar, tC, tCB, tOp, rI, rI0, tTest, tIfS, tNext, tRet, tRetN, tDrop, tB, tAnd, tOr, tNot, tAndV, tOrV, tNotV, rU, tUn, tBM0, tBM, rBits, tCall, L2.start, rIxTH, rIxLH, rLenH, rEqTH, rEq, rNe, scal, tyV, CMul, CMulB, CDivB, CDivF, CPow, List.map_cons, List.map_nil, List.length_cons, List.length_nil, List.replicate, List.cons_append, List.nil_append, List.append_nil, List.set_cons_zero, List.set_cons_succ, List.getElem?_cons_zero, List.getElem?_cons_succ, Option.some.injEq, List.cons.injEq, V.int.injEq, V.bl.injEq, V.str.injEq, V.ref.injEq, V.ty.injEq, HO.tup.injEq, HO.lst.injEq, exists_eq_left, exists_eq_left', exists_and_left, and_assoc, and_true, true_and, upd_same, atI_0, atI_1, atI_2, Nat.zero_add, Nat.reduceAdd, Nat.reduceSub, decide_eq_true_eq, Bool.not_eq_true', decide_eq_false_iff_not, reduceCtorEq, false_or, or_false, true_or, or_true, plainT_int, plainT_bool, plainT_tuple, plainT_list, plainT_str, Bool.false_eq_true, if_false, if_true, Bool.not_false, Bool.not_true, Bool.not_not, gSub, rSetL, ixN_00, upd_upd, rCat, iRng1, tFor_eq, tPar, iList, tComp, pick, tYes, iZip, gTup, gCons, gNil, rSum, rListH, List.map, Option.bind, iRng2, iRngD, tSl, rSlH, tPart, tNoPart, tPar3, tIf, tRev, tLRange, rIxT, rPopAt]) | simp only [tSeq, tAsg, gName, tTup, tLst, tCons, tNil, tVar, tC, tCB, tOp, rI, rI0, tTest, tIfS, tNext, tRet, tRetN, tDrop, tB, tAnd, tOr, tNot, tAndV, tOrV, tNotV, rU, tUn, tBM0, tBM, rBits, tCall, L2.start, rIxTH, rIxLH, rLenH, rEqTH, rEq, rNe, scal, tyV, CMul, CMulB, CDivB, CDivF, CPow, List.map_cons, List.map_nil, List.length_cons, List.length_nil, List.replicate, List.cons_append, List.nil_append, List.append_nil, List.set_cons_zero, List.set_cons_succ, List.getElem?_cons_zero, List.getElem?_cons_succ, Option.some.injEq, List.cons.injEq, V.int.injEq, V.bl.injEq, V.str.injEq, V.ref.injEq, V.ty.injEq, HO.tup.injEq, HO.lst.injEq, exists_eq_left, exists_eq_left', exists_and_left, and_assoc, and_true, true_and, upd_same, atI_0, atI_1, atI_2, Nat.zero_add, Nat.reduceAdd, Nat.reduceSub, decide_eq_true_eq, Bool.not_eq_true', decide_eq_false_iff_not, reduceCtorEq, false_or, or_false, true_or, or_true, plainT_int, plainT_bool, plainT_tuple, plainT_list, plainT_str, Bool.false_eq_true, if_false, if_true, Bool.not_false, Bool.not_true, Bool.not_not, gSub, rSetL, ixN_00, upd_upd, rCat, iRng1, tFor_eq, tPar, iList, tComp, pick, tYes, iZip, gTup, gCons, gNil, rSum, rListH, List.map, Option.bind, iRng2, iRngD, tSl, rSlH, tPart, tNoPart, tPar3, tIf, tRev, tLRange, rIxT, rPopAt])
variable {P : Program} {w : World} {K : PySem.W.Frag} {mg : Str → Option Value} {base : Heap}
theorem piv_ne {m ord : List (List Int)} {free : Nat} (h : pivP m free = ord) (hf : free ≤ m.length) (hn : ord ≠ []) {w : Nat} (hw : Rect w m) : ord.length = m.length ∧ Rect w ord ∧ gi (ord.getD 0 []) 0 ≠ 0 := by
  unfold pivP at h
  split at h
  · exact absurd h.symm hn
  · rename_i e
    subst h
    obtain ⟨_, _, c⟩ := firstP_some e
    exact ⟨rfl, hw, c⟩
  · rename_i k e
    obtain ⟨_, hk, c⟩ := firstP_some e
    have hk' : k + 1 < m.length := by omega
    subst h
    have at' := piv_at hk'
    have ln := piv_len hk'
    generalize ([(m.getD (k + 1) []).map fun x => -x] ++ (m.drop 1).take k ++ [m.getD 0 []] ++ m.drop (k + 2)) = ord at *
    refine ⟨ln, ⟨fun r hr => ?_⟩, ?_⟩
    · obtain ⟨i, hi, rfl⟩ := List.mem_iff_getElem.mp hr
      have e : ord[i] = ord.getD i [] := by rw [List.getD_eq_getElem?_getD, List.getElem?_eq_getElem hi]; rfl
      rw [e, at']
      split
      · rw [List.length_map]; exact hw.at hk'
      · split
        · exact hw.at (by omega)
        · exact hw.at (by omega)
    · have c' : gi (m.getD (k + 1) []) 0 ≠ 0 := c
      rw [at', if_pos rfl, gi_map (by rfl)]
      omega
theorem piv_bd {m : List (List Int)} {free B : Nat} (h : Bd B m) : Bd B (pivP m free) := by
  unfold pivP
  split
  · intro r hr; cases hr
  · exact h
  · rename_i k e
    have g : ∀ i, ∀ x ∈ m.getD i [], x.natAbs ≤ 2 ^ B := fun i x hx => by
      rw [List.getD_eq_getElem?_getD] at hx
      cases z : m[i]? with
      | none => rw [z] at hx; cases hx
      | some r => rw [z] at hx; exact h r (List.mem_of_getElem? z) x hx
    intro r hr x hx
    rcases List.mem_append.mp hr with hr | hr
    · rcases List.mem_append.mp hr with hr | hr
      · rcases List.mem_append.mp hr with hr | hr
        · rw [List.mem_singleton.mp hr] at hx
          obtain ⟨y, hy, rfl⟩ := List.mem_map.mp hx
          have := g (k + 1) y hy
          omega
        · exact h r (List.mem_of_mem_drop (List.mem_of_mem_take hr)) x hx
      · rw [List.mem_singleton.mp hr] at hx
        exact g 0 x hx
    · exact h r (List.mem_of_mem_drop hr) x hx
theorem bits_of_le {x : Int} {B : Nat} (h : x.natAbs ≤ 2 ^ B) : Builtin.Int.intBits x ≤ B + 1 := by
  by_cases e : x = 0
  · subst e
    exact Nat.le_trans (show Builtin.Int.intBits 0 ≤ 0 by decide +kernel) (Nat.zero_le _)
  · have h0 : x.natAbs ≠ 0 := by omega
    have : x.natAbs.log2 < B + 1 := (Nat.log2_lt h0).mpr (Nat.lt_of_le_of_lt h (Nat.pow_lt_pow_right (by decide) (by omega)))
    rw [bits_pos e]
    omega
theorem log_of_le {x : Int} {B : Nat} (h0 : x ≠ 0) (h : x.natAbs ≤ 2 ^ B) (hB : B < 8999) : x.natAbs.log2 < 9000 := by
  have := bits_of_le h
  rw [bits_pos h0] at this
  omega
abbrev s_swept : Stmt := PySem.Challenge.pw_rimread_k47_minors.main.body.getD 17 (.Pass ⟨0, 0, 0, 0⟩)
theorem sc_swept : FnScope ["rows", "before", "left", "free", "ordered", "pivot_row"] ["rows"] (defScope s_swept) := ⟨rfl, rfl, rfl, by decide +kernel, rfl, by decide +kernel, by decide +kernel⟩
theorem lk_swept_0 : (defScope s_swept).names.lookup ("rows" : Str) = some PySem.NameKind.local := by decide +kernel
theorem lk_swept_1 : (defScope s_swept).names.lookup ("before" : Str) = some PySem.NameKind.cell := by decide +kernel
theorem lk_swept_2 : (defScope s_swept).names.lookup ("left" : Str) = some PySem.NameKind.local := by decide +kernel
theorem lk_swept_3 : (defScope s_swept).names.lookup ("free" : Str) = some PySem.NameKind.local := by decide +kernel
theorem lk_swept_4 : (defScope s_swept).names.lookup ("ordered" : Str) = some PySem.NameKind.local := by decide +kernel
theorem lk_swept_5 : (defScope s_swept).names.lookup ("pivot_row" : Str) = some PySem.NameKind.cell := by decide +kernel
theorem gk_swept_len : (defScope s_swept).names.lookup ("len" : Str) = some PySem.NameKind.globalImplicit := by decide +kernel
theorem gk_swept_range : (defScope s_swept).names.lookup ("range" : Str) = some PySem.NameKind.globalImplicit := by decide +kernel
theorem gk_swept_with_pivot : (defScope s_swept).names.lookup ("with_pivot" : Str) = some PySem.NameKind.globalImplicit := by decide +kernel
def sp_swp : Sp := fun vs H Q _ => ∃ (v : V) (m : List (List Int)) (w B : Nat), vs = [v] ∧ Rep H v (dM m) ∧ m.length ≤ w ∧ w ≤ 100 ∧ m.length ≤ 5 ∧ Rect w m ∧ Bd B m ∧ B ≤ 240 ∧
  ∀ x H' left, Same H H' → H' x = some (.tup [.int (sweepP m.length 1 m).1, left]) → Q (.ref x) H'
theorem ok_swept (T : Txt K mg) (F : Fn0 K mg "swept" s_swept) (C_with_pivot : Cal P w K mg base "with_pivot" ["rows", "free"] 1 sp_piv) (C_lessened : Cal P w K mg base "lessened" ["row", "pivot_row", "before"] 1 sp_lsn) : Cal P w K mg base "swept" ["rows"] 2 sp_swp := by
  refine cal_of F sc_swept (fun _ _ _ _ _ _ us hl => match us, hl with | [_], _ => rfl) ?len ?body
  case len => rintro vs H Q E ⟨a, b, c, d, rfl, _⟩; rfl
  case body =>
    intro f cdv A outer s H vs Q E hr h
    obtain ⟨v, m, w, B, rfl, hv, hmw, w100, h5, hw, hB, b240, k⟩ := h
    obtain ⟨p, xs, rfl, hp, hxs⟩ := id hv
    have hl : xs.length = m.length := by rw [hxs.length, List.length_map]
    refine' ⟨_, ?D, ?R⟩
    case D =>
      refine' pss_cons ?g1 ?g2
      case g1 =>
        refine' ps_setc (i := 1) sc_swept.nd rfl lk_swept_1 rfl ?g3 rfl
        case g3 => exact pe_int
      case g2 =>
        refine' pss_cons ?g4 ?g5
        case g4 =>
          refine' ps_set1 (i := 2) sc_swept.nd rfl lk_swept_2 ?g6
          case g6 => exact pv1 0 rfl lk_swept_0
        case g5 =>
          refine' pss_cons ?g7 ?g8
          case g7 =>
            refine' ps_for PassesOwn.never rfl ?g9 ?g10 ?g11
            case g9 =>
              refine' pi_rangeD gk_swept_range T.n_range ?g12
              case g12 =>
                refine' pa_c ?g13 ?g14
                case g13 =>
                  refine' pe_callE call_lenH gk_swept_len T.n_len bt_len ?g15
                  case g15 =>
                    refine' pa_c ?g16 ?g17
                    case g16 => exact pv1 0 rfl lk_swept_0
                    case g17 => exact pa_nil
                case g14 =>
                  refine' pa_c ?g18 ?g19
                  case g18 => exact pe_int
                  case g19 =>
                    refine' pa_c ?g20 ?g21
                    case g20 =>
                      refine' pe_un un_neg ?g22
                      case g22 => exact pe_int
                    case g21 => exact pa_nil
            case g10 => exact pg_name1 (i := 3) sc_swept.nd rfl lk_swept_3
            case g11 =>
              refine' pss_cons ?g23 ?g24
              case g23 =>
                refine' ps_set1 (i := 4) sc_swept.nd rfl lk_swept_4 ?g25
                case g25 =>
                  refine' pe_callD C_with_pivot (hr.mono (by decide)) gk_swept_with_pivot ?g26
                  case g26 =>
                    refine' pa_c ?g27 ?g28
                    case g27 => exact pv1 2 rfl lk_swept_2
                    case g28 =>
                      refine' pa_c ?g29 ?g30
                      case g29 => exact pv1 3 rfl lk_swept_3
                      case g30 => exact pa_nil
              case g24 =>
                refine' pss_cons ?g31 ?g32
                case g31 =>
                  refine' ps_if ?g33 ?g34 ?g35
                  case g33 =>
                    refine' pt_cmpR op_eq ?g36 ?g37 (nomark _)
                    case g36 =>
                      refine' pe_callE call_lenH gk_swept_len T.n_len bt_len ?g38
                      case g38 =>
                        refine' pa_c ?g39 ?g40
                        case g39 => exact pv1 4 rfl lk_swept_4
                        case g40 => exact pa_nil
                    case g37 => exact pe_int
                  case g34 =>
                    refine' pss_one ?g41
                    case g41 =>
                      refine' ps_ret ?g42
                      case g42 =>
                        refine' pe_tup ?g43
                        case g43 =>
                          refine' pa_c ?g44 ?g45
                          case g44 => exact pe_int
                          case g45 =>
                            refine' pa_c ?g46 ?g47
                            case g46 =>
                              refine' pe_lst ?g48
                              case g48 => exact pa_nil
                            case g47 => exact pa_nil
                  case g35 => exact pss_nil
                case g32 =>
                  refine' pss_cons ?g49 ?g50
                  case g49 =>
                    refine' ps_setc (i := 5) sc_swept.nd rfl lk_swept_5 rfl ?g51 rfl
                    case g51 =>
                      refine' pe_ix ix_listH ?g52 ?g53 (fun _ _ => rfl)
                      case g52 => exact pv1 4 rfl lk_swept_4
                      case g53 => exact pe_int
                  case g50 =>
                    refine' pss_cons ?g54 ?g55
                    case g54 =>
                      refine' ps_set1 (i := 2) sc_swept.nd rfl lk_swept_2 ?g56
                      case g56 =>
                        refine' pe_op op_cat ?g57 ?g58
                        case g57 =>
                          refine' pe_comp (N' := ["row", "pivot_row", "before"]) (ix := [none, some 5, some 1]) rfl rfl (scp_of ?g59) ?g60 (fun _ _ _ => ?g61) (fun _ _ _ => ?g62) (fun _ _ _ => ?g63)
                          case g59 => exact (by show scpB (defScope s_swept) ["rows", "before", "left", "free", "ordered", "pivot_row"] _ _ _ = true; decide +kernel)
                          case g60 =>
                            refine' pi_listK (K := K) rfl ?g64
                            case g64 =>
                              refine' pe_slice sl_listH ?g65 ?g66 ?g67
                              case g65 => exact pv1 4 rfl lk_swept_4
                              case g66 =>
                                refine' po_some ?g68
                                case g68 => exact pe_int
                              case g67 => exact po_none
                          case g61 => exact pg_name1 (i := 0) (by show List.Nodup (["row", "pivot_row", "before"] : List Str); decide +kernel) rfl rfl
                          case g62 => exact pf_nil
                          case g63 =>
                            refine' pe_callD C_lessened (hr.mono (by decide)) rfl ?g69
                            case g69 =>
                              refine' pa_c ?g70 ?g71
                              case g70 => exact pv1 0 rfl rfl
                              case g71 =>
                                refine' pa_c ?g72 ?g73
                                case g72 => exact pvc 1 rfl rfl
                                case g73 =>
                                  refine' pa_c ?g74 ?g75
                                  case g74 => exact pvc 2 rfl rfl
                                  case g75 => exact pa_nil
                        case g58 =>
                          refine' pe_lst ?g76
                          case g76 =>
                            refine' pa_c ?g77 ?g78
                            case g77 =>
                              refine' pe_slice sl_listH ?g79 ?g80 ?g81
                              case g79 => exact pvc 5 rfl lk_swept_5
                              case g80 =>
                                refine' po_some ?g82
                                case g82 => exact pe_int
                              case g81 => exact po_none
                            case g78 => exact pa_nil
                    case g55 =>
                      refine' pss_one ?g83
                      case g83 =>
                        refine' ps_setc (i := 1) sc_swept.nd rfl lk_swept_1 rfl ?g84 rfl
                        case g84 =>
                          refine' pe_ix ix_listH ?g85 ?g86 (fun _ _ => rfl)
                          case g85 => exact pvc 5 rfl lk_swept_5
                          case g86 => exact pe_int
          case g8 =>
            refine' pss_one ?g87
            case g87 =>
              refine' ps_ret ?g88
              case g88 =>
                refine' pe_tup ?g89
                case g89 =>
                  refine' pa_c ?g90 ?g91
                  case g90 => exact pvc 1 rfl lk_swept_1
                  case g91 =>
                    refine' pa_c ?g92 ?g93
                    case g92 => exact pv1 2 rfl lk_swept_2
                    case g93 => exact pa_nil
    case R =>
      walk_at "rd"
      refine ⟨_, .inl hp, ?_⟩
      try walk_at "rd"
      refine ⟨by decide, by omega, by omega, ?_⟩
      rw [show ((xs.length : Int) - 0).toNat = m.length by omega]
      have one_le : ∀ e : Nat, (1 : Int).natAbs ≤ 2 ^ e := fun e => Nat.one_le_two_pow
      refine go_down (fun i σ H' => ∃ (b : Int) (L : List (List Int)) (lv : V) (e3 e4 e5 : Option V), σ = [some (.ref p), some (.int b), some lv, e3, e4, e5] ∧ Same H H' ∧ Rep H' lv (dM L) ∧ L.length = m.length ∧ Rect (w - i) L ∧ b ≠ 0 ∧ b.natAbs ≤ 2 ^ (2 ^ i * (B + 1) - 1) ∧ Bd (2 ^ i * (B + 1) - 1) L ∧ (sweepP (m.length - i) b L).1 = (sweepP m.length 1 m).1)
        ⟨1, m, _, _, _, _, rfl, Same.refl _, hv, rfl, hw, by decide, one_le _, by rw [Nat.pow_zero, Nat.one_mul, Nat.add_sub_cancel]; exact hB, rfl⟩ ?_ ?_
      · rintro i σ H' hi ⟨b, L, lv, e3, e4, e5, rfl, s1, repL, hL, rect, b0, bB, bdL, hsw⟩
        have pw : 2 ^ i ≤ 16 := by
          have : i ≤ 4 := by omega
          calc 2 ^ i ≤ 2 ^ 4 := Nat.pow_le_pow_right (by decide) this
            _ = 16 := by decide
        have eB : 2 ^ i * (B + 1) ≤ 16 * 241 := Nat.mul_le_mul pw (by omega)
        have e1 : 1 ≤ 2 ^ i * (B + 1) := Nat.mul_pos (Nat.two_pow_pos i) (by omega)
        have eN : 2 ^ (i + 1) * (B + 1) - 1 = 2 * (2 ^ i * (B + 1) - 1) + 1 := by
          rw [Nat.pow_succ, Nat.mul_comm (2 ^ i) 2, Nat.mul_assoc]
          omega
        rw [eN]
        have eBi : 2 ^ i * (B + 1) - 1 ≤ 3855 := by omega
        generalize 2 ^ i * (B + 1) - 1 = Bi at *
        obtain ⟨fr, hfr⟩ : ∃ fr, m.length - i = fr + 1 := ⟨m.length - i - 1, by omega⟩
        rw [hfr] at hsw
        rw [show (xs.length : Int) - (i : Nat) = ((fr + 1 : Nat) : Int) by omega]
        walk_at "rd"
        refine ⟨lv, L, fr + 1, rfl, repL, by omega, by omega, fun r hr => by rw [rect.w r hr]; omega, fun x H1 s2 rep1 => ?_⟩
        obtain ⟨po, ys, rfl, hpo, hys⟩ := id rep1
        have hly : ys.length = (pivP L (fr + 1)).length := by rw [hys.length, List.length_map]
        walk_at "rd"
        refine ⟨_, .inl hpo, ?_⟩
        refine ite2 (fun h0 => ?_) (fun h0 => ?_)
        · have e0 : pivP L (fr + 1) = [] := List.length_eq_zero_iff.mp (by omega)
          refine ⟨by decide, fun l1 n1 => ⟨by decide, fun t1 n2 => k _ _ (.ref l1) (((s1.trans s2).trans (Same.new n1)).trans (Same.new n2)) ?_⟩⟩
          rw [upd_same, ← hsw]
          unfold sweepP
          rw [e0]
        · have ne : pivP L (fr + 1) ≠ [] := fun z => h0 (by rw [hly, z]; rfl)
          obtain ⟨ol, orect, o0⟩ := piv_ne rfl (by omega) ne rect
          have obd := piv_bd (free := fr + 1) bdL
          obtain ⟨piv, others, eo⟩ : ∃ piv others, pivP L (fr + 1) = piv :: others := by
            cases z : pivP L (fr + 1) with
            | nil => exact absurd z ne
            | cons a l => exact ⟨a, l, rfl⟩
          rw [sweepP, eo] at hsw
          rw [eo] at hys ol orect o0 obd hly
          dsimp only at hsw
          obtain ⟨y0, ys', rfl, rp0, rps⟩ := id hys
          obtain ⟨q0, rfl, hq0⟩ := rep_ints rp0
          have pl : piv.length = w - i := orect.w _ List.mem_cons_self
          have pbd : ∀ x ∈ piv, x.natAbs ≤ 2 ^ Bi := obd _ List.mem_cons_self
          have pn : gi piv 0 ≠ 0 := o0
          have lys : ys'.length = others.length := by rw [rps.length, List.length_map]
          simp only [hpo, Option.some.injEq, HO.lst.injEq, exists_eq_left']
          walk_at "rd"
          intro ps nps
          have c1 : cutV (V.ref q0 :: ys') (some 1) none = ys' := cut_from (V.ref q0 :: ys') 1 (by simp)
          rw [c1]
          have S12 : Same H1 (upd H1 ps (HO.lst ys')) := Same.new nps
          have hps := upd_same (H := H1) (a := ps) (o := HO.lst ys')
          generalize upd H1 ps (HO.lst ys') = H2 at *
          refine ⟨⟨_, .inl (.inl hps)⟩, ?_⟩
          refine comp_any (n := ys'.length) (B := H2) (Pσ := fun σ => ∃ e, σ = [e, some (.ref q0), some (.int b)]) (ds := (others.map (lessP piv b)).map dI) (Same.refl _) ⟨_, rfl⟩ (by simp [lys]) (by simp at ol; omega) (fun j H' hj s' => ⟨ys', ys'[j], .inl (.inl (s' _ _ hps)), by simp [hj]⟩) (fun H' s' => ⟨ys', .inl (.inl (s' _ _ hps)), Nat.le_refl _⟩) ?_ ?_
          · rintro D j x d σ' H' H'' hD hDo hs' hj hdj ⟨rfl, hy⟩ ⟨e, rfl⟩ R kR
            have hx := hy ys' (.inl (.inl (hs' _ _ hps)))
            obtain ⟨q, r, hr1, rfl, hq⟩ := rep_mat rps hx
            have rm : r ∈ piv :: others := List.mem_cons_of_mem _ (List.mem_of_getElem? hr1)
            have rl : r.length = w - i := orect.w r rm
            walk_at "rd"
            refine ⟨_, _, r, piv, b, rfl, rep_of_ints (hs' _ _ (S12 _ _ hq)), rep_of_ints (hs' _ _ (S12 _ _ hq0)), by omega, by omega, by omega, b0, log_of_le b0 bB (by omega), fun x hx => ?_, fun x hx => ?_, fun x H3 s3 rep => kR _ _ _ ⟨_, rfl⟩ s3 ?_⟩
            · have := bits_of_le (obd r rm x hx); omega
            · have := bits_of_le (pbd x hx); omega
            · have : d = dI (lessP piv b r) := by
                rw [List.getElem?_map, List.getElem?_map, hr1] at hdj
                exact (Option.some.inj hdj).symm
              rw [this]
              exact Rep.mono (new_cut hs' hDo) _ rep
          · intro D H3 hD s3 rep
            obtain ⟨_, zs, e, hz, hzs⟩ := Rep.mono newH_same _ rep
            cases e
            have hlz : zs.length = others.length := by rw [hzs.length, List.length_map, List.length_map]
            have hq3 := s3 _ _ (S12 _ _ hq0)
            have c2 : cutV (piv.map V.int) (some 1) none = (piv.drop 1).map V.int := by
              rw [List.map_drop]
              exact cut_from (piv.map V.int) 1 (by simp; omega)
            refine ⟨_, hq3, fun p4 n4 => ⟨by decide, fun p5 n5 => ?_⟩⟩
            rw [c2] at n5 ⊢
            have ol' : others.length + 1 = L.length := ol
            have a4 := (Same.new n5 (o := HO.lst [V.ref p4])) _ _ upd_same
            have S5 : Same H3 (upd (upd H3 p4 (HO.lst ((piv.drop 1).map V.int))) p5 (HO.lst [V.ref p4])) := (Same.new n4).trans (Same.new n5)
            generalize upd (upd H3 p4 (HO.lst ((piv.drop 1).map V.int))) p5 (HO.lst [V.ref p4]) = H5 at *
            refine ⟨D, rfl, zs, S5 _ _ hz, Nat.le_of_lt (small1000 (by omega)), fun p6 n6 => ?_⟩
            have S6 := S5.trans (Same.new n6 (o := HO.lst (zs ++ [V.ref p4])))
            refine ⟨_, S6 _ _ hq3, _, at_ints (by decide) (show (0 : Int).toNat < piv.length by omega), _, rfl, ((s1.trans s2).trans S12).trans (s3.trans S6), others.map (lessP piv b) ++ [piv.drop 1], ⟨p6, _, rfl, upd_same, ?_⟩, by simp; omega, ⟨fun r hr => ?_⟩, pn, Nat.le_trans (gi_le pbd 0) (Nat.pow_le_pow_right (by decide) (by omega)), fun r hr x hx => ?_, ?_⟩
            · rw [List.map_append]
              exact Reps.append (Reps.mono S6 _ hzs) ⟨_, _, rfl, rep_of_ints ((Same.new n6) _ _ a4), rfl⟩
            · rcases List.mem_append.mp hr with hr | hr
              · obtain ⟨r', hr', rfl⟩ := List.mem_map.mp hr
                have := orect.w r' (List.mem_cons_of_mem _ hr')
                unfold lessP
                simp
                omega
              · rw [List.mem_singleton.mp hr]
                simp
                omega
            · rcases List.mem_append.mp hr with hr | hr
              · obtain ⟨r', hr', rfl⟩ := List.mem_map.mp hr
                exact less_le b0 pbd (obd r' (List.mem_cons_of_mem _ hr')) x hx
              · rw [List.mem_singleton.mp hr] at hx
                exact Nat.le_trans (pbd x (List.mem_of_mem_drop hx)) (Nat.pow_le_pow_right (by decide) (by omega))
            · rw [show m.length - (i + 1) = fr by omega]
              exact hsw
      · rintro σ H' ⟨b, L, lv, e3, e4, e5, rfl, s1, repL, hL, rect, b0, bB, bdL, hsw⟩
        walk_at "rd"
        refine ⟨by decide, fun t nt => k _ _ lv (s1.trans (Same.new nt)) ?_⟩
        rw [Nat.sub_self] at hsw
        rw [upd_same, ← hsw]
        rfl
end Rim47
set_option Elab.async false
set_option linter.all false
set_option maxRecDepth 100000
set_option maxHeartbeats 4000000
namespace Rim47
open PySem PySem.Spec PyProof.Rows L2 RimM RimD
local macro_rules | `(tactic| walk_at "rd") => `(tactic| first | (dsimp only [tSeq, tAsg, gName, tTup, tLst, tCons, tNil, tVar, tC, tCB, tOp, rI, rI0, tTest, tIfS, tNext, tRet, tRetN, tDrop, tB, tAnd, tOr, tNot, tAndV, tOrV, tNotV, rU, tUn, tBM0, tBM, rBits, tCall, L2.start, rIxTH, rIxLH, rLenH, rEqTH, rEq, rNe, CMul, CMulB, CDivB, CDivF, CPow, List.map_cons, List.map_nil, List.length_cons, List.length_nil, List.replicate, List.cons_append, List.nil_append, List.set_cons_zero, List.set_cons_succ, List.getElem?_cons_zero, List.getElem?_cons_succ, gSub, rSetL, rCat, iRng1, tPar, iList, tComp, pick, tYes, iZip, gTup, gCons, gNil, rSum, rListH, List.map, iRng2, iRngD, tSl, rSlH, tPart, tNoPart, tPar3, tIf, tRev, tLRange, rIxT, rPopAt]; try simp only [tSeq, tAsg, gName, tTup, tLst, tCons, tNil, tVar, tC, tCB, tOp, rI, rI0, tTest, tIfS, tNext, tRet, tRetN, tDrop, tB, tAnd, tOr, tNot, tAndV, tOrV, tNotV, rU, tUn, tBM0, tBM, rBits, tCall, L2.start, rIxTH, rIxLH, rLenH, rEqTH, rEq, rNe, scal, tyV, CMul, CMulB, CDivB, CDivF, CPow, List.map_cons, List.map_nil, List.length_cons, List.length_nil, List.replicate, List.cons_append, List.nil_append, List.append_nil, List.set_cons_zero, List.set_cons_succ, List.getElem?_cons_zero, List.getElem?_cons_succ, Option.some.injEq, List.cons.injEq, V.int.injEq, V.bl.injEq, V.str.injEq, V.ref.injEq, V.ty.injEq, HO.tup.injEq, HO.lst.injEq, exists_eq_left, exists_eq_left', exists_and_left, and_assoc, and_true, true_and, upd_same, atI_0, atI_1, atI_2, Nat.zero_add, Nat.reduceAdd, Nat.reduceSub, decide_eq_true_eq, Bool.not_eq_true', decide_eq_false_iff_not, reduceCtorEq, false_or, or_false, true_or, or_true, plainT_int, plainT_bool, plainT_tuple, plainT_list, plainT_str, Bool.false_eq_true, if_false, if_true, Bool.not_false, Bool.not_true, Bool.not_not, gSub, rSetL, ixN_00, upd_upd, rCat, iRng1, tFor_eq, tPar, iList, tComp, pick, tYes, iZip, gTup, gCons, gNil, rSum, rListH, List.map, Option.bind, iRng2, iRngD, tSl, rSlH, tPart, tNoPart, tPar3, tIf, tRev, tLRange, rIxT, rPopAt]) | simp only [tSeq, tAsg, gName, tTup, tLst, tCons, tNil, tVar, tC, tCB, tOp, rI, rI0, tTest, tIfS, tNext, tRet, tRetN, tDrop, tB, tAnd, tOr, tNot, tAndV, tOrV, tNotV, rU, tUn, tBM0, tBM, rBits, tCall, L2.start, rIxTH, rIxLH, rLenH, rEqTH, rEq, rNe, scal, tyV, CMul, CMulB, CDivB, CDivF, CPow, List.map_cons, List.map_nil, List.length_cons, List.length_nil, List.replicate, List.cons_append, List.nil_append, List.append_nil, List.set_cons_zero, List.set_cons_succ, List.getElem?_cons_zero, List.getElem?_cons_succ, Option.some.injEq, List.cons.injEq, V.int.injEq, V.bl.injEq, V.str.injEq, V.ref.injEq, V.ty.injEq, HO.tup.injEq, HO.lst.injEq, exists_eq_left, exists_eq_left', exists_and_left, and_assoc, and_true, true_and, upd_same, atI_0, atI_1, atI_2, Nat.zero_add, Nat.reduceAdd, Nat.reduceSub, decide_eq_true_eq, Bool.not_eq_true', decide_eq_false_iff_not, reduceCtorEq, false_or, or_false, true_or, or_true, plainT_int, plainT_bool, plainT_tuple, plainT_list, plainT_str, Bool.false_eq_true, if_false, if_true, Bool.not_false, Bool.not_true, Bool.not_not, gSub, rSetL, ixN_00, upd_upd, rCat, iRng1, tFor_eq, tPar, iList, tComp, pick, tYes, iZip, gTup, gCons, gNil, rSum, rListH, List.map, Option.bind, iRng2, iRngD, tSl, rSlH, tPart, tNoPart, tPar3, tIf, tRev, tLRange, rIxT, rPopAt])
variable {P : Program} {w : World} {K : PySem.W.Frag} {mg : Str → Option Value} {base : Heap}
def nums (g : List (List (Int × Int))) : List (List Int) := g.map fun r => tops r (lcmB r)
def botsP (g : List (List (Int × Int))) : Int := (g.map lcmB).foldl (fun b c => b * c) 1
theorem rep_rows {H : Hp} {xs : List V} {g : List (List (Int × Int))} {i : Nat} {x : V} (h : Reps H xs (g.map dRow)) (e : xs[i]? = some x) : ∃ q ys r, g[i]? = some r ∧ x = .ref q ∧ H q = some (.lst ys) ∧ Reps H ys (r.map dF) := by
  obtain ⟨d, hd, hr⟩ := h.of_get e
  rw [List.getElem?_map] at hd
  cases z : g[i]? with
  | none => rw [z] at hd; cases hd
  | some r =>
    rw [z] at hd
    cases hd
    obtain ⟨q, ys, e1, e2, e3⟩ := hr
    exact ⟨q, ys, r, rfl, e1, e2, e3⟩
theorem rep_clr {H : Hp} {v : V} {ns : List Int} {L : Int} (h : Rep H v (.tup [.lst (ns.map Dt.int), .int L])) : ∃ p q, v = .ref p ∧ H p = some (.tup [.ref q, .int L]) ∧ H q = some (.lst (ns.map V.int)) := by
  obtain ⟨p, xs, e, hp, x, r', e1, ⟨q, ys, e2, hq, hys⟩, y, r'', e3, hy, e4⟩ := h
  cases hy
  subst e1 e2 e3 e4
  rw [reps_ints hys] at hq
  exact ⟨p, q, e, hp, hq⟩
theorem tops_le {r : List (Int × Int)} (h : ∀ p ∈ r, Sm p) (h5 : r.length ≤ 5) : ∀ x ∈ tops r (lcmB r), x.natAbs ≤ 2 ^ 165 := fun x hx => by
  obtain ⟨e, he, rfl⟩ := List.mem_map.mp hx
  have bb := (bot_lcm h).bits
  have bl : Builtin.Int.intBits (lcmB r / e.2) ≤ 121 := PyProof.Rows.bits_of_natAbs_le (b := lcmB r) (by have := Int.natAbs_ediv_le_natAbs (lcmB r) e.2; omega) (by omega)
  have z := PyProof.Rows.bits_mul (h e he).top bl
  by_cases e0 : e.1 * (lcmB r / e.2) = 0
  · rw [e0]; exact Nat.zero_le _
  · rw [bits_pos e0] at z
    exact Nat.le_of_lt ((Nat.log2_lt (by omega)).mp (by omega))
theorem bots_snoc (g : List (List (Int × Int))) (r : List (Int × Int)) : botsP (g ++ [r]) = botsP g * lcmB r := by
  unfold botsP
  rw [List.map_append, List.foldl_append]
  rfl
abbrev s_determinant : Stmt := PySem.Challenge.pw_rimread_k47_minors.main.body.getD 18 (.Pass ⟨0, 0, 0, 0⟩)
theorem sc_determinant : FnScope ["grid", "rows", "bottom", "row", "whole"] ["grid"] (defScope s_determinant) := ⟨rfl, rfl, rfl, by decide +kernel, rfl, by decide +kernel, by decide +kernel⟩
theorem lk_determinant_0 : (defScope s_determinant).names.lookup ("grid" : Str) = some PySem.NameKind.local := by decide +kernel
theorem lk_determinant_1 : (defScope s_determinant).names.lookup ("rows" : Str) = some PySem.NameKind.local := by decide +kernel
theorem lk_determinant_2 : (defScope s_determinant).names.lookup ("bottom" : Str) = some PySem.NameKind.local := by decide +kernel
theorem lk_determinant_3 : (defScope s_determinant).names.lookup ("row" : Str) = some PySem.NameKind.local := by decide +kernel
theorem lk_determinant_4 : (defScope s_determinant).names.lookup ("whole" : Str) = some PySem.NameKind.local := by decide +kernel
theorem gk_determinant_cleared : (defScope s_determinant).names.lookup ("cleared" : Str) = some PySem.NameKind.globalImplicit := by decide +kernel
theorem gk_determinant_fraction : (defScope s_determinant).names.lookup ("fraction" : Str) = some PySem.NameKind.globalImplicit := by decide +kernel
theorem gk_determinant_swept : (defScope s_determinant).names.lookup ("swept" : Str) = some PySem.NameKind.globalImplicit := by decide +kernel
def sp_det : Sp := fun vs H Q _ => ∃ (v : V) (g : List (List (Int × Int))), vs = [v] ∧ Rep H v (.lst (g.map dRow)) ∧ g.length ≤ 5 ∧ (∀ r ∈ g, r.length = g.length ∧ ∀ p ∈ r, Sm p) ∧
  ∀ z H', Same H H' → H z = none → H' z = some (.tup [.int (nf (D g.length (ma (nums g))) (botsP g)).1, .int (nf (D g.length (ma (nums g))) (botsP g)).2]) → Q (.ref z) H'
theorem ok_determinant (T : Txt K mg) (F : Fn0 K mg "determinant" s_determinant) (C_cleared : Cal P w K mg base "cleared" ["entries"] 3 sp_cleared) (C_swept : Cal P w K mg base "swept" ["rows"] 2 sp_swp) (C_fraction : Cal P w K mg base "fraction" ["top", "bottom"] 2 sp_fraction) : Cal P w K mg base "determinant" ["grid"] 4 sp_det := by
  refine cal_of F sc_determinant (fun _ _ _ _ _ _ us hl => match us, hl with | [_], _ => rfl) ?len ?body
  case len => rintro vs H Q E ⟨a, b, rfl, _⟩; rfl
  case body =>
    intro f cdv A outer s H vs Q E hr h
    obtain ⟨v, g, rfl, hv, h5, hg, k⟩ := h
    obtain ⟨p, xs, rfl, hp, hxs⟩ := id hv
    have hl : xs.length = g.length := by rw [hxs.length, List.length_map]
    refine' ⟨_, ?D, ?R⟩
    case D =>
      refine' pss_cons ?g1 ?g2
      case g1 =>
        refine' ps_set1 (i := 1) sc_determinant.nd rfl lk_determinant_1 ?g3
        case g3 =>
          refine' pe_lst ?g4
          case g4 => exact pa_nil
      case g2 =>
        refine' pss_cons ?g5 ?g6
        case g5 =>
          refine' ps_set1 (i := 2) sc_determinant.nd rfl lk_determinant_2 ?g7
          case g7 => exact pe_int
        case g6 =>
          refine' pss_cons ?g8 ?g9
          case g8 =>
            refine' ps_for PassesOwn.never rfl ?g10 ?g11 ?g12
            case g10 =>
              refine' pi_listK (K := K) rfl ?g13
              case g13 => exact pv1 0 rfl lk_determinant_0
            case g11 => exact pg_name1 (i := 3) sc_determinant.nd rfl lk_determinant_3
            case g12 =>
              refine' pss_cons ?g14 ?g15
              case g14 =>
                refine' ps_set1 (i := 4) sc_determinant.nd rfl lk_determinant_4 ?g16
                case g16 =>
                  refine' pe_callD C_cleared (hr.mono (by decide)) gk_determinant_cleared ?g17
                  case g17 =>
                    refine' pa_c ?g18 ?g19
                    case g18 => exact pv1 3 rfl lk_determinant_3
                    case g19 => exact pa_nil
              case g15 =>
                refine' pss_cons ?g20 ?g21
                case g20 =>
                  refine' ps_expr1 ?g22
                  case g22 =>
                    refine' pe_bm PySem.F.plainAttrs_list PySem.F.slot_list_append PySem.F.type_list_append mt_append ?g23 ?g24
                    case g23 => exact pv1 1 rfl lk_determinant_1
                    case g24 =>
                      refine' pa_c ?g25 ?g26
                      case g25 =>
                        refine' pe_ix ix_tupH ?g27 ?g28 (fun _ _ => rfl)
                        case g27 => exact pv1 4 rfl lk_determinant_4
                        case g28 => exact pe_int
                      case g26 => exact pa_nil
                case g21 =>
                  refine' pss_one ?g29
                  case g29 =>
                    refine' ps_set1 (i := 2) sc_determinant.nd rfl lk_determinant_2 ?g30
                    case g30 =>
                      refine' pe_op op_mulB ?g31 ?g32
                      case g31 => exact pv1 2 rfl lk_determinant_2
                      case g32 =>
                        refine' pe_ix ix_tupH ?g33 ?g34 (fun _ _ => rfl)
                        case g33 => exact pv1 4 rfl lk_determinant_4
                        case g34 => exact pe_int
          case g9 =>
            refine' pss_one ?g35
            case g35 =>
              refine' ps_ret ?g36
              case g36 =>
                refine' pe_callD C_fraction (hr.mono (by decide)) gk_determinant_fraction ?g37
                case g37 =>
                  refine' pa_c ?g38 ?g39
                  case g38 =>
                    refine' pe_ix ix_tupH ?g40 ?g41 (fun _ _ => rfl)
                    case g40 =>
                      refine' pe_callD C_swept (hr.mono (by decide)) gk_determinant_swept ?g42
                      case g42 =>
                        refine' pa_c ?g43 ?g44
                        case g43 => exact pv1 1 rfl lk_determinant_1
                        case g44 => exact pa_nil
                    case g41 => exact pe_int
                  case g39 =>
                    refine' pa_c ?g45 ?g46
                    case g45 => exact pv1 2 rfl lk_determinant_2
                    case g46 => exact pa_nil
    case R =>
      walk_at "rd"
      refine ⟨by decide, fun l nl => ?_⟩
      refine ⟨⟨xs, .inl (.inl ((Same.new nl) _ _ hp))⟩, ?_⟩
      have pl : p ≠ l := ne_of_none hp nl
      refine go_list (xs := xs) (fun i σ H' => ∃ (c : Int) (e3 e4 : Option V) (ys : List V), σ = [some (.ref p), some (.ref l), some (.int c), e3, e4] ∧ Same H H' ∧ H' l = some (.lst ys) ∧ Reps (cutH (fun _ => none) l H') ys ((nums (g.take i)).map dI) ∧ c = botsP (g.take i) ∧ 0 < c ∧ Builtin.Int.intBits c ≤ 121 * i + 1)
        ⟨1, none, none, [], rfl, Same.new nl, upd_same, rfl, rfl, by decide, by decide +kernel⟩ ?_ ?_ ?_
      · rintro i σ H' hi ⟨c, e3, e4, ys, rfl, s1, _⟩
        exact .inl (.inl (s1 _ _ hp))
      · rintro i x σ H' hx ⟨c, e3, e4, ys, rfl, s1, hl1, reps, hc, c0, cb⟩
        obtain ⟨q, zs, r, hr0, rfl, hq, hzs⟩ := rep_rows hxs hx
        have hi : i < g.length := (List.getElem?_eq_some_iff.mp hr0).1
        obtain ⟨rl, rs⟩ := hg r (List.mem_of_getElem? hr0)
        have bot := bot_lcm rs
        have bp := bot.pos
        have bb := bot.bits
        have ly : ys.length ≤ 5 := by rw [reps.length]; simp [nums]; omega
        walk_at "rd"
        refine ⟨_, r, rfl, ⟨q, zs, rfl, s1 _ _ hq, Reps.mono s1 _ hzs⟩, rs, by omega, fun x1 H1 s2 rep1 => ?_⟩
        obtain ⟨t, q1, rfl, ht, hq1⟩ := rep_clr rep1
        obtain ⟨nt, ht1⟩ := newH_of ht
        obtain ⟨nq, hq2⟩ := newH_of hq1
        have tl : t ≠ l := fun z => by rw [z, hl1] at nt; cases nt
        have ql : q1 ≠ l := fun z => by rw [z, hl1] at nq; cases nq
        have hl2 := s2 _ _ hl1
        walk_at "rd"
        refine ⟨.inl ⟨_, .inl (.inl hl2)⟩, ?_⟩
        simp only [ht1, Option.some.injEq, HO.tup.injEq, exists_eq_left']
        walk_at "rd"
        have tk : g.take (i + 1) = g.take i ++ [r] := by rw [List.take_succ, hr0]; rfl
        have bm := PyProof.Rows.bits_mul cb bb
        refine ⟨l, ys, .ref q1, rfl, rfl, hl2, small1000 (by omega), _, by rw [upd_ne tl]; exact ht1, _, atI_1, _, rfl, by omega, fun b o hb => ?_, _, upd_same, ?_, ?_, Int.mul_pos c0 bp, by omega⟩
        · have hb2 := s2 _ _ (s1 _ _ hb)
          rw [upd_ne (ne_of_none hb nl)]
          exact hb2
        · rw [cutH_upd, tk]
          unfold nums
          rw [List.map_append, List.map_append]
          refine Reps.append (Reps.mono (cutH_mono s2) _ reps) ⟨_, _, rfl, rep_of_ints ?_, rfl⟩
          rw [cutH_at ql rfl]
          exact hq2
        · rw [tk, bots_snoc, hc]
      · rintro σ H' ⟨c, e3, e4, ys, rfl, s1, hl1, reps, hc, c0, cb⟩
        rw [List.take_of_length_le (by omega)] at hc reps
        rw [hl] at cb
        have bd : Bd 165 (nums g) := fun row hrow x hx => by
          obtain ⟨r, hr0, rfl⟩ := List.mem_map.mp hrow
          obtain ⟨rl, rs⟩ := hg r hr0
          exact tops_le rs (by omega) x hx
        have rect : Rect g.length (nums g) := ⟨fun row hrow => by
          obtain ⟨r, hr0, rfl⟩ := List.mem_map.mp hrow
          obtain ⟨rl, rs⟩ := hg r hr0
          simp [tops, rl]⟩
        have ln : (nums g).length = g.length := by simp [nums]
        have dle := D_le (B := 165) (n := g.length) (N := ma (nums g)) (by omega) fun i j hi hj => by
          unfold ma
          refine gi_le (fun x hx => ?_) j
          rw [List.getD_eq_getElem?_getD, List.getElem?_eq_getElem (by omega)] at hx
          exact bd _ (List.getElem_mem _) x hx
        have dbits := bits_of_le dle
        have dl : (165 + 3) * g.length ≤ 840 := by omega
        walk_at "rd"
        refine ⟨.ref l, nums g, g.length, 165, rfl, ⟨l, ys, rfl, hl1, Reps.mono cutH_same _ reps⟩, by omega, by omega, by omega, rect, bd, by omega, fun x H1 left s2 hx => ?_⟩
        rw [sweep_is rect (by omega), ln] at hx
        walk_at "rd"
        simp only [hx, Option.some.injEq, HO.tup.injEq, exists_eq_left']
        walk_at "rd"
        refine ⟨_, _, rfl, by omega, by omega, by omega, fun z H2 s3 nz hz => ?_⟩
        rw [hc] at hz
        exact k z _ ((s1.trans s2).trans s3) ((s1.trans s2).free nz) hz
end Rim47
set_option Elab.async false
set_option linter.all false
set_option maxRecDepth 100000
set_option maxHeartbeats 4000000
namespace Rim47
open PySem PySem.Spec PyProof.Rows L2 RimM RimD
local macro_rules | `(tactic| walk_at "rd") => `(tactic| first | (dsimp only [tSeq, tAsg, gName, tTup, tLst, tCons, tNil, tVar, tC, tCB, tOp, rI, rI0, tTest, tIfS, tNext, tRet, tRetN, tDrop, tB, tAnd, tOr, tNot, tAndV, tOrV, tNotV, rU, tUn, tBM0, tBM, rBits, tCall, L2.start, rIxTH, rIxLH, rLenH, rEqTH, rEq, rNe, CMul, CMulB, CDivB, CDivF, CPow, List.map_cons, List.map_nil, List.length_cons, List.length_nil, List.replicate, List.cons_append, List.nil_append, List.set_cons_zero, List.set_cons_succ, List.getElem?_cons_zero, List.getElem?_cons_succ, gSub, rSetL, rCat, iRng1, tPar, iList, tComp, pick, tYes, iZip, gTup, gCons, gNil, rSum, rListH, List.map, iRng2, iRngD, tSl, rSlH, tPart, tNoPart, tPar3, tIf, tRev, tLRange, rIxT, rPopAt]; try simp only [tSeq, tAsg, gName, tTup, tLst, tCons, tNil, tVar, tC, tCB, tOp, rI, rI0, tTest, tIfS, tNext, tRet, tRetN, tDrop, tB, tAnd, tOr, tNot, tAndV, tOrV, tNotV, rU, tUn, tBM0, tBM, rBits, tCall, L2.start, rIxTH, rIxLH, rLenH, rEqTH, rEq, rNe, scal, tyV, CMul, CMulB, CDivB, CDivF, CPow, List.map_cons, List.map_nil, List.length_cons, List.length_nil, List.replicate, List.cons_append, List.nil_append, List.append_nil, List.set_cons_zero, List.set_cons_succ, List.getElem?_cons_zero, List.getElem?_cons_succ, Option.some.injEq, List.cons.injEq, V.int.injEq, V.bl.injEq, V.str.injEq, V.ref.injEq, V.ty.injEq, HO.tup.injEq, HO.lst.injEq, exists_eq_left, exists_eq_left', exists_and_left, and_assoc, and_true, true_and, upd_same, atI_0, atI_1, atI_2, Nat.zero_add, Nat.reduceAdd, Nat.reduceSub, decide_eq_true_eq, Bool.not_eq_true', decide_eq_false_iff_not, reduceCtorEq, false_or, or_false, true_or, or_true, plainT_int, plainT_bool, plainT_tuple, plainT_list, plainT_str, Bool.false_eq_true, if_false, if_true, Bool.not_false, Bool.not_true, Bool.not_not, gSub, rSetL, ixN_00, upd_upd, rCat, iRng1, tFor_eq, tPar, iList, tComp, pick, tYes, iZip, gTup, gCons, gNil, rSum, rListH, List.map, Option.bind, iRng2, iRngD, tSl, rSlH, tPart, tNoPart, tPar3, tIf, tRev, tLRange, rIxT, rPopAt]) | simp only [tSeq, tAsg, gName, tTup, tLst, tCons, tNil, tVar, tC, tCB, tOp, rI, rI0, tTest, tIfS, tNext, tRet, tRetN, tDrop, tB, tAnd, tOr, tNot, tAndV, tOrV, tNotV, rU, tUn, tBM0, tBM, rBits, tCall, L2.start, rIxTH, rIxLH, rLenH, rEqTH, rEq, rNe, scal, tyV, CMul, CMulB, CDivB, CDivF, CPow, List.map_cons, List.map_nil, List.length_cons, List.length_nil, List.replicate, List.cons_append, List.nil_append, List.append_nil, List.set_cons_zero, List.set_cons_succ, List.getElem?_cons_zero, List.getElem?_cons_succ, Option.some.injEq, List.cons.injEq, V.int.injEq, V.bl.injEq, V.str.injEq, V.ref.injEq, V.ty.injEq, HO.tup.injEq, HO.lst.injEq, exists_eq_left, exists_eq_left', exists_and_left, and_assoc, and_true, true_and, upd_same, atI_0, atI_1, atI_2, Nat.zero_add, Nat.reduceAdd, Nat.reduceSub, decide_eq_true_eq, Bool.not_eq_true', decide_eq_false_iff_not, reduceCtorEq, false_or, or_false, true_or, or_true, plainT_int, plainT_bool, plainT_tuple, plainT_list, plainT_str, Bool.false_eq_true, if_false, if_true, Bool.not_false, Bool.not_true, Bool.not_not, gSub, rSetL, ixN_00, upd_upd, rCat, iRng1, tFor_eq, tPar, iList, tComp, pick, tYes, iZip, gTup, gCons, gNil, rSum, rListH, List.map, Option.bind, iRng2, iRngD, tSl, rSlH, tPart, tNoPart, tPar3, tIf, tRev, tLRange, rIxT, rPopAt])
variable {P : Program} {w : World} {K : PySem.W.Frag} {mg : Str → Option Value} {base : Heap}
abbrev s__law_cell_at : Stmt := PySem.Challenge.pw_rimread_k47_minors.main.body.getD 23 (.Pass ⟨0, 0, 0, 0⟩)
theorem sc__law_cell_at : FnScope ["_law_script", "_law_k"] ["_law_script", "_law_k"] (defScope s__law_cell_at) := ⟨rfl, rfl, rfl, by decide +kernel, rfl, by decide +kernel, by decide +kernel⟩
theorem lk__law_cell_at_0 : (defScope s__law_cell_at).names.lookup ("_law_script" : Str) = some PySem.NameKind.local := by decide +kernel
theorem lk__law_cell_at_1 : (defScope s__law_cell_at).names.lookup ("_law_k" : Str) = some PySem.NameKind.local := by decide +kernel
theorem gk__law_cell_at_len : (defScope s__law_cell_at).names.lookup ("len" : Str) = some PySem.NameKind.globalImplicit := by decide +kernel
def sp_cell (K : PySem.W.Frag) : Sp := fun vs H Q _ => ∃ (a : Addr) (ns : List Int) (i : Int), vs = [.ref a, .int i] ∧ SqL K H a (ns.map V.int) ∧ 0 ≤ i ∧ ∀ z, Q (.int z) H
theorem ok__law_cell_at (T : Txt K mg) (F : Fn0 K mg "_law_cell_at" s__law_cell_at) : Cal P w K mg base "_law_cell_at" ["_law_script", "_law_k"] 1 (sp_cell K) := by
  refine cal_of F sc__law_cell_at (fun _ _ _ _ _ _ us hl => match us, hl with | [_, _], _ => rfl) ?len ?body
  case len => rintro vs H Q E ⟨a, b, c, rfl, _⟩; rfl
  case body =>
    intro f cdv A outer s H vs Q E hr h
    obtain ⟨a, ns, i, rfl, hS, h0, k⟩ := h
    refine' ⟨_, ?D, ?R⟩
    case D =>
      refine' pss_cons ?g1 ?g2
      case g1 =>
        refine' ps_if ?g3 ?g4 ?g5
        case g3 =>
          refine' pt_cmpR op_lt ?g6 ?g7 (nomark _)
          case g6 => exact pv1 1 rfl lk__law_cell_at_1
          case g7 =>
            refine' pe_callE call_len_seq gk__law_cell_at_len T.n_len bt_len ?g8
            case g8 =>
              refine' pa_c ?g9 ?g10
              case g9 => exact pv1 0 rfl lk__law_cell_at_0
              case g10 => exact pa_nil
        case g4 =>
          refine' pss_one ?g11
          case g11 =>
            refine' ps_ret ?g12
            case g12 =>
              refine' pe_ix (ix_listK (K := K) rfl) ?g13 ?g14 (fun _ _ => rfl)
              case g13 => exact pv1 0 rfl lk__law_cell_at_0
              case g14 => exact pv1 1 rfl lk__law_cell_at_1
        case g5 => exact pss_nil
      case g2 =>
        refine' pss_one ?g15
        case g15 =>
          refine' ps_ret ?g16
          case g16 => exact pe_int
    case R =>
      walk_at "rd"
      refine ⟨_, .inl hS, ?_⟩
      rw [List.length_map]
      refine ite2 (fun hl => ?_) (fun hl => ?_)
      · refine ⟨a, _, i, V.int (ns.getD i.toNat 0), rfl, rfl, hS, atI_nn h0 ?_, k _⟩
        have : i.toNat < ns.length := by omega
        simp [List.getElem?_map, this, List.getD]
      · exact k 0
abbrev s__law_big : Stmt := PySem.Challenge.pw_rimread_k47_minors.main.body.getD 24 (.Pass ⟨0, 0, 0, 0⟩)
theorem sc__law_big : FnScope ["_law_script", "_law_at", "_law_by", "_law_prime", "_law_cell", "_law_big_here", "_law_k", "_law_one"] ["_law_script", "_law_at"] (defScope s__law_big) := ⟨rfl, rfl, rfl, by decide +kernel, rfl, by decide +kernel, by decide +kernel⟩
theorem lk__law_big_0 : (defScope s__law_big).names.lookup ("_law_script" : Str) = some PySem.NameKind.local := by decide +kernel
theorem lk__law_big_1 : (defScope s__law_big).names.lookup ("_law_at" : Str) = some PySem.NameKind.local := by decide +kernel
theorem lk__law_big_2 : (defScope s__law_big).names.lookup ("_law_by" : Str) = some PySem.NameKind.local := by decide +kernel
theorem lk__law_big_3 : (defScope s__law_big).names.lookup ("_law_prime" : Str) = some PySem.NameKind.local := by decide +kernel
theorem lk__law_big_4 : (defScope s__law_big).names.lookup ("_law_cell" : Str) = some PySem.NameKind.local := by decide +kernel
theorem lk__law_big_5 : (defScope s__law_big).names.lookup ("_law_big_here" : Str) = some PySem.NameKind.local := by decide +kernel
theorem lk__law_big_6 : (defScope s__law_big).names.lookup ("_law_k" : Str) = some PySem.NameKind.local := by decide +kernel
theorem lk__law_big_7 : (defScope s__law_big).names.lookup ("_law_one" : Str) = some PySem.NameKind.local := by decide +kernel
theorem gk__law_big__law_cell_at : (defScope s__law_big).names.lookup ("_law_cell_at" : Str) = some PySem.NameKind.globalImplicit := by decide +kernel
theorem gk__law_big_range : (defScope s__law_big).names.lookup ("range" : Str) = some PySem.NameKind.globalImplicit := by decide +kernel
def sp_big (K : PySem.W.Frag) : Sp := fun vs H Q _ => ∃ (a : Addr) (ns : List Int), vs = [.ref a, .int 0] ∧ SqL K H a (ns.map V.int) ∧ ∀ z H', Same H H' → Q (.int z) H'
theorem by_at {a0 a1 a2 a3 a4 a5 a6 a7 : Int} (i : Int) (h0 : 0 ≤ i) (h1 : i < 8) (P : Int → Prop) (p0 : P a0) (p1 : P a1) (p2 : P a2) (p3 : P a3) (p4 : P a4) (p5 : P a5) (p6 : P a6) (p7 : P a7) :
    ∃ v, atI [V.int a0, .int a1, .int a2, .int a3, .int a4, .int a5, .int a6, .int a7] i = some (.int v) ∧ P v := by
  have : i = 0 ∨ i = 1 ∨ i = 2 ∨ i = 3 ∨ i = 4 ∨ i = 5 ∨ i = 6 ∨ i = 7 := by omega
  rcases this with rfl | rfl | rfl | rfl | rfl | rfl | rfl | rfl
  · exact ⟨_, rfl, p0⟩
  · exact ⟨_, rfl, p1⟩
  · exact ⟨_, rfl, p2⟩
  · exact ⟨_, rfl, p3⟩
  · exact ⟨_, rfl, p4⟩
  · exact ⟨_, rfl, p5⟩
  · exact ⟨_, rfl, p6⟩
  · exact ⟨_, rfl, p7⟩
theorem ok__law_big (T : Txt K mg) (F : Fn0 K mg "_law_big" s__law_big) (C__law_cell_at : Cal P w K mg base "_law_cell_at" ["_law_script", "_law_k"] 1 (sp_cell K)) : Cal P w K mg base "_law_big" ["_law_script", "_law_at"] 2 (sp_big K) := by
  refine cal_of F sc__law_big (fun _ _ _ _ _ _ us hl => match us, hl with | [_, _], _ => rfl) ?len ?body
  case len => rintro vs H Q E ⟨a, b, rfl, _⟩; rfl
  case body =>
    intro f cdv A outer s H vs Q E hr h
    obtain ⟨a, ns, rfl, hS, k⟩ := h
    refine' ⟨_, ?D, ?R⟩
    case D =>
      refine' pss_cons ?g1 ?g2
      case g1 =>
        refine' ps_set1 (i := 2) sc__law_big.nd rfl lk__law_big_2 ?g3
        case g3 =>
          refine' pe_tup ?g4
          case g4 =>
            refine' pa_c ?g5 ?g6
            case g5 => exact pe_int
            case g6 =>
              refine' pa_c ?g7 ?g8
              case g7 => exact pe_int
              case g8 =>
                refine' pa_c ?g9 ?g10
                case g9 => exact pe_int
                case g10 =>
                  refine' pa_c ?g11 ?g12
                  case g11 => exact pe_int
                  case g12 =>
                    refine' pa_c ?g13 ?g14
                    case g13 => exact pe_int
                    case g14 =>
                      refine' pa_c ?g15 ?g16
                      case g15 => exact pe_int
                      case g16 =>
                        refine' pa_c ?g17 ?g18
                        case g17 => exact pe_int
                        case g18 =>
                          refine' pa_c ?g19 ?g20
                          case g19 => exact pe_int
                          case g20 => exact pa_nil
      case g2 =>
        refine' pss_cons ?g21 ?g22
        case g21 =>
          refine' ps_set1 (i := 3) sc__law_big.nd rfl lk__law_big_3 ?g23
          case g23 =>
            refine' pe_tup ?g24
            case g24 =>
              refine' pa_c ?g25 ?g26
              case g25 => exact pe_int
              case g26 =>
                refine' pa_c ?g27 ?g28
                case g27 => exact pe_int
                case g28 =>
                  refine' pa_c ?g29 ?g30
                  case g29 => exact pe_int
                  case g30 =>
                    refine' pa_c ?g31 ?g32
                    case g31 => exact pe_int
                    case g32 =>
                      refine' pa_c ?g33 ?g34
                      case g33 => exact pe_int
                      case g34 =>
                        refine' pa_c ?g35 ?g36
                        case g35 => exact pe_int
                        case g36 =>
                          refine' pa_c ?g37 ?g38
                          case g37 => exact pe_int
                          case g38 =>
                            refine' pa_c ?g39 ?g40
                            case g39 => exact pe_int
                            case g40 => exact pa_nil
        case g22 =>
          refine' pss_cons ?g41 ?g42
          case g41 =>
            refine' ps_set1 (i := 4) sc__law_big.nd rfl lk__law_big_4 ?g43
            case g43 =>
              refine' pe_callD C__law_cell_at (hr.mono (by decide)) gk__law_big__law_cell_at ?g44
              case g44 =>
                refine' pa_c ?g45 ?g46
                case g45 => exact pv1 0 rfl lk__law_big_0
                case g46 =>
                  refine' pa_c ?g47 ?g48
                  case g47 => exact pv1 1 rfl lk__law_big_1
                  case g48 => exact pa_nil
          case g42 =>
            refine' pss_cons ?g49 ?g50
            case g49 =>
              refine' ps_if ?g51 ?g52 ?g53
              case g51 =>
                refine' pt_cmpR op_ge ?g54 ?g55 (nomark _)
                case g54 => exact pv1 4 rfl lk__law_big_4
                case g55 =>
                  refine' pe_op op_pow ?g56 ?g57
                  case g56 => exact pe_int
                  case g57 => exact pe_int
              case g52 =>
                refine' pss_one ?g58
                case g58 =>
                  refine' ps_ret ?g59
                  case g59 => exact pv1 4 rfl lk__law_big_4
              case g53 => exact pss_nil
            case g50 =>
              refine' pss_cons ?g60 ?g61
              case g60 =>
                refine' ps_set1 (i := 5) sc__law_big.nd rfl lk__law_big_5 ?g62
                case g62 => exact pe_int
              case g61 =>
                refine' pss_cons ?g63 ?g64
                case g63 =>
                  refine' ps_for PassesOwn.never rfl ?g65 ?g66 ?g67
                  case g65 =>
                    refine' pi_range1 gk__law_big_range T.n_range ?g68
                    case g68 =>
                      refine' pa_c ?g69 ?g70
                      case g69 => exact pe_int
                      case g70 => exact pa_nil
                  case g66 => exact pg_name1 (i := 6) sc__law_big.nd rfl lk__law_big_6
                  case g67 =>
                    refine' pss_cons ?g71 ?g72
                    case g71 =>
                      refine' ps_set1 (i := 7) sc__law_big.nd rfl lk__law_big_7 ?g73
                      case g73 =>
                        refine' pe_op op_add ?g74 ?g75
                        case g74 =>
                          refine' pe_op op_add ?g76 ?g77
                          case g76 =>
                            refine' pe_op op_mod ?g78 ?g79
                            case g78 =>
                              refine' pe_callD C__law_cell_at (hr.mono (by decide)) gk__law_big__law_cell_at ?g80
                              case g80 =>
                                refine' pa_c ?g81 ?g82
                                case g81 => exact pv1 0 rfl lk__law_big_0
                                case g82 =>
                                  refine' pa_c ?g83 ?g84
                                  case g83 =>
                                    refine' pe_op op_add ?g85 ?g86
                                    case g85 => exact pv1 1 rfl lk__law_big_1
                                    case g86 =>
                                      refine' pe_op op_mod ?g87 ?g88
                                      case g87 => exact pv1 6 rfl lk__law_big_6
                                      case g88 => exact pe_int
                                  case g84 => exact pa_nil
                            case g79 =>
                              refine' pe_op op_pow ?g89 ?g90
                              case g89 => exact pe_int
                              case g90 => exact pe_int
                          case g77 => exact pe_int
                        case g75 =>
                          refine' pe_op op_mul ?g91 ?g92
                          case g91 => exact pv1 6 rfl lk__law_big_6
                          case g92 => exact pv1 6 rfl lk__law_big_6
                    case g72 =>
                      refine' pss_one ?g93
                      case g93 =>
                        refine' ps_set1 (i := 5) sc__law_big.nd rfl lk__law_big_5 ?g94
                        case g94 =>
                          refine' pe_op op_add ?g95 ?g96
                          case g95 =>
                            refine' pe_op op_mul ?g97 ?g98
                            case g97 => exact pv1 5 rfl lk__law_big_5
                            case g98 => exact pe_int
                          case g96 =>
                            refine' pe_op op_mod ?g99 ?g100
                            case g99 =>
                              refine' pe_op op_mod ?g101 ?g102
                              case g101 =>
                                refine' pe_op op_mul ?g103 ?g104
                                case g103 => exact pv1 7 rfl lk__law_big_7
                                case g104 =>
                                  refine' pe_ix ix_tupH ?g105 ?g106 (fun _ _ => rfl)
                                  case g105 => exact pv1 2 rfl lk__law_big_2
                                  case g106 =>
                                    refine' pe_op op_mod ?g107 ?g108
                                    case g107 => exact pv1 6 rfl lk__law_big_6
                                    case g108 => exact pe_int
                              case g102 =>
                                refine' pe_ix ix_tupH ?g109 ?g110 (fun _ _ => rfl)
                                case g109 => exact pv1 3 rfl lk__law_big_3
                                case g110 =>
                                  refine' pe_op op_mod ?g111 ?g112
                                  case g111 => exact pv1 6 rfl lk__law_big_6
                                  case g112 => exact pe_int
                            case g100 => exact pe_int
                case g64 =>
                  refine' pss_one ?g113
                  case g113 =>
                    refine' ps_ret ?g114
                    case g114 => exact pv1 5 rfl lk__law_big_5
    case R =>
      walk_at "rd"
      refine ⟨by decide, fun p hp => ⟨by decide, fun q hq => ?_⟩⟩
      generalize e1 : upd H p (HO.tup _) = H1 at hq ⊢
      have s1 : Same H H1 := e1 ▸ Same.new hp
      have p1 : H1 p = some (.tup _) := e1 ▸ upd_same
      generalize e2 : upd H1 q (HO.tup _) = H2
      have s2 : Same H1 H2 := e2 ▸ Same.new hq
      have q2 : H2 q = some (.tup _) := e2 ▸ upd_same
      have p2 := s2 _ _ p1
      have sS : Same H H2 := s1.trans s2
      clear e1 e2
      refine ⟨a, ns, 0, rfl, sS.seq hS, by decide, fun z => ?_⟩
      walk_at "rd"
      refine ⟨by decide, by decide, by decide, ?_⟩
      refine ite2 (fun _ => k _ _ sS) (fun _ => ⟨by decide, by decide, ?_⟩)
      refine go_range (fun i σ H' => H' = H2 ∧ ∃ (b : Int) (v6 v7 : Option V), σ = [some (V.ref a), some (V.int 0), some (V.ref p), some (V.ref q), some (V.int z), some (V.int b), v6, v7]) ⟨rfl, 0, none, none, rfl⟩ ?_ ?_
      · rintro i σ H' hi ⟨rfl, b, v6, v7, rfl⟩
        have hi' : i < 60 := hi
        walk_at "rd"
        have m9 := Int.emod_nonneg (0 + (i : Int)) (show (9 : Int) ≠ 0 by decide)
        refine ⟨by decide, a, ns, _, rfl, sS.seq hS, by omega, fun y => ?_⟩
        walk_at "rd"
        refine ⟨by decide, by decide, by decide, by decide, .inl ⟨by omega, by omega⟩, .inr ⟨by decide, by decide⟩, by decide, ?_⟩
        have m8 := Int.emod_nonneg (0 + (i : Int)) (show (8 : Int) ≠ 0 by decide)
        have l8 := Int.emod_lt_of_pos (0 + (i : Int)) (show (0 : Int) < 8 by decide)
        obtain ⟨v, hv, v0, v1⟩ := by_at (a0 := 48271) (a1 := 69621) (a2 := 16807) (a3 := 39373) (a4 := 21401) (a5 := 60493) (a6 := 87721) (a7 := 31337) ((0 + (i : Int)) % 8) m8 l8 (fun v => 0 < v ∧ v < 100000) (by decide) (by decide) (by decide) (by decide) (by decide) (by decide) (by decide) (by decide)
        obtain ⟨u, hu, u0, u1⟩ := by_at (a0 := 99991) (a1 := 99989) (a2 := 99971) (a3 := 99961) (a4 := 99929) (a5 := 99923) (a6 := 99907) (a7 := 99901) ((0 + (i : Int)) % 8) m8 l8 (fun v => 0 < v ∧ v < 100000) (by decide) (by decide) (by decide) (by decide) (by decide) (by decide) (by decide) (by decide)
        simp only [p2, q2, Option.some.injEq, HO.tup.injEq, exists_eq_left']
        simp only [hv, hu]
        walk_at "rd"
        exact ⟨.inr ⟨by omega, by omega⟩, by decide, u0, by decide, _, rfl⟩
      · rintro σ H' ⟨rfl, b, v6, v7, rfl⟩
        walk_at "rd"
        exact k _ _ sS
abbrev s__law_digit : Stmt := PySem.Challenge.pw_rimread_k47_minors.main.body.getD 30 (.Pass ⟨0, 0, 0, 0⟩)
theorem sc__law_digit : FnScope ["_law_rest", "_law_many", "_law_digit_here"] ["_law_rest", "_law_many"] (defScope s__law_digit) := ⟨rfl, rfl, rfl, by decide +kernel, rfl, by decide +kernel, by decide +kernel⟩
theorem lk__law_digit_0 : (defScope s__law_digit).names.lookup ("_law_rest" : Str) = some PySem.NameKind.local := by decide +kernel
theorem lk__law_digit_1 : (defScope s__law_digit).names.lookup ("_law_many" : Str) = some PySem.NameKind.local := by decide +kernel
theorem lk__law_digit_2 : (defScope s__law_digit).names.lookup ("_law_digit_here" : Str) = some PySem.NameKind.local := by decide +kernel
def sp_digit : Sp := fun vs H Q _ => ∃ (l : Addr) (r m : Int), vs = [.ref l, .int m] ∧ H l = some (.lst [.int r]) ∧ 0 < m ∧ m.natAbs.log2 < 9000 ∧ Q (.int (r % m)) (upd H l (.lst [.int (r / m)]))
theorem ok__law_digit (T : Txt K mg) (F : Fn0 K mg "_law_digit" s__law_digit) : Cal P w K mg base "_law_digit" ["_law_rest", "_law_many"] 1 sp_digit := by
  refine cal_of F sc__law_digit (fun _ _ _ _ _ _ us hl => match us, hl with | [_, _], _ => rfl) ?len ?body
  case len => rintro vs H Q E ⟨a, b, c, rfl, _⟩; rfl
  case body =>
    intro f cdv A outer s H vs Q E hr h
    obtain ⟨l, r, m, rfl, hl, m0, ml, k⟩ := h
    refine' ⟨_, ?D, ?R⟩
    case D =>
      refine' pss_cons ?g1 ?g2
      case g1 =>
        refine' ps_set1 (i := 2) sc__law_digit.nd rfl lk__law_digit_2 ?g3
        case g3 =>
          refine' pe_op op_mod ?g4 ?g5
          case g4 =>
            refine' pe_ix ix_listH ?g6 ?g7 (fun _ _ => rfl)
            case g6 => exact pv1 0 rfl lk__law_digit_0
            case g7 => exact pe_int
          case g5 => exact pv1 1 rfl lk__law_digit_1
      case g2 =>
        refine' pss_cons ?g8 ?g9
        case g8 =>
          refine' ps_asg ?g10 (pg_sub ?g11 ?g12 set_list)
          case g10 =>
            refine' pe_op op_fdivB ?g13 ?g14
            case g13 =>
              refine' pe_ix ix_listH ?g15 ?g16 (fun _ _ => rfl)
              case g15 => exact pv1 0 rfl lk__law_digit_0
              case g16 => exact pe_int
            case g14 => exact pv1 1 rfl lk__law_digit_1
          case g11 => exact pv1 0 rfl lk__law_digit_0
          case g12 => exact pe_int
        case g9 =>
          refine' pss_one ?g17
          case g17 =>
            refine' ps_ret ?g18
            case g18 => exact pv1 2 rfl lk__law_digit_2
    case R =>
      walk_at "rd"
      simp only [hl]
      walk_at "rd"
      exact ⟨m0, m0, ml, k⟩
abbrev s__law_whole : Stmt := PySem.Challenge.pw_rimread_k47_minors.main.body.getD 29 (.Pass ⟨0, 0, 0, 0⟩)
theorem sc__law_whole : FnScope ["_law_found"] ["_law_found"] (defScope s__law_whole) := ⟨rfl, rfl, rfl, by decide +kernel, rfl, by decide +kernel, by decide +kernel⟩
theorem lk__law_whole_0 : (defScope s__law_whole).names.lookup ("_law_found" : Str) = some PySem.NameKind.local := by decide +kernel
theorem gk__law_whole_bool : (defScope s__law_whole).names.lookup ("bool" : Str) = some PySem.NameKind.globalImplicit := by decide +kernel
theorem gk__law_whole_int : (defScope s__law_whole).names.lookup ("int" : Str) = some PySem.NameKind.globalImplicit := by decide +kernel
theorem gk__law_whole_isinstance : (defScope s__law_whole).names.lookup ("isinstance" : Str) = some PySem.NameKind.globalImplicit := by decide +kernel
def sp_whole : Sp := fun vs H Q _ => ∃ x t, vs = [x] ∧ kindV H x = some t ∧ ∀ H', Same H H' → Q (.bl (t == "int")) H'
theorem kind_cases {H : Hp} {x : V} {t : String} (h : kindV H x = some t) : t = "NoneType" ∨ t = "bool" ∨ t = "int" ∨ t = "str" ∨ t = "list" ∨ t = "tuple" := by
  cases x with
  | non => exact .inl (Option.some.inj h).symm
  | bl _ => exact .inr (.inl (Option.some.inj h).symm)
  | int _ => exact .inr (.inr (.inl (Option.some.inj h).symm))
  | str _ => exact .inr (.inr (.inr (.inl (Option.some.inj h).symm)))
  | ref p =>
    cases e : H p with
    | none => simp [kindV, e] at h
    | some o => cases o <;> simp [kindV, e] at h <;> simp [← h]
  | _ => cases h
theorem ok__law_whole (T : Txt K mg) (F : Fn0 K mg "_law_whole" s__law_whole) : Cal P w K mg base "_law_whole" ["_law_found"] 1 sp_whole := by
  refine cal_of F sc__law_whole (fun _ _ _ _ _ _ us hl => match us, hl with | [_], _ => rfl) ?len ?body
  case len => rintro vs H Q E ⟨a, b, rfl, _⟩; rfl
  case body =>
    intro f cdv A outer s H vs Q E hr h
    obtain ⟨x, t, rfl, ht, k⟩ := h
    refine' ⟨_, ?D, ?R⟩
    case D =>
      refine' pss_one ?g1
      case g1 =>
        refine' ps_ret ?g2
        case g2 =>
          refine' pe_and ?g3 ?g4
          case g3 =>
            refine' pe_callE call_isi gk__law_whole_isinstance T.n_isinstance bt_isinstance ?g5
            case g5 =>
              refine' pa_c ?g6 ?g7
              case g6 => exact pv1 0 rfl lk__law_whole_0
              case g7 =>
                refine' pa_c ?g8 ?g9
                case g8 => exact pe_bty gk__law_whole_int T.n_int bt_int
                case g9 => exact pa_nil
          case g4 =>
            refine' pe_one ?g10
            case g10 =>
              refine' pe_not ?g11
              case g11 =>
                refine' pe_callE call_isi gk__law_whole_isinstance T.n_isinstance bt_isinstance ?g12
                case g12 =>
                  refine' pa_c ?g13 ?g14
                  case g13 => exact pv1 0 rfl lk__law_whole_0
                  case g14 =>
                    refine' pa_c ?g15 ?g16
                    case g15 => exact pe_bty gk__law_whole_bool T.n_bool bt_bool
                    case g16 => exact pa_nil
    case R =>
      walk_at "rd"
      simp only [ht, Option.some.injEq, exists_eq_left']
      have k' := k H (Same.refl H)
      rcases kind_cases ht with rfl | rfl | rfl | rfl | rfl | rfl <;> exact k'
abbrev s__law_low : Stmt := PySem.Challenge.pw_rimread_k47_minors.main.body.getD 25 (.Pass ⟨0, 0, 0, 0⟩)
theorem sc__law_low : FnScope ["_law_top", "_law_bottom", "_law_one", "_law_other"] ["_law_top", "_law_bottom"] (defScope s__law_low) := ⟨rfl, rfl, rfl, by decide +kernel, rfl, by decide +kernel, by decide +kernel⟩
theorem lk__law_low_0 : (defScope s__law_low).names.lookup ("_law_top" : Str) = some PySem.NameKind.local := by decide +kernel
theorem lk__law_low_1 : (defScope s__law_low).names.lookup ("_law_bottom" : Str) = some PySem.NameKind.local := by decide +kernel
theorem lk__law_low_2 : (defScope s__law_low).names.lookup ("_law_one" : Str) = some PySem.NameKind.local := by decide +kernel
theorem lk__law_low_3 : (defScope s__law_low).names.lookup ("_law_other" : Str) = some PySem.NameKind.local := by decide +kernel
theorem gk__law_low_abs : (defScope s__law_low).names.lookup ("abs" : Str) = some PySem.NameKind.globalImplicit := by decide +kernel
def sp_low : Sp := fun vs H Q _ => ∃ t b : Int, vs = [.int t, .int b] ∧ 0 < b ∧ Builtin.Int.intBits b ≤ 8000 ∧ ∀ p H', Same H H' → Rep (newH H H') (.ref p) (dF (nf t b)) → Q (.ref p) H'
theorem ok__law_low (T : Txt K mg) (F : Fn0 K mg "_law_low" s__law_low) : Cal P w K mg base "_law_low" ["_law_top", "_law_bottom"] 1 sp_low := by
  refine cal_of F sc__law_low (fun _ _ _ _ _ _ us hl => match us, hl with | [_, _], _ => rfl) ?len ?body
  case len => rintro vs H Q E ⟨a, b, rfl, _⟩; rfl
  case body =>
    intro f cdv A outer s H vs Q E hr h
    obtain ⟨a, b, rfl, hb, lb, k⟩ := h
    refine' ⟨_, ?D, ?R⟩
    case D =>
      refine' pss_cons ?g1 ?g2
      case g1 =>
        refine' ps_par (i := 2) (j := 3) rfl sc__law_low.nd rfl rfl (by decide) lk__law_low_2 lk__law_low_3 ?g3 rfl
        case g3 =>
          refine' pa_c ?g4 ?g5
          case g4 =>
            refine' pe_callE call_abs gk__law_low_abs T.n_abs bt_abs ?g6
            case g6 =>
              refine' pa_c ?g7 ?g8
              case g7 => exact pv1 0 rfl lk__law_low_0
              case g8 => exact pa_nil
          case g5 =>
            refine' pa_c ?g9 ?g10
            case g9 => exact pv1 1 rfl lk__law_low_1
            case g10 => exact pa_nil
      case g2 =>
        refine' pss_cons ?g11 ?g12
        case g11 =>
          refine' ps_while PassesOwn.never ?g13 ?g14
          case g13 =>
            refine' pt_cmpR op_gt ?g15 ?g16 (nomark _)
            case g15 => exact pv1 3 rfl lk__law_low_3
            case g16 => exact pe_int
          case g14 =>
            refine' pss_one ?g17
            case g17 =>
              refine' ps_par (i := 2) (j := 3) rfl sc__law_low.nd rfl rfl (by decide) lk__law_low_2 lk__law_low_3 ?g18 rfl
              case g18 =>
                refine' pa_c ?g19 ?g20
                case g19 => exact pv1 3 rfl lk__law_low_3
                case g20 =>
                  refine' pa_c ?g21 ?g22
                  case g21 =>
                    refine' pe_op op_mod ?g23 ?g24
                    case g23 => exact pv1 2 rfl lk__law_low_2
                    case g24 => exact pv1 3 rfl lk__law_low_3
                  case g22 => exact pa_nil
        case g12 =>
          refine' pss_one ?g25
          case g25 =>
            refine' ps_ret ?g26
            case g26 =>
              refine' pe_tup ?g27
              case g27 =>
                refine' pa_c ?g28 ?g29
                case g28 =>
                  refine' pe_op op_fdivB ?g30 ?g31
                  case g30 => exact pv1 0 rfl lk__law_low_0
                  case g31 => exact pv1 2 rfl lk__law_low_2
                case g29 =>
                  refine' pa_c ?g32 ?g33
                  case g32 =>
                    refine' pe_op op_fdivB ?g34 ?g35
                    case g34 => exact pv1 1 rfl lk__law_low_1
                    case g35 => exact pv1 2 rfl lk__law_low_2
                  case g33 => exact pa_nil
    case R =>
      walk_at "rd"
      refine while_W (fun σ H1 => ∃ (x y : Int), σ = [some (.int a), some (.int b), some (.int x), some (.int y)] ∧ H1 = H ∧ 0 ≤ x ∧ 0 ≤ y ∧ Int.gcd x y = Int.gcd a b)
        (fun σ _ => match σ with | [_, _, _, some (.int y)] => y.toNat | _ => 0) ?_ ?_
      · refine ⟨_, _, rfl, rfl, ?_, by omega, ?_⟩
        · split <;> omega
        · split
          · rw [Int.neg_gcd]
          · rfl
      · rintro σ H1 ⟨x, y, rfl, rfl, hx, hy, e⟩
        walk_at "rd"
        refine ite2 (fun hne => ?_) (fun he => ?_)
        · refine ⟨_, N_ok, ?_⟩
          walk_at "rd"
          have h1 := Int.emod_nonneg x (show y ≠ 0 by omega)
          have h2 := Int.emod_lt_of_pos x hne
          exact ⟨hne, hy, h1, (gcd_step hx hne).trans e, by omega⟩
        · have hy0 : y = 0 := by omega
          have hx' : x = (Int.gcd a b : Nat) := by
            rw [← e, hy0, Int.gcd_zero_right]; omega
          have g0 := gpos (t := a) (b := b) (by omega)
          have hl := log_of (g := (Int.gcd a b : Int)) (b := b) (by omega) (Nat.le_of_dvd (by omega) (Int.natAbs_dvd_natAbs.mpr (Int.gcd_dvd_right ..))) lb
          subst hx'
          refine ⟨g0, hl, g0, hl, by decide, fun p hp => k p _ (Same.new hp) ⟨p, _, rfl, ?_, _, _, rfl, rfl, _, _, rfl, rfl, rfl⟩⟩
          rw [newH_at hp, upd_same, nf_pos hb]
abbrev s__law_is_fraction : Stmt := PySem.Challenge.pw_rimread_k47_minors.main.body.getD 31 (.Pass ⟨0, 0, 0, 0⟩)
theorem sc__law_is_fraction : FnScope ["_law_found"] ["_law_found"] (defScope s__law_is_fraction) := ⟨rfl, rfl, rfl, by decide +kernel, rfl, by decide +kernel, by decide +kernel⟩
theorem lk__law_is_fraction_0 : (defScope s__law_is_fraction).names.lookup ("_law_found" : Str) = some PySem.NameKind.local := by decide +kernel
theorem gk__law_is_fraction__law_low : (defScope s__law_is_fraction).names.lookup ("_law_low" : Str) = some PySem.NameKind.globalImplicit := by decide +kernel
theorem gk__law_is_fraction__law_whole : (defScope s__law_is_fraction).names.lookup ("_law_whole" : Str) = some PySem.NameKind.globalImplicit := by decide +kernel
theorem gk__law_is_fraction_isinstance : (defScope s__law_is_fraction).names.lookup ("isinstance" : Str) = some PySem.NameKind.globalImplicit := by decide +kernel
theorem gk__law_is_fraction_len : (defScope s__law_is_fraction).names.lookup ("len" : Str) = some PySem.NameKind.globalImplicit := by decide +kernel
theorem gk__law_is_fraction_tuple : (defScope s__law_is_fraction).names.lookup ("tuple" : Str) = some PySem.NameKind.globalImplicit := by decide +kernel
def sp_isf : Sp := fun vs H Q _ => ∃ v p, vs = [v] ∧ Rep H v (dF p) ∧ Low p ∧ Builtin.Int.intBits p.2 ≤ 8000 ∧ ∀ H', Same H H' → Q (.bl true) H'
theorem ok__law_is_fraction (T : Txt K mg) (F : Fn0 K mg "_law_is_fraction" s__law_is_fraction) (C__law_whole : Cal P w K mg base "_law_whole" ["_law_found"] 1 sp_whole) (C__law_low : Cal P w K mg base "_law_low" ["_law_top", "_law_bottom"] 1 sp_low) : Cal P w K mg base "_law_is_fraction" ["_law_found"] 2 sp_isf := by
  refine cal_of F sc__law_is_fraction (fun _ _ _ _ _ _ us hl => match us, hl with | [_], _ => rfl) ?len ?body
  case len => rintro vs H Q E ⟨a, b, rfl, _⟩; rfl
  case body =>
    intro f cdv A outer s H vs Q E hr h
    obtain ⟨v, p, rfl, hv, lo, bb, k⟩ := h
    obtain ⟨q, rfl, hq⟩ := rep_dF hv
    refine' ⟨_, ?D, ?R⟩
    case D =>
      refine' pss_cons ?g1 ?g2
      case g1 =>
        refine' ps_if ?g3 ?g4 ?g5
        case g3 =>
          refine' PW.pt ?g6
          case g6 =>
            refine' pw_or ?g7 ?g8
            case g7 =>
              refine' pt_not ?g9
              case g9 =>
                refine' pt_val ?g10
                case g10 =>
                  refine' pe_callE call_isi gk__law_is_fraction_isinstance T.n_isinstance bt_isinstance ?g11
                  case g11 =>
                    refine' pa_c ?g12 ?g13
                    case g12 => exact pv1 0 rfl lk__law_is_fraction_0
                    case g13 =>
                      refine' pa_c ?g14 ?g15
                      case g14 => exact pe_bty gk__law_is_fraction_tuple T.n_tuple bt_tuple
                      case g15 => exact pa_nil
            case g8 =>
              refine' pw_or ?g16 ?g17
              case g16 =>
                refine' pt_cmpR op_ne ?g18 ?g19 (nomark _)
                case g18 =>
                  refine' pe_callE call_lenH gk__law_is_fraction_len T.n_len bt_len ?g20
                  case g20 =>
                    refine' pa_c ?g21 ?g22
                    case g21 => exact pv1 0 rfl lk__law_is_fraction_0
                    case g22 => exact pa_nil
                case g19 => exact pe_int
              case g17 =>
                refine' pw_or ?g23 ?g24
                case g23 =>
                  refine' pt_not ?g25
                  case g25 =>
                    refine' pt_val ?g26
                    case g26 =>
                      refine' pe_callD C__law_whole (hr.mono (by decide)) gk__law_is_fraction__law_whole ?g27
                      case g27 =>
                        refine' pa_c ?g28 ?g29
                        case g28 =>
                          refine' pe_ix ix_tupH ?g30 ?g31 (fun _ _ => rfl)
                          case g30 => exact pv1 0 rfl lk__law_is_fraction_0
                          case g31 => exact pe_int
                        case g29 => exact pa_nil
                case g24 =>
                  refine' pw_or1 ?g32
                  case g32 =>
                    refine' pt_not ?g33
                    case g33 =>
                      refine' pt_val ?g34
                      case g34 =>
                        refine' pe_callD C__law_whole (hr.mono (by decide)) gk__law_is_fraction__law_whole ?g35
                        case g35 =>
                          refine' pa_c ?g36 ?g37
                          case g36 =>
                            refine' pe_ix ix_tupH ?g38 ?g39 (fun _ _ => rfl)
                            case g38 => exact pv1 0 rfl lk__law_is_fraction_0
                            case g39 => exact pe_int
                          case g37 => exact pa_nil
        case g4 =>
          refine' pss_one ?g40
          case g40 =>
            refine' ps_ret ?g41
            case g41 => exact pe_bl
        case g5 => exact pss_nil
      case g2 =>
        refine' pss_one ?g42
        case g42 =>
          refine' ps_ret ?g43
          case g43 =>
            refine' pe_and ?g44 ?g45
            case g44 =>
              refine' pe_cmpR op_gt ?g46 ?g47 (nomark _)
              case g46 =>
                refine' pe_ix ix_tupH ?g48 ?g49 (fun _ _ => rfl)
                case g48 => exact pv1 0 rfl lk__law_is_fraction_0
                case g49 => exact pe_int
              case g47 => exact pe_int
            case g45 =>
              refine' pe_one ?g50
              case g50 =>
                refine' pe_cmpR (op_eqD (hr.units)) ?g51 ?g52 (nomark _)
                case g51 => exact pv1 0 rfl lk__law_is_fraction_0
                case g52 =>
                  refine' pe_callD C__law_low (hr.mono (by decide)) gk__law_is_fraction__law_low ?g53
                  case g53 =>
                    refine' pa_c ?g54 ?g55
                    case g54 =>
                      refine' pe_ix ix_tupH ?g56 ?g57 (fun _ _ => rfl)
                      case g56 => exact pv1 0 rfl lk__law_is_fraction_0
                      case g57 => exact pe_int
                    case g55 =>
                      refine' pa_c ?g58 ?g59
                      case g58 =>
                        refine' pe_ix ix_tupH ?g60 ?g61 (fun _ _ => rfl)
                        case g60 => exact pv1 0 rfl lk__law_is_fraction_0
                        case g61 => exact pe_int
                      case g59 => exact pa_nil
    case R =>
      walk_at "rd"
      have hk : kindV H (.ref q) = some "tuple" := by simp [kindV, hq]
      refine ⟨_, hk, ?_⟩
      rw [if_neg (by decide)]
      refine ⟨_, .inr hq, ?_⟩
      rw [if_neg (by simp)]
      simp only [hq, Option.some.injEq, HO.tup.injEq, exists_eq_left']
      walk_at "rd"
      refine ⟨_, "int", rfl, rfl, fun H1 s1 => ⟨_, rfl, ?_⟩⟩
      rw [if_neg (by decide)]
      have hq1 := s1 _ _ hq
      simp only [hq1, Option.some.injEq, HO.tup.injEq, exists_eq_left']
      walk_at "rd"
      refine ⟨_, "int", rfl, rfl, fun H2 s2 => ⟨_, rfl, ?_⟩⟩
      rw [if_neg (by decide)]
      have hq2 := s2 _ _ hq1
      have p0 := lo.pos
      try walk_at "rd"
      simp only [hq2, Option.some.injEq, HO.tup.injEq, exists_eq_left']
      walk_at "rd"
      rw [if_pos p0]
      refine ⟨_, _, rfl, p0, bb, fun z H3 s3 rep => ?_⟩
      rw [nf_of_low lo] at rep
      refine ⟨q, z, dF p, dF p, true, rfl, rfl, Rep.mono ((s1.trans s2).trans s3) _ hv, Rep.mono newH_same _ rep, by simp [deq, deqs, dF], by simp [dep, deps, dF], k _ ((s1.trans s2).trans s3)⟩
end Rim47
set_option Elab.async false
set_option linter.all false
set_option maxRecDepth 100000
set_option maxHeartbeats 4000000
namespace Rim47
open PySem PySem.Spec PyProof.Rows L2 RimM RimD
local macro_rules | `(tactic| walk_at "rd") => `(tactic| first | (dsimp only [tSeq, tAsg, gName, tTup, tLst, tCons, tNil, tVar, tC, tCB, tOp, rI, rI0, tTest, tIfS, tNext, tRet, tRetN, tDrop, tB, tAnd, tOr, tNot, tAndV, tOrV, tNotV, rU, tUn, tBM0, tBM, rBits, tCall, L2.start, rIxTH, rIxLH, rLenH, rEqTH, rEq, rNe, CMul, CMulB, CDivB, CDivF, CPow, List.map_cons, List.map_nil, List.length_cons, List.length_nil, List.replicate, List.cons_append, List.nil_append, List.set_cons_zero, List.set_cons_succ, List.getElem?_cons_zero, List.getElem?_cons_succ, gSub, rSetL, rCat, iRng1, tPar, iList, tComp, pick, tYes, iZip, gTup, gCons, gNil, rSum, rListH, List.map, iRng2, iRngD, tSl, rSlH, tPart, tNoPart, tPar3, tIf, tRev, tLRange, rIxT, rPopAt]; try simp only [tSeq, tAsg, gName, tTup, tLst, tCons, tNil, tVar, tC, tCB, tOp, rI, rI0, tTest, tIfS, tNext, tRet, tRetN, tDrop, tB, tAnd, tOr, tNot, tAndV, tOrV, tNotV, rU, tUn, tBM0, tBM, rBits, tCall, L2.start, rIxTH, rIxLH, rLenH, rEqTH, rEq, rNe, scal, tyV, CMul, CMulB, CDivB, CDivF, CPow, List.map_cons, List.map_nil, List.length_cons, List.length_nil, List.replicate, List.cons_append, List.nil_append, List.append_nil, List.set_cons_zero, List.set_cons_succ, List.getElem?_cons_zero, List.getElem?_cons_succ, Option.some.injEq, List.cons.injEq, V.int.injEq, V.bl.injEq, V.str.injEq, V.ref.injEq, V.ty.injEq, HO.tup.injEq, HO.lst.injEq, exists_eq_left, exists_eq_left', exists_and_left, and_assoc, and_true, true_and, upd_same, atI_0, atI_1, atI_2, Nat.zero_add, Nat.reduceAdd, Nat.reduceSub, decide_eq_true_eq, Bool.not_eq_true', decide_eq_false_iff_not, reduceCtorEq, false_or, or_false, true_or, or_true, plainT_int, plainT_bool, plainT_tuple, plainT_list, plainT_str, Bool.false_eq_true, if_false, if_true, Bool.not_false, Bool.not_true, Bool.not_not, gSub, rSetL, ixN_00, upd_upd, rCat, iRng1, tFor_eq, tPar, iList, tComp, pick, tYes, iZip, gTup, gCons, gNil, rSum, rListH, List.map, Option.bind, iRng2, iRngD, tSl, rSlH, tPart, tNoPart, tPar3, tIf, tRev, tLRange, rIxT, rPopAt]) | simp only [tSeq, tAsg, gName, tTup, tLst, tCons, tNil, tVar, tC, tCB, tOp, rI, rI0, tTest, tIfS, tNext, tRet, tRetN, tDrop, tB, tAnd, tOr, tNot, tAndV, tOrV, tNotV, rU, tUn, tBM0, tBM, rBits, tCall, L2.start, rIxTH, rIxLH, rLenH, rEqTH, rEq, rNe, scal, tyV, CMul, CMulB, CDivB, CDivF, CPow, List.map_cons, List.map_nil, List.length_cons, List.length_nil, List.replicate, List.cons_append, List.nil_append, List.append_nil, List.set_cons_zero, List.set_cons_succ, List.getElem?_cons_zero, List.getElem?_cons_succ, Option.some.injEq, List.cons.injEq, V.int.injEq, V.bl.injEq, V.str.injEq, V.ref.injEq, V.ty.injEq, HO.tup.injEq, HO.lst.injEq, exists_eq_left, exists_eq_left', exists_and_left, and_assoc, and_true, true_and, upd_same, atI_0, atI_1, atI_2, Nat.zero_add, Nat.reduceAdd, Nat.reduceSub, decide_eq_true_eq, Bool.not_eq_true', decide_eq_false_iff_not, reduceCtorEq, false_or, or_false, true_or, or_true, plainT_int, plainT_bool, plainT_tuple, plainT_list, plainT_str, Bool.false_eq_true, if_false, if_true, Bool.not_false, Bool.not_true, Bool.not_not, gSub, rSetL, ixN_00, upd_upd, rCat, iRng1, tFor_eq, tPar, iList, tComp, pick, tYes, iZip, gTup, gCons, gNil, rSum, rListH, List.map, Option.bind, iRng2, iRngD, tSl, rSlH, tPart, tNoPart, tPar3, tIf, tRev, tLRange, rIxT, rPopAt])
variable {P : Program} {w : World} {K : PySem.W.Frag} {mg : Str → Option Value} {base : Heap}
theorem nf_top_le {t b : Int} (hb : 0 < b) : (nf t b).1.natAbs ≤ t.natAbs ∧ (nf t b).2.natAbs ≤ b.natAbs := by
  rw [nf_pos hb]
  exact ⟨by have := Int.natAbs_ediv_le_natAbs t (Int.gcd t b : Int); omega, by have := Int.natAbs_ediv_le_natAbs b (Int.gcd t b : Int); omega⟩
structure Dr (p : Int × Int) : Prop where
  pos : 0 < p.2
  top : p.1.natAbs ≤ 10 ^ 12
  bot : p.2 ≤ 10 ^ 6
theorem sm_nf {t b : Int} (hb : 0 < b) (ht : t.natAbs ≤ 10 ^ 12) (hb2 : b ≤ 10 ^ 6) : Dr (nf t b) ∧ Low (nf t b) := by
  have l := (nf_low (t := t) (b := b) (by omega)).1
  obtain ⟨h1, h2⟩ := nf_top_le (t := t) hb
  have := l.pos
  exact ⟨⟨l.pos, by omega, by omega⟩, l⟩
theorem Dr.sm {p : Int × Int} (h : Dr p) : Sm p := by
  have h0 := h.pos
  have h1 := h.top
  have h2 := h.bot
  exact ⟨h0, PyProof.Rows.bits_of_natAbs_le (b := 10 ^ 12) (by omega) (by decide +kernel), PyProof.Rows.bits_of_natAbs_le (b := 10 ^ 6) (by omega) (by decide +kernel)⟩
def But (l : Addr) (H H' : Hp) : Prop := ∀ b o, b ≠ l → H b = some o → H' b = some o
theorem But.refl (l : Addr) (H : Hp) : But l H H := fun _ _ _ h => h
theorem But.trans {l : Addr} {H H1 H2 : Hp} (a : But l H H1) (b : But l H1 H2) : But l H H2 := fun c o n h => b c o n (a c o n h)
theorem But.of {l : Addr} {H H' : Hp} (s : Same H H') : But l H H' := fun b o _ h => s b o h
theorem But.upd {l : Addr} {H H' : Hp} {o : HO} (a : But l H H') : But l H (L2.upd H' l o) := fun b z n h => by rw [upd_ne n]; exact a b z n h
abbrev s__law_number_of : Stmt := PySem.Challenge.pw_rimread_k47_minors.main.body.getD 32 (.Pass ⟨0, 0, 0, 0⟩)
theorem sc__law_number_of : FnScope ["_law_rest", "_law_kind", "_law_sign"] ["_law_rest", "_law_kind"] (defScope s__law_number_of) := ⟨rfl, rfl, rfl, by decide +kernel, rfl, by decide +kernel, by decide +kernel⟩
theorem lk__law_number_of_0 : (defScope s__law_number_of).names.lookup ("_law_rest" : Str) = some PySem.NameKind.local := by decide +kernel
theorem lk__law_number_of_1 : (defScope s__law_number_of).names.lookup ("_law_kind" : Str) = some PySem.NameKind.local := by decide +kernel
theorem lk__law_number_of_2 : (defScope s__law_number_of).names.lookup ("_law_sign" : Str) = some PySem.NameKind.local := by decide +kernel
theorem gk__law_number_of__law_digit : (defScope s__law_number_of).names.lookup ("_law_digit" : Str) = some PySem.NameKind.globalImplicit := by decide +kernel
theorem gk__law_number_of__law_low : (defScope s__law_number_of).names.lookup ("_law_low" : Str) = some PySem.NameKind.globalImplicit := by decide +kernel
def sp_num : Sp := fun vs H Q _ => ∃ (l : Addr) (r k : Int), vs = [.ref l, .int k] ∧ H l = some (.lst [.int r]) ∧ ∀ q p r' H', But l H H' → H' l = some (.lst [.int r']) → H q = none → H' q = some (.tup [.int p.1, .int p.2]) → Dr p → Low p → Q (.ref q) H'
theorem ok__law_number_of (T : Txt K mg) (F : Fn0 K mg "_law_number_of" s__law_number_of) (C__law_digit : Cal P w K mg base "_law_digit" ["_law_rest", "_law_many"] 1 sp_digit) (C__law_low : Cal P w K mg base "_law_low" ["_law_top", "_law_bottom"] 1 sp_low) : Cal P w K mg base "_law_number_of" ["_law_rest", "_law_kind"] 2 sp_num := by
  refine cal_of F sc__law_number_of (fun _ _ _ _ _ _ us hl => match us, hl with | [_, _], _ => rfl) ?len ?body
  case len => rintro vs H Q E ⟨a, b, c, rfl, _⟩; rfl
  case body =>
    intro f cdv A outer s H vs Q E hr h
    obtain ⟨l, r, kk, rfl, hl, k⟩ := h
    have fin : ∀ (t b : Int) (r' : Int) (z : Addr) (H' : Hp), 0 < b → t.natAbs ≤ 10 ^ 12 → b ≤ 10 ^ 6 → Same (upd H l (.lst [.int r'])) H' → Rep (newH (upd H l (.lst [.int r'])) H') (.ref z) (dF (nf t b)) → Q (.ref z) H' := fun t b r' z H' hb ht hb2 s' rep => by
      obtain ⟨sm, lo⟩ := sm_nf hb ht hb2
      obtain ⟨_, e, hz⟩ := rep_dF rep
      cases e
      obtain ⟨z1, z2⟩ := newH_of hz
      have zl : z ≠ l := fun e => by rw [e, upd_same] at z1; cases z1
      rw [upd_ne zl] at z1
      exact k z _ r' H' (fun b o n h => s' b o (by rw [upd_ne n]; exact h)) (s' _ _ upd_same) z1 z2 sm lo
    refine' ⟨_, ?D, ?R⟩
    case D =>
      refine' pss_cons ?g1 ?g2
      case g1 =>
        refine' ps_set1 (i := 2) sc__law_number_of.nd rfl lk__law_number_of_2 ?g3
        case g3 =>
          refine' pe_op op_sub ?g4 ?g5
          case g4 => exact pe_int
          case g5 =>
            refine' pe_op op_mul ?g6 ?g7
            case g6 => exact pe_int
            case g7 =>
              refine' pe_callD C__law_digit (hr.mono (by decide)) gk__law_number_of__law_digit ?g8
              case g8 =>
                refine' pa_c ?g9 ?g10
                case g9 => exact pv1 0 rfl lk__law_number_of_0
                case g10 =>
                  refine' pa_c ?g11 ?g12
                  case g11 => exact pe_int
                  case g12 => exact pa_nil
      case g2 =>
        refine' pss_cons ?g13 ?g14
        case g13 =>
          refine' ps_if ?g15 ?g16 ?g17
          case g15 =>
            refine' pt_cmpR op_eq ?g18 ?g19 (nomark _)
            case g18 => exact pv1 1 rfl lk__law_number_of_1
            case g19 => exact pe_int
          case g16 =>
            refine' pss_one ?g20
            case g20 =>
              refine' ps_ret ?g21
              case g21 =>
                refine' pe_callD C__law_low (hr.mono (by decide)) gk__law_number_of__law_low ?g22
                case g22 =>
                  refine' pa_c ?g23 ?g24
                  case g23 =>
                    refine' pe_op op_mul ?g25 ?g26
                    case g25 => exact pv1 2 rfl lk__law_number_of_2
                    case g26 =>
                      refine' pe_callD C__law_digit (hr.mono (by decide)) gk__law_number_of__law_digit ?g27
                      case g27 =>
                        refine' pa_c ?g28 ?g29
                        case g28 => exact pv1 0 rfl lk__law_number_of_0
                        case g29 =>
                          refine' pa_c ?g30 ?g31
                          case g30 =>
                            refine' pe_op op_pow ?g32 ?g33
                            case g32 => exact pe_int
                            case g33 => exact pe_int
                          case g31 => exact pa_nil
                  case g24 =>
                    refine' pa_c ?g34 ?g35
                    case g34 =>
                      refine' pe_op op_add ?g36 ?g37
                      case g36 => exact pe_int
                      case g37 =>
                        refine' pe_callD C__law_digit (hr.mono (by decide)) gk__law_number_of__law_digit ?g38
                        case g38 =>
                          refine' pa_c ?g39 ?g40
                          case g39 => exact pv1 0 rfl lk__law_number_of_0
                          case g40 =>
                            refine' pa_c ?g41 ?g42
                            case g41 =>
                              refine' pe_op op_pow ?g43 ?g44
                              case g43 => exact pe_int
                              case g44 => exact pe_int
                            case g42 => exact pa_nil
                    case g35 => exact pa_nil
          case g17 => exact pss_nil
        case g14 =>
          refine' pss_cons ?g45 ?g46
          case g45 =>
            refine' ps_if ?g47 ?g48 ?g49
            case g47 =>
              refine' pt_cmpR op_eq ?g50 ?g51 (nomark _)
              case g50 => exact pv1 1 rfl lk__law_number_of_1
              case g51 => exact pe_int
            case g48 =>
              refine' pss_one ?g52
              case g52 =>
                refine' ps_ret ?g53
                case g53 =>
                  refine' pe_tup ?g54
                  case g54 =>
                    refine' pa_c ?g55 ?g56
                    case g55 =>
                      refine' pe_op op_mul ?g57 ?g58
                      case g57 => exact pv1 2 rfl lk__law_number_of_2
                      case g58 =>
                        refine' pe_callD C__law_digit (hr.mono (by decide)) gk__law_number_of__law_digit ?g59
                        case g59 =>
                          refine' pa_c ?g60 ?g61
                          case g60 => exact pv1 0 rfl lk__law_number_of_0
                          case g61 =>
                            refine' pa_c ?g62 ?g63
                            case g62 => exact pe_int
                            case g63 => exact pa_nil
                    case g56 =>
                      refine' pa_c ?g64 ?g65
                      case g64 => exact pe_int
                      case g65 => exact pa_nil
            case g49 => exact pss_nil
          case g46 =>
            refine' pss_one ?g66
            case g66 =>
              refine' ps_ret ?g67
              case g67 =>
                refine' pe_callD C__law_low (hr.mono (by decide)) gk__law_number_of__law_low ?g68
                case g68 =>
                  refine' pa_c ?g69 ?g70
                  case g69 =>
                    refine' pe_op op_mul ?g71 ?g72
                    case g71 => exact pv1 2 rfl lk__law_number_of_2
                    case g72 =>
                      refine' pe_callD C__law_digit (hr.mono (by decide)) gk__law_number_of__law_digit ?g73
                      case g73 =>
                        refine' pa_c ?g74 ?g75
                        case g74 => exact pv1 0 rfl lk__law_number_of_0
                        case g75 =>
                          refine' pa_c ?g76 ?g77
                          case g76 => exact pe_int
                          case g77 => exact pa_nil
                  case g70 =>
                    refine' pa_c ?g78 ?g79
                    case g78 =>
                      refine' pe_op op_add ?g80 ?g81
                      case g80 => exact pe_int
                      case g81 =>
                        refine' pe_callD C__law_digit (hr.mono (by decide)) gk__law_number_of__law_digit ?g82
                        case g82 =>
                          refine' pa_c ?g83 ?g84
                          case g83 => exact pv1 0 rfl lk__law_number_of_0
                          case g84 =>
                            refine' pa_c ?g85 ?g86
                            case g85 => exact pe_int
                            case g86 => exact pa_nil
                    case g79 => exact pa_nil
    case R =>
      walk_at "rd"
      refine ⟨l, r, 2, rfl, hl, by decide, by decide +kernel, ?_⟩
      walk_at "rd"
      have d2 := Int.emod_nonneg r (show (2 : Int) ≠ 0 by decide)
      have d3 := Int.emod_lt_of_pos r (show (0 : Int) < 2 by decide)
      have sb : -(2 : Int) ^ 64 < 1 - 2 * (r % 2) ∧ 1 - 2 * (r % 2) < 2 ^ 64 := by omega
      have ab : ∀ x : Int, ((1 - 2 * (r % 2)) * x).natAbs = x.natAbs := fun x => by
        have : r % 2 = 0 ∨ r % 2 = 1 := by omega
        rcases this with e | e <;> rw [e] <;> omega
      refine ⟨.inl ⟨by decide, by decide⟩, ?_⟩
      refine ite2 (fun _ => ⟨by decide, by decide, by decide, l, r / 2, _, rfl, upd_same, by decide, by decide +kernel, _, rfl, .inl sb, by decide, by decide, by decide, l, _, _, rfl, upd_same, by decide, by decide +kernel, _, rfl, _, _, rfl, ?_, ?_, fun z H' s' rep => ?_⟩) (fun _ => ite2 (fun _ => ?_) (fun _ => ?_))
      · have h1 := Int.emod_nonneg (r / 2 / 10 ^ Int.toNat 12) (show (10 : Int) ^ Int.toNat 6 ≠ 0 by decide)
        omega
      · have h1 := Int.emod_nonneg (r / 2 / 10 ^ Int.toNat 12) (show (10 : Int) ^ Int.toNat 6 ≠ 0 by decide)
        have h2 := Int.emod_lt_of_pos (r / 2 / 10 ^ Int.toNat 12) (show (0 : Int) < 10 ^ Int.toNat 6 by decide)
        refine PyProof.Rows.bits_of_natAbs_le (b := 10 ^ 6) ?_ (by decide +kernel)
        have e : (10 : Int) ^ Int.toNat 6 = 1000000 := by decide
        rw [e] at h1 h2 ⊢
        omega
      · rw [upd_upd, upd_upd] at s' rep
        have h1 := Int.emod_nonneg (r / 2 / 10 ^ Int.toNat 12) (show (10 : Int) ^ Int.toNat 6 ≠ 0 by decide)
        have h2 := Int.emod_lt_of_pos (r / 2 / 10 ^ Int.toNat 12) (show (0 : Int) < 10 ^ Int.toNat 6 by decide)
        have h3 := Int.emod_nonneg (r / 2) (show (10 : Int) ^ Int.toNat 12 ≠ 0 by decide)
        have h4 := Int.emod_lt_of_pos (r / 2) (show (0 : Int) < 10 ^ Int.toNat 12 by decide)
        have e : (10 : Int) ^ Int.toNat 6 = 1000000 := by decide
        have e' : (10 : Int) ^ Int.toNat 12 = 1000000000000 := by decide
        rw [e] at h1 h2
        rw [e'] at h3 h4
        refine fin _ _ _ z H' ?_ ?_ ?_ s' rep
        · rw [e]; omega
        · rw [ab, e']; omega
        · rw [e]; omega
      · refine ⟨l, r / 2, _, rfl, upd_same, by decide, by decide +kernel, _, rfl, .inl sb, by decide, fun z hz => ?_⟩
        rw [upd_upd] at hz ⊢
        have h3 := Int.emod_nonneg (r / 2) (show (3 : Int) ≠ 0 by decide)
        have h4 := Int.emod_lt_of_pos (r / 2) (show (0 : Int) < 3 by decide)
        refine fin ((1 - 2 * (r % 2)) * (r / 2 % 3)) 1 _ z _ (by decide) (by rw [ab]; omega) (by decide) (Same.new hz) ⟨z, _, rfl, ?_, _, _, rfl, rfl, _, _, rfl, rfl, rfl⟩
        rw [newH_at hz, upd_same]
        have : nf ((1 - 2 * (r % 2)) * (r / 2 % 3)) 1 = ((1 - 2 * (r % 2)) * (r / 2 % 3), 1) := nf_of_low (p := ((1 - 2 * (r % 2)) * (r / 2 % 3), 1)) ⟨by show (0 : Int) < 1; decide, by simp⟩
        rw [this]
      · refine ⟨l, r / 2, _, rfl, upd_same, by decide, by decide +kernel, _, rfl, .inl sb, l, _, _, rfl, upd_same, by decide, by decide +kernel, _, rfl, _, _, rfl, ?_, ?_, fun z H' s' rep => ?_⟩
        · omega
        · exact PyProof.Rows.bits_of_natAbs_le (b := 10 ^ 6) (by omega) (by decide +kernel)
        · rw [upd_upd, upd_upd] at s' rep
          exact fin _ _ _ z H' (by omega) (by rw [ab]; omega) (by omega) s' rep
theorem bits_2 {x y : Int} {n m : Nat} (hx : Builtin.Int.intBits x ≤ n) (hy : Builtin.Int.intBits y ≤ m) (h : n + m ≤ 9000) : Builtin.Int.intBits (x * y) ≤ n + m ∧ Builtin.Int.intBits x + Builtin.Int.intBits y ≤ 134217728 := ⟨PyProof.Rows.bits_mul hx hy, by omega⟩
def sp_two (t : Int × Int → Int × Int → Int) : Sp := fun vs H Q _ => ∃ v u p q, vs = [v, u] ∧ Rep H v (dF p) ∧ Rep H u (dF q) ∧ 0 < p.2 ∧ 0 < q.2 ∧ Builtin.Int.intBits p.1 ≤ 2000 ∧ Builtin.Int.intBits p.2 ≤ 2000 ∧ Builtin.Int.intBits q.1 ≤ 2000 ∧ Builtin.Int.intBits q.2 ≤ 2000 ∧
  ∀ z H', Same H H' → Rep (newH H H') (.ref z) (dF (nf (t p q) (p.2 * q.2))) → Q (.ref z) H'
abbrev s__law_add : Stmt := PySem.Challenge.pw_rimread_k47_minors.main.body.getD 26 (.Pass ⟨0, 0, 0, 0⟩)
theorem sc__law_add : FnScope ["_law_one", "_law_other"] ["_law_one", "_law_other"] (defScope s__law_add) := ⟨rfl, rfl, rfl, by decide +kernel, rfl, by decide +kernel, by decide +kernel⟩
theorem lk__law_add_0 : (defScope s__law_add).names.lookup ("_law_one" : Str) = some PySem.NameKind.local := by decide +kernel
theorem lk__law_add_1 : (defScope s__law_add).names.lookup ("_law_other" : Str) = some PySem.NameKind.local := by decide +kernel
theorem gk__law_add__law_low : (defScope s__law_add).names.lookup ("_law_low" : Str) = some PySem.NameKind.globalImplicit := by decide +kernel
theorem ok__law_add (T : Txt K mg) (F : Fn0 K mg "_law_add" s__law_add) (C__law_low : Cal P w K mg base "_law_low" ["_law_top", "_law_bottom"] 1 sp_low) : Cal P w K mg base "_law_add" ["_law_one", "_law_other"] 2 (sp_two (fun p q => p.1 * q.2 + q.1 * p.2)) := by
  refine cal_of F sc__law_add (fun _ _ _ _ _ _ us hl => match us, hl with | [_, _], _ => rfl) ?len ?body
  case len => rintro vs H Q E ⟨a, b, c, d, rfl, _⟩; rfl
  case body =>
    intro f cdv A outer s H vs Q E hr h
    obtain ⟨v, u, p, q, rfl, hv, hu, p0, q0, p1, p2, q1, q2, k⟩ := h
    obtain ⟨x, rfl, hx⟩ := rep_dF hv
    obtain ⟨y, rfl, hy⟩ := rep_dF hu
    have a3 := bits_2 p2 q2 (by decide)
    refine' ⟨_, ?D, ?R⟩
    case D =>
      refine' pss_one ?g1
      case g1 =>
        refine' ps_ret ?g2
        case g2 =>
          refine' pe_callD C__law_low (hr.mono (by decide)) gk__law_add__law_low ?g3
          case g3 =>
            refine' pa_c ?g4 ?g5
            case g4 =>
              refine' pe_op op_add ?g6 ?g7
              case g6 =>
                refine' pe_op op_mulB ?g8 ?g9
                case g8 =>
                  refine' pe_ix ix_tupH ?g10 ?g11 (fun _ _ => rfl)
                  case g10 => exact pv1 0 rfl lk__law_add_0
                  case g11 => exact pe_int
                case g9 =>
                  refine' pe_ix ix_tupH ?g12 ?g13 (fun _ _ => rfl)
                  case g12 => exact pv1 1 rfl lk__law_add_1
                  case g13 => exact pe_int
              case g7 =>
                refine' pe_op op_mulB ?g14 ?g15
                case g14 =>
                  refine' pe_ix ix_tupH ?g16 ?g17 (fun _ _ => rfl)
                  case g16 => exact pv1 1 rfl lk__law_add_1
                  case g17 => exact pe_int
                case g15 =>
                  refine' pe_ix ix_tupH ?g18 ?g19 (fun _ _ => rfl)
                  case g18 => exact pv1 0 rfl lk__law_add_0
                  case g19 => exact pe_int
            case g5 =>
              refine' pa_c ?g20 ?g21
              case g20 =>
                refine' pe_op op_mulB ?g22 ?g23
                case g22 =>
                  refine' pe_ix ix_tupH ?g24 ?g25 (fun _ _ => rfl)
                  case g24 => exact pv1 0 rfl lk__law_add_0
                  case g25 => exact pe_int
                case g23 =>
                  refine' pe_ix ix_tupH ?g26 ?g27 (fun _ _ => rfl)
                  case g26 => exact pv1 1 rfl lk__law_add_1
                  case g27 => exact pe_int
              case g21 => exact pa_nil
    case R =>
      walk_at "rd"
      simp only [hx, hy, Option.some.injEq, HO.tup.injEq, exists_eq_left']
      walk_at "rd"
      exact ⟨by omega, by omega, by omega, _, _, rfl, Int.mul_pos p0 q0, by omega, fun z H' s' rep => k z H' s' rep⟩
abbrev s__law_mul : Stmt := PySem.Challenge.pw_rimread_k47_minors.main.body.getD 27 (.Pass ⟨0, 0, 0, 0⟩)
theorem sc__law_mul : FnScope ["_law_one", "_law_other"] ["_law_one", "_law_other"] (defScope s__law_mul) := ⟨rfl, rfl, rfl, by decide +kernel, rfl, by decide +kernel, by decide +kernel⟩
theorem lk__law_mul_0 : (defScope s__law_mul).names.lookup ("_law_one" : Str) = some PySem.NameKind.local := by decide +kernel
theorem lk__law_mul_1 : (defScope s__law_mul).names.lookup ("_law_other" : Str) = some PySem.NameKind.local := by decide +kernel
theorem gk__law_mul__law_low : (defScope s__law_mul).names.lookup ("_law_low" : Str) = some PySem.NameKind.globalImplicit := by decide +kernel
theorem ok__law_mul (T : Txt K mg) (F : Fn0 K mg "_law_mul" s__law_mul) (C__law_low : Cal P w K mg base "_law_low" ["_law_top", "_law_bottom"] 1 sp_low) : Cal P w K mg base "_law_mul" ["_law_one", "_law_other"] 2 (sp_two (fun p q => p.1 * q.1)) := by
  refine cal_of F sc__law_mul (fun _ _ _ _ _ _ us hl => match us, hl with | [_, _], _ => rfl) ?len ?body
  case len => rintro vs H Q E ⟨a, b, c, d, rfl, _⟩; rfl
  case body =>
    intro f cdv A outer s H vs Q E hr h
    obtain ⟨v, u, p, q, rfl, hv, hu, p0, q0, p1, p2, q1, q2, k⟩ := h
    obtain ⟨x, rfl, hx⟩ := rep_dF hv
    obtain ⟨y, rfl, hy⟩ := rep_dF hu
    have a3 := bits_2 p2 q2 (by decide)
    refine' ⟨_, ?D, ?R⟩
    case D =>
      refine' pss_one ?g1
      case g1 =>
        refine' ps_ret ?g2
        case g2 =>
          refine' pe_callD C__law_low (hr.mono (by decide)) gk__law_mul__law_low ?g3
          case g3 =>
            refine' pa_c ?g4 ?g5
            case g4 =>
              refine' pe_op op_mulB ?g6 ?g7
              case g6 =>
                refine' pe_ix ix_tupH ?g8 ?g9 (fun _ _ => rfl)
                case g8 => exact pv1 0 rfl lk__law_mul_0
                case g9 => exact pe_int
              case g7 =>
                refine' pe_ix ix_tupH ?g10 ?g11 (fun _ _ => rfl)
                case g10 => exact pv1 1 rfl lk__law_mul_1
                case g11 => exact pe_int
            case g5 =>
              refine' pa_c ?g12 ?g13
              case g12 =>
                refine' pe_op op_mulB ?g14 ?g15
                case g14 =>
                  refine' pe_ix ix_tupH ?g16 ?g17 (fun _ _ => rfl)
                  case g16 => exact pv1 0 rfl lk__law_mul_0
                  case g17 => exact pe_int
                case g15 =>
                  refine' pe_ix ix_tupH ?g18 ?g19 (fun _ _ => rfl)
                  case g18 => exact pv1 1 rfl lk__law_mul_1
                  case g19 => exact pe_int
              case g13 => exact pa_nil
    case R =>
      walk_at "rd"
      simp only [hx, hy, Option.some.injEq, HO.tup.injEq, exists_eq_left']
      walk_at "rd"
      exact ⟨by omega, by omega, _, _, rfl, Int.mul_pos p0 q0, by omega, fun z H' s' rep => k z H' s' rep⟩
theorem comp_drawD {lo : Int} {g : TG} {te : TE} {σ : L2.St} {H : Hp} {Q : VK} (n : Nat) (l : Addr) (r0 : Int) (Pσ : L2.St → Prop) (h0 : Pσ σ) (hz : n ≤ 1000) (hl : H l = some (.lst [.int r0])) (PF : Dt → Prop)
    (hs : ∀ D (i : Nat) σ' H' r, H D = none → (∃ o, H' D = some o) → But l H H' → H' l = some (.lst [.int r]) → i < n → Pσ σ' → ∀ R : L2.St → V → Hp → Prop,
      (∀ σ2 v d r' H3, Pσ σ2 → But l H' H3 → H3 l = some (.lst [.int r']) → Rep (newH H' H3) v d → PF d → R σ2 v H3) → g (.int (lo + i)) σ' H' fun σ2 H2 => te σ2 H2 fun v H3 => R σ2 v H3)
    (hd : ∀ D H' r xs ds, H D = none → But l H H' → H' l = some (.lst [.int r]) → ds.length = n → (∀ d ∈ ds, PF d) → H' D = some (.lst xs) → Reps (cutH H D H') xs ds → Q (.ref D) H') : CompGo (Itr lo n) g tYes te σ H Q := by
  intro D hD
  have hDl : D ≠ l := (ne_of_none hl hD).symm
  refine ⟨fun i m σ' H' => m = n - i ∧ i ≤ n ∧ Pσ σ' ∧ But l H H' ∧ (∃ r, H' l = some (.lst [.int r])) ∧ ∃ (ys : List V) (ds : List Dt), H' D = some (.lst ys) ∧ Reps (cutH H D H') ys ds ∧ ds.length = i ∧ (∀ d ∈ ds, PF d), ⟨n, by simp, Nat.zero_le _, h0, But.of (Same.new hD), ⟨r0, (Same.new hD) _ _ hl⟩, [], [], upd_same, rfl, rfl, by simp⟩, ?_⟩
  rintro i m σ' H' ⟨rfl, hi, hp, hb, ⟨r, hr⟩, ys, ds, hys, hrep, hpl, hpf⟩
  have hyl : ys.length = i := by rw [hrep.length, hpl]
  by_cases hlt : i < n
  · refine .inr ⟨hlt, fun σ2 H2 => Pσ σ2 ∧ But l H H2 ∧ (∃ r, H2 l = some (.lst [.int r])) ∧ ∃ (ys : List V) (ds : List Dt), H2 D = some (.lst ys) ∧ Reps (cutH H D H2) ys ds ∧ ds.length = i + 1 ∧ (∀ d ∈ ds, PF d), fun σ2 H2 ⟨a, b, c⟩ => ⟨n - (i + 1), by omega, rfl, hlt, a, b, c⟩, fun x H'' hy => ?_⟩
    obtain ⟨e1, e2⟩ := hy
    subst e1 e2
    simp only [tYes, if_true]
    refine hs D i σ' _ r hD ⟨_, hys⟩ hb hr hlt hp _ fun σ2 v d r' H3 hp2 b3 hl3 rep pf => ?_
    refine ⟨ys, b3 _ _ hDl hys, by rw [hyl]; exact small1000 (by omega), hp2, fun b o n h => ?_, ⟨r', by rw [upd_ne hDl.symm]; exact hl3⟩, ys ++ [v], ds ++ [d], upd_same, ?_, by simp [hpl], fun z hz => ?_⟩
    · rw [upd_ne (ne_of_none h hD)]
      exact b3 b o n (hb b o n h)
    · rw [cutH_upd]
      refine (Reps.mono (fun b o h => ?_) _ hrep).append ⟨v, [], rfl, Rep.mono (fun b o h => ?_) _ rep, rfl⟩
      · obtain ⟨z1, z2, z3⟩ := cutH_of h
        rw [cutH_at z1 z2]
        exact b3 b o (ne_of_none hl z2).symm z3
      · obtain ⟨z1, z2⟩ := newH_of h
        have hbl : b ≠ l := (ne_of_none hr z1).symm
        rw [cutH_at (ne_of_none hys z1).symm ?_]
        · exact z2
        · cases e : H b with
          | none => rfl
          | some o' => rw [hb b o' hbl e] at z1; cases z1
    · rcases List.mem_append.mp hz with hz | hz
      · exact hpf z hz
      · cases List.mem_singleton.mp hz
        exact pf
  · have e : i = n := by omega
    subst e
    refine .inl ⟨Nat.le_refl _, hd D H' r ys ds hD hb hr hpl hpf hys hrep⟩
end Rim47
set_option Elab.async false
set_option linter.all false
set_option maxRecDepth 100000
set_option maxHeartbeats 4000000
namespace Rim47
open PySem PySem.Spec PyProof.Rows L2 RimM RimD
local macro_rules | `(tactic| walk_at "rd") => `(tactic| first | (dsimp only [tSeq, tAsg, gName, tTup, tLst, tCons, tNil, tVar, tC, tCB, tOp, rI, rI0, tTest, tIfS, tNext, tRet, tRetN, tDrop, tB, tAnd, tOr, tNot, tAndV, tOrV, tNotV, rU, tUn, tBM0, tBM, rBits, tCall, L2.start, rIxTH, rIxLH, rLenH, rEqTH, rEq, rNe, CMul, CMulB, CDivB, CDivF, CPow, List.map_cons, List.map_nil, List.length_cons, List.length_nil, List.replicate, List.cons_append, List.nil_append, List.set_cons_zero, List.set_cons_succ, List.getElem?_cons_zero, List.getElem?_cons_succ, gSub, rSetL, rCat, iRng1, tPar, iList, tComp, pick, tYes, iZip, gTup, gCons, gNil, rSum, rListH, List.map, iRng2, iRngD, tSl, rSlH, tPart, tNoPart, tPar3, tIf, tRev, tLRange, rIxT, rPopAt]; try simp only [tSeq, tAsg, gName, tTup, tLst, tCons, tNil, tVar, tC, tCB, tOp, rI, rI0, tTest, tIfS, tNext, tRet, tRetN, tDrop, tB, tAnd, tOr, tNot, tAndV, tOrV, tNotV, rU, tUn, tBM0, tBM, rBits, tCall, L2.start, rIxTH, rIxLH, rLenH, rEqTH, rEq, rNe, scal, tyV, CMul, CMulB, CDivB, CDivF, CPow, List.map_cons, List.map_nil, List.length_cons, List.length_nil, List.replicate, List.cons_append, List.nil_append, List.append_nil, List.set_cons_zero, List.set_cons_succ, List.getElem?_cons_zero, List.getElem?_cons_succ, Option.some.injEq, List.cons.injEq, V.int.injEq, V.bl.injEq, V.str.injEq, V.ref.injEq, V.ty.injEq, HO.tup.injEq, HO.lst.injEq, exists_eq_left, exists_eq_left', exists_and_left, and_assoc, and_true, true_and, upd_same, atI_0, atI_1, atI_2, Nat.zero_add, Nat.reduceAdd, Nat.reduceSub, decide_eq_true_eq, Bool.not_eq_true', decide_eq_false_iff_not, reduceCtorEq, false_or, or_false, true_or, or_true, plainT_int, plainT_bool, plainT_tuple, plainT_list, plainT_str, Bool.false_eq_true, if_false, if_true, Bool.not_false, Bool.not_true, Bool.not_not, gSub, rSetL, ixN_00, upd_upd, rCat, iRng1, tFor_eq, tPar, iList, tComp, pick, tYes, iZip, gTup, gCons, gNil, rSum, rListH, List.map, Option.bind, iRng2, iRngD, tSl, rSlH, tPart, tNoPart, tPar3, tIf, tRev, tLRange, rIxT, rPopAt]) | simp only [tSeq, tAsg, gName, tTup, tLst, tCons, tNil, tVar, tC, tCB, tOp, rI, rI0, tTest, tIfS, tNext, tRet, tRetN, tDrop, tB, tAnd, tOr, tNot, tAndV, tOrV, tNotV, rU, tUn, tBM0, tBM, rBits, tCall, L2.start, rIxTH, rIxLH, rLenH, rEqTH, rEq, rNe, scal, tyV, CMul, CMulB, CDivB, CDivF, CPow, List.map_cons, List.map_nil, List.length_cons, List.length_nil, List.replicate, List.cons_append, List.nil_append, List.append_nil, List.set_cons_zero, List.set_cons_succ, List.getElem?_cons_zero, List.getElem?_cons_succ, Option.some.injEq, List.cons.injEq, V.int.injEq, V.bl.injEq, V.str.injEq, V.ref.injEq, V.ty.injEq, HO.tup.injEq, HO.lst.injEq, exists_eq_left, exists_eq_left', exists_and_left, and_assoc, and_true, true_and, upd_same, atI_0, atI_1, atI_2, Nat.zero_add, Nat.reduceAdd, Nat.reduceSub, decide_eq_true_eq, Bool.not_eq_true', decide_eq_false_iff_not, reduceCtorEq, false_or, or_false, true_or, or_true, plainT_int, plainT_bool, plainT_tuple, plainT_list, plainT_str, Bool.false_eq_true, if_false, if_true, Bool.not_false, Bool.not_true, Bool.not_not, gSub, rSetL, ixN_00, upd_upd, rCat, iRng1, tFor_eq, tPar, iList, tComp, pick, tYes, iZip, gTup, gCons, gNil, rSum, rListH, List.map, Option.bind, iRng2, iRngD, tSl, rSlH, tPart, tNoPart, tPar3, tIf, tRev, tLRange, rIxT, rPopAt])
variable {P : Program} {w : World} {K : PySem.W.Frag} {mg : Str → Option Value} {base : Heap}
def gat (g : List (List (Int × Int))) (i j : Nat) : Int × Int := (g.getD i []).getD j (0, 1)
theorem nf_nought {b : Int} (h : b ≠ 0) : nf 0 b = (0, 1) := by
  rw [nf_eq (t' := 0) (b' := 1) h (by decide) (by omega)]
  exact nf_of_low (p := (0, 1)) ⟨by show (0 : Int) < 1; decide, by decide⟩
theorem nf_abs {t b : Int} {A B : Nat} (hb : 0 < b) (h1 : t.natAbs ≤ 2 ^ A) (h2 : b.natAbs ≤ 2 ^ B) : Builtin.Int.intBits (nf t b).1 ≤ A + 1 ∧ Builtin.Int.intBits (nf t b).2 ≤ B + 1 := by
  obtain ⟨a, c⟩ := nf_top_le (t := t) hb
  exact ⟨bits_of_le (Nat.le_trans a h1), bits_of_le (Nat.le_trans c h2)⟩
theorem deps_le {α : Type} {f : α → Dt} {n : Nat} (h : ∀ a, dep (f a) ≤ n) : ∀ l : List α, deps (l.map f) ≤ n
  | [] => Nat.zero_le _
  | a :: l => by
    show max (dep (f a)) (deps (l.map f)) ≤ n
    exact Nat.max_le.mpr ⟨h a, deps_le h l⟩
theorem dep_dF (p : Int × Int) : dep (dF p) ≤ 1 := by simp [dF, dep, deps]
theorem dep_dRow (r : List (Int × Int)) : dep (dRow r) ≤ 2 := Nat.succ_le_succ (deps_le dep_dF r)
theorem dep_grid (g : List (List (Int × Int))) : dep (.lst (g.map dRow)) ≤ 3 := Nat.succ_le_succ (deps_le dep_dRow g)
theorem all_dF {PF : Int × Int → Prop} : ∀ {ds : List Dt}, (∀ d ∈ ds, ∃ p, d = dF p ∧ PF p) → ∃ ps : List (Int × Int), ds = ps.map dF ∧ ∀ p ∈ ps, PF p
  | [], _ => ⟨[], rfl, fun p hp => nomatch hp⟩
  | d :: ds, h => by
    obtain ⟨p, e, hp⟩ := h d List.mem_cons_self
    obtain ⟨ps, e2, h2⟩ := all_dF (ds := ds) fun d hd => h d (List.mem_cons_of_mem _ hd)
    refine ⟨p :: ps, by rw [e, e2]; rfl, fun q hq => ?_⟩
    rcases List.mem_cons.mp hq with rfl | hq
    · exact hp
    · exact h2 q hq
theorem all_dRow {PF : List (Int × Int) → Prop} : ∀ {ds : List Dt}, (∀ d ∈ ds, ∃ p, d = dRow p ∧ PF p) → ∃ ps : List (List (Int × Int)), ds = ps.map dRow ∧ ∀ p ∈ ps, PF p
  | [], _ => ⟨[], rfl, fun p hp => nomatch hp⟩
  | d :: ds, h => by
    obtain ⟨p, e, hp⟩ := h d List.mem_cons_self
    obtain ⟨ps, e2, h2⟩ := all_dRow (ds := ds) fun d hd => h d (List.mem_cons_of_mem _ hd)
    refine ⟨p :: ps, by rw [e, e2]; rfl, fun q hq => ?_⟩
    rcases List.mem_cons.mp hq with rfl | hq
    · exact hp
    · exact h2 q hq
mutual
theorem deq_refl : ∀ d : Dt, deq d d = some true
  | .non => rfl
  | .bl a => by simp [deq]
  | .int a => by simp [deq]
  | .str a => by simp [deq]
  | .tup xs => deqs_refl xs
  | .lst xs => by rw [deq, if_pos rfl]; exact deqs_refl xs
theorem deqs_refl : ∀ ds : List Dt, deqs ds ds = some true
  | [] => rfl
  | d :: ds => by rw [deqs, deq_refl d, deqs_refl ds]; rfl
end
theorem comp_copy {g : TG} {te : TE} {σ : L2.St} {H : Hp} {Q : VK} {p : Addr} {xs : List V} {gs : List (List (Int × Int))} (hp : H p = some (.lst xs)) (hxs : Reps H xs (gs.map dRow)) (h8 : gs.length ≤ 8)
    (hg : g = gName 0) (hte : te = tCB rListH (tCons (tVar 0) tNil)) (hσ : ∃ e, σ = [e])
    (hd : ∀ D H', H D = none → Same H H' → Rep H' (.ref D) (.lst (gs.map dRow)) → Q (.ref D) H') : CompGo (Itl K p) g tYes te σ H Q := by
  subst hg hte
  have hl : xs.length = gs.length := by rw [hxs.length, List.length_map]
  refine comp_any (n := xs.length) (B := fun _ => none) (Pσ := fun σ => ∃ e, σ = [e]) (ds := gs.map dRow) (fun b o e => by cases e) hσ (by simp [hl]) (by omega) (fun i H2 hi s2 => ⟨xs, xs[i], .inl (.inl (s2 _ _ hp)), by simp [hi]⟩) (fun H2 s2 => ⟨xs, .inl (.inl (s2 _ _ hp)), Nat.le_refl _⟩) ?_ (fun D H' hD s' rep => hd D H' hD s' rep)
  rintro D i x d σ' H' H'' hD ⟨od, hDo⟩ hs' hi hdi ⟨rfl, hy⟩ ⟨e, rfl⟩ R kR
  have hx := hy xs (.inl (.inl (hs' _ _ hp)))
  obtain ⟨q, ys, r, hr0, rfl, hq, hys⟩ := rep_rows hxs hx
  have hd2 : d = dRow r := by rw [List.getElem?_map, hr0] at hdi; exact (Option.some.inj hdi).symm
  walk_at "rd"
  refine ⟨ys, .inl (hs' _ _ hq), fun l hl => kR _ _ _ ⟨_, rfl⟩ (Same.new hl) ?_⟩
  rw [hd2]
  have hlD : l ≠ D := (ne_of_none hDo hl).symm
  exact ⟨l, ys, rfl, by rw [cutH_at hlD rfl, upd_same], Reps.mono (old_cut (hs'.trans (Same.new hl)) hD) _ hys⟩
theorem lcm_at {g : List (List (Int × Int))} {i : Nat} {r : List (Int × Int)} (h : g[i]? = some r) : (nums g).getD i [] = tops r (lcmB r) := by
  unfold nums
  rw [List.getD_eq_getElem?_getD, List.getElem?_map, h]
  rfl
def bts (g : List (List (Int × Int))) (i : Nat) : Int := lcmB (g.getD i [])
theorem bots_pr (g : List (List (Int × Int))) : botsP g = pr g.length (bts g) := by
  have z : ∀ n, n ≤ g.length → botsP (g.take n) = pr n (bts g) := fun n => by
    induction n with
    | zero => intro _; rfl
    | succ n ih =>
      intro h
      have e : g[n]? = some (g[n]) := List.getElem?_eq_getElem (by omega)
      rw [List.take_succ, e]
      show botsP (g.take n ++ [g[n]]) = pr n (bts g) * bts g n
      rw [bots_snoc, ih (by omega)]
      unfold bts
      rw [List.getD_eq_getElem?_getD, e]
      rfl
  have := z g.length (Nat.le_refl _)
  rwa [List.take_length] at this
theorem due_of {g : List (List (Int × Int))} (h5 : g.length ≤ 5) (hg : ∀ r ∈ g, r.length = g.length ∧ ∀ p ∈ r, Sm p) :
    (∀ i j, i < g.length → j < g.length → (gat g i j).1 * bts g i = ma (nums g) i j * (gat g i j).2) ∧ (∀ i, i < g.length → 0 < bts g i ∧ (bts g i).natAbs ≤ 2 ^ 165) ∧ (∀ i j, i < g.length → j < g.length → (ma (nums g) i j).natAbs ≤ 2 ^ 165) := by
  refine ⟨fun i j hi hj => ?_, fun i hi => ?_, fun i j hi hj => ?_⟩
  · have e : g[i]? = some (g[i]) := List.getElem?_eq_getElem hi
    obtain ⟨rl, rs⟩ := hg (g[i]) (List.getElem_mem _)
    have ej : (g[i])[j]? = some ((g[i])[j]'(by omega)) := List.getElem?_eq_getElem (by omega)
    have bot := bot_lcm rs
    have dv := bot.dvd _ (List.getElem_mem (show j < (g[i]).length by omega))
    have e1 : gat g i j = (g[i])[j]'(by omega) := by
      unfold gat
      rw [List.getD_eq_getElem?_getD, List.getD_eq_getElem?_getD, e]
      show ((g[i])[j]?).getD _ = _
      rw [ej]
      rfl
    have e2 : bts g i = lcmB (g[i]) := by
      unfold bts
      rw [List.getD_eq_getElem?_getD, e]
      rfl
    have e3 : ma (nums g) i j = ((g[i])[j]'(by omega)).1 * (lcmB (g[i]) / ((g[i])[j]'(by omega)).2) := by
      unfold ma gi
      rw [lcm_at e, tops, List.getD_eq_getElem?_getD, List.getElem?_map, ej]
      rfl
    rw [e1, e2, e3, Int.mul_assoc, Int.ediv_mul_cancel dv]
  · have e : g[i]? = some (g[i]) := List.getElem?_eq_getElem hi
    obtain ⟨rl, rs⟩ := hg (g[i]) (List.getElem_mem _)
    have bot := bot_lcm rs
    have bb := bot.bits
    have e2 : bts g i = lcmB (g[i]) := by
      unfold bts
      rw [List.getD_eq_getElem?_getD, e]
      rfl
    rw [e2]
    refine ⟨bot.pos, ?_⟩
    have b0 := bot.pos
    rw [bits_pos (by omega)] at bb
    exact Nat.le_of_lt (Nat.lt_of_lt_of_le ((Nat.log2_lt (by omega)).mp (Nat.lt_succ_self _)) (Nat.pow_le_pow_right (by decide) (by omega)))
  · have e : g[i]? = some (g[i]) := List.getElem?_eq_getElem hi
    obtain ⟨rl, rs⟩ := hg (g[i]) (List.getElem_mem _)
    unfold ma
    rw [lcm_at e]
    exact gi_le (tops_le rs (by omega)) j
theorem rep_of {H : Hp} {z : Addr} {p : Int × Int} (h : H z = some (.tup [.int p.1, .int p.2])) : Rep H (.ref z) (dF p) := ⟨z, _, rfl, h, _, _, rfl, rfl, _, _, rfl, rfl, rfl⟩
abbrev s__law_less : Stmt := PySem.Challenge.pw_rimread_k47_minors.main.body.getD 28 (.Pass ⟨0, 0, 0, 0⟩)
theorem sc__law_less : FnScope ["_law_one", "_law_other"] ["_law_one", "_law_other"] (defScope s__law_less) := ⟨rfl, rfl, rfl, by decide +kernel, rfl, by decide +kernel, by decide +kernel⟩
theorem lk__law_less_0 : (defScope s__law_less).names.lookup ("_law_one" : Str) = some PySem.NameKind.local := by decide +kernel
theorem lk__law_less_1 : (defScope s__law_less).names.lookup ("_law_other" : Str) = some PySem.NameKind.local := by decide +kernel
theorem gk__law_less__law_low : (defScope s__law_less).names.lookup ("_law_low" : Str) = some PySem.NameKind.globalImplicit := by decide +kernel
theorem ok__law_less (T : Txt K mg) (F : Fn0 K mg "_law_less" s__law_less) (C__law_low : Cal P w K mg base "_law_low" ["_law_top", "_law_bottom"] 1 sp_low) : Cal P w K mg base "_law_less" ["_law_one", "_law_other"] 2 (sp_two (fun p q => p.1 * q.2 - q.1 * p.2)) := by
  refine cal_of F sc__law_less (fun _ _ _ _ _ _ us hl => match us, hl with | [_, _], _ => rfl) ?len ?body
  case len => rintro vs H Q E ⟨a, b, c, d, rfl, _⟩; rfl
  case body =>
    intro f cdv A outer s H vs Q E hr h
    obtain ⟨v, u, p, q, rfl, hv, hu, p0, q0, p1, p2, q1, q2, k⟩ := h
    obtain ⟨x, rfl, hx⟩ := rep_dF hv
    obtain ⟨y, rfl, hy⟩ := rep_dF hu
    have a3 := bits_2 p2 q2 (by decide)
    refine' ⟨_, ?D, ?R⟩
    case D =>
      refine' pss_one ?g1
      case g1 =>
        refine' ps_ret ?g2
        case g2 =>
          refine' pe_callD C__law_low (hr.mono (by decide)) gk__law_less__law_low ?g3
          case g3 =>
            refine' pa_c ?g4 ?g5
            case g4 =>
              refine' pe_op op_sub ?g6 ?g7
              case g6 =>
                refine' pe_op op_mulB ?g8 ?g9
                case g8 =>
                  refine' pe_ix ix_tupH ?g10 ?g11 (fun _ _ => rfl)
                  case g10 => exact pv1 0 rfl lk__law_less_0
                  case g11 => exact pe_int
                case g9 =>
                  refine' pe_ix ix_tupH ?g12 ?g13 (fun _ _ => rfl)
                  case g12 => exact pv1 1 rfl lk__law_less_1
                  case g13 => exact pe_int
              case g7 =>
                refine' pe_op op_mulB ?g14 ?g15
                case g14 =>
                  refine' pe_ix ix_tupH ?g16 ?g17 (fun _ _ => rfl)
                  case g16 => exact pv1 1 rfl lk__law_less_1
                  case g17 => exact pe_int
                case g15 =>
                  refine' pe_ix ix_tupH ?g18 ?g19 (fun _ _ => rfl)
                  case g18 => exact pv1 0 rfl lk__law_less_0
                  case g19 => exact pe_int
            case g5 =>
              refine' pa_c ?g20 ?g21
              case g20 =>
                refine' pe_op op_mulB ?g22 ?g23
                case g22 =>
                  refine' pe_ix ix_tupH ?g24 ?g25 (fun _ _ => rfl)
                  case g24 => exact pv1 0 rfl lk__law_less_0
                  case g25 => exact pe_int
                case g23 =>
                  refine' pe_ix ix_tupH ?g26 ?g27 (fun _ _ => rfl)
                  case g26 => exact pv1 1 rfl lk__law_less_1
                  case g27 => exact pe_int
              case g21 => exact pa_nil
    case R =>
      walk_at "rd"
      simp only [hx, hy, Option.some.injEq, HO.tup.injEq, exists_eq_left']
      walk_at "rd"
      exact ⟨by omega, by omega, by omega, _, _, rfl, Int.mul_pos p0 q0, by omega, fun z H' s' rep => k z H' s' rep⟩
abbrev s_minus : Stmt := PySem.Challenge.pw_rimread_k47_minors.main.body.getD 11 (.Pass ⟨0, 0, 0, 0⟩)
theorem sc_minus : FnScope ["one", "other"] ["one", "other"] (defScope s_minus) := ⟨rfl, rfl, rfl, by decide +kernel, rfl, by decide +kernel, by decide +kernel⟩
theorem lk_minus_0 : (defScope s_minus).names.lookup ("one" : Str) = some PySem.NameKind.local := by decide +kernel
theorem lk_minus_1 : (defScope s_minus).names.lookup ("other" : Str) = some PySem.NameKind.local := by decide +kernel
theorem gk_minus_fraction : (defScope s_minus).names.lookup ("fraction" : Str) = some PySem.NameKind.globalImplicit := by decide +kernel
def sp_minus (K : PySem.W.Frag) : Sp := fun vs H Q _ => ∃ (C : Addr) (v : V) (p : Int × Int), vs = [.ref C, v] ∧ (∀ H : Hp, SqT K H C [.int 0, .int 1]) ∧ Rep H v (dF p) ∧ 0 < p.2 ∧ Builtin.Int.intBits p.1 ≤ 2000 ∧ Builtin.Int.intBits p.2 ≤ 2000 ∧
  ∀ z H', Same H H' → H z = none → H' z = some (.tup [.int (nf (0 * p.2 - p.1 * 1) (1 * p.2)).1, .int (nf (0 * p.2 - p.1 * 1) (1 * p.2)).2]) → Q (.ref z) H'
theorem ok_minus (T : Txt K mg) (F : Fn0 K mg "minus" s_minus) (C_fraction : Cal P w K mg base "fraction" ["top", "bottom"] 2 sp_fraction) : Cal P w K mg base "minus" ["one", "other"] 3 (sp_minus K) := by
  refine cal_of F sc_minus (fun _ _ _ _ _ _ us hl => match us, hl with | [_, _], _ => rfl) ?len ?body
  case len => rintro vs H Q E ⟨a, b, c, rfl, _⟩; rfl
  case body =>
    intro f cdv A outer s H vs Q E hr h
    obtain ⟨C, v, p, rfl, hC, hv, p0, b1, b2, k⟩ := h
    obtain ⟨x, rfl, hx⟩ := rep_dF hv
    have z0 : Builtin.Int.intBits 0 ≤ 1 := by decide +kernel
    have z1 : Builtin.Int.intBits 1 ≤ 1 := by decide +kernel
    have m1 := bits_2 z0 b2 (by decide)
    have m2 := bits_2 b1 z1 (by decide)
    have m3 := bits_2 z1 b2 (by decide)
    have t0 : Builtin.Int.intBits (0 * p.2 - p.1 * 1) ≤ 2000 := PyProof.Rows.bits_of_natAbs_le (b := p.1) (by omega) b1
    have t1 : Builtin.Int.intBits (1 * p.2) ≤ 2000 := PyProof.Rows.bits_of_natAbs_le (b := p.2) (by omega) b2
    refine' ⟨_, ?D, ?R⟩
    case D =>
      refine' pss_one ?g1
      case g1 =>
        refine' ps_ret ?g2
        case g2 =>
          refine' pe_callD C_fraction (hr.mono (by decide)) gk_minus_fraction ?g3
          case g3 =>
            refine' pa_c ?g4 ?g5
            case g4 =>
              refine' pe_op op_sub ?g6 ?g7
              case g6 =>
                refine' pe_op op_mulB ?g8 ?g9
                case g8 =>
                  refine' pe_ix (ix_tupK (K := K) rfl) ?g10 ?g11 (fun _ _ => rfl)
                  case g10 => exact pv1 0 rfl lk_minus_0
                  case g11 => exact pe_int
                case g9 =>
                  refine' pe_ix ix_tupH ?g12 ?g13 (fun _ _ => rfl)
                  case g12 => exact pv1 1 rfl lk_minus_1
                  case g13 => exact pe_int
              case g7 =>
                refine' pe_op op_mulB ?g14 ?g15
                case g14 =>
                  refine' pe_ix ix_tupH ?g16 ?g17 (fun _ _ => rfl)
                  case g16 => exact pv1 1 rfl lk_minus_1
                  case g17 => exact pe_int
                case g15 =>
                  refine' pe_ix (ix_tupK (K := K) rfl) ?g18 ?g19 (fun _ _ => rfl)
                  case g18 => exact pv1 0 rfl lk_minus_0
                  case g19 => exact pe_int
            case g5 =>
              refine' pa_c ?g20 ?g21
              case g20 =>
                refine' pe_op op_mulB ?g22 ?g23
                case g22 =>
                  refine' pe_ix (ix_tupK (K := K) rfl) ?g24 ?g25 (fun _ _ => rfl)
                  case g24 => exact pv1 0 rfl lk_minus_0
                  case g25 => exact pe_int
                case g23 =>
                  refine' pe_ix ix_tupH ?g26 ?g27 (fun _ _ => rfl)
                  case g26 => exact pv1 1 rfl lk_minus_1
                  case g27 => exact pe_int
              case g21 => exact pa_nil
    case R =>
      walk_at "rd"
      refine ⟨_, hC H, _, rfl, _, hx, _, rfl, _, rfl, _, rfl, by omega, _, hx, _, rfl, _, hC H, _, rfl, _, rfl, _, rfl, by omega, _, hC H, _, rfl, _, hx, _, rfl, _, rfl, _, rfl, by omega, _, _, rfl, by omega, by omega, by omega, fun z H' s' nz hz => k z H' s' nz hz⟩
end Rim47
set_option Elab.async false
set_option linter.all false
set_option maxRecDepth 100000
set_option maxHeartbeats 4000000
namespace Rim47
open PySem PySem.Spec PyProof.Rows L2 RimM RimD
local macro_rules | `(tactic| walk_at "rd") => `(tactic| first | (dsimp only [tSeq, tAsg, gName, tTup, tLst, tCons, tNil, tVar, tC, tCB, tOp, rI, rI0, tTest, tIfS, tNext, tRet, tRetN, tDrop, tB, tAnd, tOr, tNot, tAndV, tOrV, tNotV, rU, tUn, tBM0, tBM, rBits, tCall, L2.start, rIxTH, rIxLH, rLenH, rEqTH, rEq, rNe, CMul, CMulB, CDivB, CDivF, CPow, List.map_cons, List.map_nil, List.length_cons, List.length_nil, List.replicate, List.cons_append, List.nil_append, List.set_cons_zero, List.set_cons_succ, List.getElem?_cons_zero, List.getElem?_cons_succ, gSub, rSetL, rCat, iRng1, tPar, iList, tComp, pick, tYes, iZip, gTup, gCons, gNil, rSum, rListH, List.map, iRng2, iRngD, tSl, rSlH, tPart, tNoPart, tPar3, tIf, tRev, tLRange, rIxT, rPopAt]; try simp only [tSeq, tAsg, gName, tTup, tLst, tCons, tNil, tVar, tC, tCB, tOp, rI, rI0, tTest, tIfS, tNext, tRet, tRetN, tDrop, tB, tAnd, tOr, tNot, tAndV, tOrV, tNotV, rU, tUn, tBM0, tBM, rBits, tCall, L2.start, rIxTH, rIxLH, rLenH, rEqTH, rEq, rNe, scal, tyV, CMul, CMulB, CDivB, CDivF, CPow, List.map_cons, List.map_nil, List.length_cons, List.length_nil, List.replicate, List.cons_append, List.nil_append, List.append_nil, List.set_cons_zero, List.set_cons_succ, List.getElem?_cons_zero, List.getElem?_cons_succ, Option.some.injEq, List.cons.injEq, V.int.injEq, V.bl.injEq, V.str.injEq, V.ref.injEq, V.ty.injEq, HO.tup.injEq, HO.lst.injEq, exists_eq_left, exists_eq_left', exists_and_left, and_assoc, and_true, true_and, upd_same, atI_0, atI_1, atI_2, Nat.zero_add, Nat.reduceAdd, Nat.reduceSub, decide_eq_true_eq, Bool.not_eq_true', decide_eq_false_iff_not, reduceCtorEq, false_or, or_false, true_or, or_true, plainT_int, plainT_bool, plainT_tuple, plainT_list, plainT_str, Bool.false_eq_true, if_false, if_true, Bool.not_false, Bool.not_true, Bool.not_not, gSub, rSetL, ixN_00, upd_upd, rCat, iRng1, tFor_eq, tPar, iList, tComp, pick, tYes, iZip, gTup, gCons, gNil, rSum, rListH, List.map, Option.bind, iRng2, iRngD, tSl, rSlH, tPart, tNoPart, tPar3, tIf, tRev, tLRange, rIxT, rPopAt]) | simp only [tSeq, tAsg, gName, tTup, tLst, tCons, tNil, tVar, tC, tCB, tOp, rI, rI0, tTest, tIfS, tNext, tRet, tRetN, tDrop, tB, tAnd, tOr, tNot, tAndV, tOrV, tNotV, rU, tUn, tBM0, tBM, rBits, tCall, L2.start, rIxTH, rIxLH, rLenH, rEqTH, rEq, rNe, scal, tyV, CMul, CMulB, CDivB, CDivF, CPow, List.map_cons, List.map_nil, List.length_cons, List.length_nil, List.replicate, List.cons_append, List.nil_append, List.append_nil, List.set_cons_zero, List.set_cons_succ, List.getElem?_cons_zero, List.getElem?_cons_succ, Option.some.injEq, List.cons.injEq, V.int.injEq, V.bl.injEq, V.str.injEq, V.ref.injEq, V.ty.injEq, HO.tup.injEq, HO.lst.injEq, exists_eq_left, exists_eq_left', exists_and_left, and_assoc, and_true, true_and, upd_same, atI_0, atI_1, atI_2, Nat.zero_add, Nat.reduceAdd, Nat.reduceSub, decide_eq_true_eq, Bool.not_eq_true', decide_eq_false_iff_not, reduceCtorEq, false_or, or_false, true_or, or_true, plainT_int, plainT_bool, plainT_tuple, plainT_list, plainT_str, Bool.false_eq_true, if_false, if_true, Bool.not_false, Bool.not_true, Bool.not_not, gSub, rSetL, ixN_00, upd_upd, rCat, iRng1, tFor_eq, tPar, iList, tComp, pick, tYes, iZip, gTup, gCons, gNil, rSum, rListH, List.map, Option.bind, iRng2, iRngD, tSl, rSlH, tPart, tNoPart, tPar3, tIf, tRev, tLRange, rIxT, rPopAt])
variable {P : Program} {w : World} {K : PySem.W.Frag} {mg : Str → Option Value} {base : Heap}
def sub (g : List (List (Int × Int))) (P Q : List Int) : List (List (Int × Int)) := P.map fun i => Q.map fun j => gat g i.toNat j.toNat
structure Gd (g : List (List (Int × Int))) (n : Nat) : Prop where
  len : g.length = n
  row : ∀ r ∈ g, r.length = n ∧ ∀ p ∈ r, Sm p
def In (n : Nat) (xs : List Int) : Prop := ∀ x ∈ xs, 0 ≤ x ∧ x < n
theorem gat_row {g : List (List (Int × Int))} {n i j : Nat} (h : Gd g n) (hi : i < n) (hj : j < n) : ∃ r, g[i]? = some r ∧ r[j]? = some (gat g i j) ∧ Sm (gat g i j) := by
  have hl := h.len
  have e : g[i]? = some (g[i]'(by omega)) := List.getElem?_eq_getElem (by omega)
  obtain ⟨rl, rs⟩ := h.row _ (List.getElem_mem (show i < g.length by omega))
  have e2 : gat g i j = (g[i]'(by omega))[j]'(by omega) := by
    unfold gat
    rw [List.getD_eq_getElem?_getD, List.getD_eq_getElem?_getD, e]
    show ((g[i]'(by omega))[j]?).getD _ = _
    rw [List.getElem?_eq_getElem (by omega)]
    rfl
  refine ⟨_, e, ?_, ?_⟩
  · rw [e2]
    exact List.getElem?_eq_getElem (by omega)
  · rw [e2]
    exact rs _ (List.getElem_mem _)
theorem gat_get {g : List (List (Int × Int))} {n : Nat} (h : Gd g n) {i j : Int} (hi : 0 ≤ i ∧ i < n) (hj : 0 ≤ j ∧ j < n) {H : Hp} {xs : List V} (hxs : Reps H xs (g.map dRow)) :
    ∃ q ys e, atI xs i = some (.ref q) ∧ H q = some (.lst ys) ∧ atI ys j = some (.ref e) ∧ H e = some (.tup [.int (gat g i.toNat j.toNat).1, .int (gat g i.toNat j.toNat).2]) ∧ Sm (gat g i.toNat j.toNat) := by
  obtain ⟨r, hr, hp, sm⟩ := gat_row h (i := i.toNat) (j := j.toNat) (by omega) (by omega)
  have hl : xs.length = g.length := by rw [hxs.length, List.length_map]
  have gl := h.len
  obtain ⟨q, ys, r', hr', ex, hq, hys⟩ := rep_rows hxs (i := i.toNat) (x := xs[i.toNat]'(by omega)) (List.getElem?_eq_getElem (by omega))
  rw [hr] at hr'
  cases hr'
  have rl : r.length = n := (h.row r (List.mem_of_getElem? hr)).1
  have ly : ys.length = n := by rw [hys.length, List.length_map]; exact rl
  obtain ⟨q1, p1, hp1, ex1, hq1⟩ := rep_at hys (i := j.toNat) (x := ys[j.toNat]'(by omega)) (List.getElem?_eq_getElem (by omega))
  rw [hp] at hp1
  cases hp1
  exact ⟨q, ys, q1, atI_nn hi.1 (by rw [← ex]; exact List.getElem?_eq_getElem (by omega)), hq, atI_nn hj.1 (by rw [← ex1]; exact List.getElem?_eq_getElem (by omega)), hq1, sm⟩
theorem sub_len (g : List (List (Int × Int))) (P Q : List Int) : (sub g P Q).length = P.length := by simp [sub]
theorem sub_ok {g : List (List (Int × Int))} {n : Nat} (h : Gd g n) {P Q : List Int} (hP : In n P) (hQ : In n Q) (hl : P.length = Q.length) : ∀ r ∈ sub g P Q, r.length = (sub g P Q).length ∧ ∀ p ∈ r, Sm p := fun r hr => by
  obtain ⟨i, hi, rfl⟩ := List.mem_map.mp hr
  refine ⟨by rw [sub_len]; simp [hl], fun p hp => ?_⟩
  obtain ⟨j, hj, rfl⟩ := List.mem_map.mp hp
  have h1 := hP i hi
  have h2 := hQ j hj
  obtain ⟨_, _, _, sm⟩ := gat_row h (i := i.toNat) (j := j.toNat) (by omega) (by omega)
  exact sm
theorem gat_sub {g : List (List (Int × Int))} {P Q : List Int} {a c : Nat} (ha : a < P.length) (hc : c < Q.length) : gat (sub g P Q) a c = gat g (P.getD a 0).toNat (Q.getD c 0).toNat := by
  have e : (sub g P Q).getD a [] = Q.map fun j => gat g (P[a]).toNat j.toNat := by
    rw [List.getD_eq_getElem?_getD, sub, List.getElem?_map, List.getElem?_eq_getElem ha]
    rfl
  have e1 : P.getD a 0 = P[a] := by rw [List.getD_eq_getElem?_getD, List.getElem?_eq_getElem ha]; rfl
  have e2 : Q.getD c 0 = Q[c] := by rw [List.getD_eq_getElem?_getD, List.getElem?_eq_getElem hc]; rfl
  show ((sub g P Q).getD a []).getD c (0, 1) = _
  rw [e, e1, e2, List.getD_eq_getElem?_getD, List.getElem?_map, List.getElem?_eq_getElem hc]
  rfl
def val (g : List (List (Int × Int))) (P Q : List Int) : Int × Int := nf (sg P.length * D P.length (ma (nums (sub g P Q)))) (pr P.length (bts (sub g P Q)))
def oneH (D : Addr) (H : Hp) : Hp := fun b => if b = D then H b else none
theorem oneH_same {D : Addr} {H : Hp} : Same (oneH D H) H := fun b o h => by
  unfold oneH at h
  by_cases e : b = D
  · rw [if_pos e] at h; exact h
  · rw [if_neg e] at h; cases h
theorem oneH_ne {D b : Addr} {H : Hp} (e : b ≠ D) : oneH D H b = none := if_neg e
theorem oneH_cut {D : Addr} {H H3 : Hp} (h : ∃ o, H D = some o) : Same (newH (oneH D H) H3) (cutH (fun _ => none) D H3) := fun b o hb => by
  obtain ⟨h1, h2⟩ := newH_of hb
  obtain ⟨z, hz⟩ := h
  have ne : b ≠ D := fun e => by
    unfold oneH at h1
    rw [if_pos e, e, hz] at h1
    cases h1
  rw [cutH_at ne rfl]
  exact h2
abbrev s_grid_part : Stmt := PySem.Challenge.pw_rimread_k47_minors.main.body.getD 20 (.Pass ⟨0, 0, 0, 0⟩)
theorem sc_grid_part : FnScope ["table", "rows", "columns"] ["table", "rows", "columns"] (defScope s_grid_part) := ⟨rfl, rfl, rfl, by decide +kernel, rfl, by decide +kernel, by decide +kernel⟩
theorem lk_grid_part_1 : (defScope s_grid_part).names.lookup ("rows" : Str) = some PySem.NameKind.local := by decide +kernel
def sp_part : Sp := fun vs H Q _ => ∃ (t p q : V) (g : List (List (Int × Int))) (Ps Qs : List Int) (n : Nat), vs = [t, p, q] ∧ Rep H t (.lst (g.map dRow)) ∧ Rep H p (dI Ps) ∧ Rep H q (dI Qs) ∧ Gd g n ∧ In n Ps ∧ In n Qs ∧ Ps.length ≤ 3 ∧ Qs.length ≤ 3 ∧
  ∀ z H', Same H H' → Rep H' (.ref z) (.lst ((sub g Ps Qs).map dRow)) → Q (.ref z) H'
theorem ok_grid_part (T : Txt K mg) (F : Fn0 K mg "grid_part" s_grid_part) : Cal P w K mg base "grid_part" ["table", "rows", "columns"] 1 sp_part := by
  refine cal_of F sc_grid_part (fun _ _ _ _ _ _ us hl => match us, hl with | [_, _, _], _ => rfl) ?len ?body
  case len => rintro vs H Q E ⟨a, b, c, d, e, f, g, rfl, _⟩; rfl
  case body =>
    intro f cdv A outer s H vs Q E hr h
    obtain ⟨t, p, q, g, Ps, Qs, n, rfl, hT, hPs, hQs, gd, inP, inQ, l3, m3, k⟩ := h
    obtain ⟨t, xs, rfl, ht, hxs⟩ := id hT
    obtain ⟨p, rfl, hp⟩ := rep_ints hPs
    obtain ⟨q, rfl, hq⟩ := rep_ints hQs
    refine' ⟨_, ?D, ?R⟩
    case D =>
      refine' pss_one ?g1
      case g1 =>
        refine' ps_ret ?g2
        case g2 =>
          refine' pe_comp (N' := ["i", "columns", "table"]) (ix := [none, some 2, some 0]) rfl rfl (scp_of ?g3) ?g4 (fun _ _ _ => ?g5) (fun _ _ _ => ?g6) (fun _ _ _ => ?g7)
          case g3 => exact (by show scpB (defScope s_grid_part) ["table", "rows", "columns"] _ _ _ = true; decide +kernel)
          case g4 =>
            refine' pi_listK (K := K) rfl ?g8
            case g8 => exact pv1 1 rfl lk_grid_part_1
          case g5 => exact pg_namec (i := 0) (by show List.Nodup (["i", "columns", "table"] : List Str); decide +kernel) rfl rfl rfl
          case g6 => exact pf_nil
          case g7 =>
            refine' pe_comp (N' := ["j", "table", "i"]) (ix := [none, some 2, some 0]) rfl rfl (scp_of ?g9) ?g10 (fun _ _ _ => ?g11) (fun _ _ _ => ?g12) (fun _ _ _ => ?g13)
            case g9 => exact (by show scpB (relS _ (defScope s_grid_part)) ["i", "columns", "table"] _ _ _ = true; decide +kernel)
            case g10 =>
              refine' pi_listK (K := K) rfl ?g14
              case g14 => exact pvc 1 rfl rfl
            case g11 => exact pg_name1 (i := 0) (by show List.Nodup (["j", "table", "i"] : List Str); decide +kernel) rfl rfl
            case g12 => exact pf_nil
            case g13 =>
              refine' pe_ix ix_listH ?g15 ?g16 (fun _ _ => rfl)
              case g15 =>
                refine' pe_ix ix_listH ?g17 ?g18 (fun _ _ => rfl)
                case g17 => exact pvc 1 rfl rfl
                case g18 => exact pvc 2 rfl rfl
              case g16 => exact pv1 0 rfl rfl
    case R =>
      walk_at "rd"
      refine ⟨⟨_, .inl (.inl hp)⟩, ?_⟩
      refine comp_any (n := Ps.length) (B := fun _ => none) (Pσ := fun σ => ∃ e, σ = [e, some (.ref q), some (.ref t)]) (ds := (sub g Ps Qs).map dRow) (fun b o e => by cases e) ⟨_, rfl⟩ (by simp [sub]) (by omega) (fun i H' hi s' => ⟨_, .int (Ps[i]), .inl (.inl (s' _ _ hp)), by simp [hi]⟩) (fun H' s' => ⟨_, .inl (.inl (s' _ _ hp)), by simp⟩) ?_ ?_
      · rintro D i x d σ' H' H'' hD hDo hs' hi hdi ⟨rfl, hy⟩ ⟨e, rfl⟩ R kR
        have hx := hy _ (.inl (.inl (hs' _ _ hp)))
        rw [List.getElem?_map, List.getElem?_eq_getElem hi] at hx
        cases hx
        have hd : d = dRow (Qs.map fun j => gat g (Ps[i]).toNat j.toNat) := by
          rw [List.getElem?_map, sub, List.getElem?_map, List.getElem?_eq_getElem hi] at hdi
          exact (Option.some.inj hdi).symm
        walk_at "rd"
        refine ⟨⟨_, .inl (.inl (hs' _ _ hq))⟩, ?_⟩
        refine comp_any (n := Qs.length) (B := oneH D H'') (Pσ := fun σ => ∃ e, σ = [e, some (.ref t), some (.int (Ps[i]))]) (ds := (Qs.map fun j => gat g (Ps[i]).toNat j.toNat).map dF) oneH_same ⟨_, rfl⟩ (by simp) (by omega) (fun j H2 hj s2 => ⟨_, .int (Qs[j]), .inl (.inl (s2 _ _ (hs' _ _ hq))), by simp [hj]⟩) (fun H2 s2 => ⟨_, .inl (.inl (s2 _ _ (hs' _ _ hq))), by simp⟩) ?_ ?_
        · rintro D2 j x2 d2 σ2 H2 H2' hD2 hD2o hs2 hj hdj ⟨rfl, hy2⟩ ⟨e2, rfl⟩ R2 kR2
          have hx2 := hy2 _ (.inl (.inl (hs2 _ _ (hs' _ _ hq))))
          rw [List.getElem?_map, List.getElem?_eq_getElem hj] at hx2
          cases hx2
          obtain ⟨rq, ys, en, a1, a2, a3, a4, sm⟩ := gat_get gd (inP _ (List.getElem_mem hi)) (inQ _ (List.getElem_mem hj)) hxs
          have T2 := hs'.trans hs2
          walk_at "rd"
          simp only [T2 _ _ ht, a1, T2 _ _ a2, a3, Option.some.injEq, HO.lst.injEq, V.ref.injEq, exists_eq_left', exists_eq_left]
          refine kR2 _ _ _ ⟨_, rfl⟩ (Same.refl _) ?_
          have hd2 : d2 = dF (gat g (Ps[i]).toNat (Qs[j]).toNat) := by
            rw [List.getElem?_map, List.getElem?_map, List.getElem?_eq_getElem hj] at hdj
            exact (Option.some.inj hdj).symm
          rw [hd2]
          refine rep_of ?_
          rw [cutH_at (ne_of_none (hs' _ _ a4) hD2) (oneH_ne (ne_of_none a4 hD))]
          exact T2 _ _ a4
        · intro D2 H3 hD2 s3 rep3
          refine kR _ _ _ ⟨_, rfl⟩ s3 ?_
          rw [hd]
          exact Rep.mono (oneH_cut hDo) _ rep3
      · intro D0 H1 hD s1 rep1
        exact k _ _ s1 rep1
abbrev s_minor_of : Stmt := PySem.Challenge.pw_rimread_k47_minors.main.body.getD 21 (.Pass ⟨0, 0, 0, 0⟩)
theorem sc_minor_of : FnScope ["table", "P", "Q", "found"] ["table", "P", "Q"] (defScope s_minor_of) := ⟨rfl, rfl, rfl, by decide +kernel, rfl, by decide +kernel, by decide +kernel⟩
theorem lk_minor_of_0 : (defScope s_minor_of).names.lookup ("table" : Str) = some PySem.NameKind.local := by decide +kernel
theorem lk_minor_of_1 : (defScope s_minor_of).names.lookup ("P" : Str) = some PySem.NameKind.local := by decide +kernel
theorem lk_minor_of_2 : (defScope s_minor_of).names.lookup ("Q" : Str) = some PySem.NameKind.local := by decide +kernel
theorem lk_minor_of_3 : (defScope s_minor_of).names.lookup ("found" : Str) = some PySem.NameKind.local := by decide +kernel
theorem gk_minor_of_NOUGHT : (defScope s_minor_of).names.lookup ("NOUGHT" : Str) = some PySem.NameKind.globalImplicit := by decide +kernel
theorem gk_minor_of_determinant : (defScope s_minor_of).names.lookup ("determinant" : Str) = some PySem.NameKind.globalImplicit := by decide +kernel
theorem gk_minor_of_grid_part : (defScope s_minor_of).names.lookup ("grid_part" : Str) = some PySem.NameKind.globalImplicit := by decide +kernel
theorem gk_minor_of_len : (defScope s_minor_of).names.lookup ("len" : Str) = some PySem.NameKind.globalImplicit := by decide +kernel
theorem gk_minor_of_minus : (defScope s_minor_of).names.lookup ("minus" : Str) = some PySem.NameKind.globalImplicit := by decide +kernel
def sp_minor : Sp := fun vs H Q _ => ∃ (t p q : V) (g : List (List (Int × Int))) (Ps Qs : List Int) (n : Nat), vs = [t, p, q] ∧ Rep H t (.lst (g.map dRow)) ∧ Rep H p (dI Ps) ∧ Rep H q (dI Qs) ∧ Gd g n ∧ In n Ps ∧ In n Qs ∧ Ps.length = Qs.length ∧ 1 ≤ Ps.length ∧ Ps.length ≤ 3 ∧
  ∀ z H', Same H H' → H z = none → H' z = some (.tup [.int (val g Ps Qs).1, .int (val g Ps Qs).2]) → Q (.ref z) H'
theorem ok_minor_of (T : Txt K mg) (F : Fn0 K mg "minor_of" s_minor_of) (C_grid_part : Cal P w K mg base "grid_part" ["table", "rows", "columns"] 1 sp_part) (C_determinant : Cal P w K mg base "determinant" ["grid"] 4 sp_det) (C_minus : Cal P w K mg base "minus" ["one", "other"] 3 (sp_minus K)) : Cal P w K mg base "minor_of" ["table", "P", "Q"] 5 sp_minor := by
  obtain ⟨CN, m_NOUGHT, hCN⟩ := T.c_NOUGHT
  refine cal_of F sc_minor_of (fun _ _ _ _ _ _ us hl => match us, hl with | [_, _, _], _ => rfl) ?len ?body
  case len => rintro vs H Q E ⟨a, b, c, d, e, f, g, rfl, _⟩; rfl
  case body =>
    intro f cdv A outer s H vs Q E hr h
    obtain ⟨t, p, q, g, Ps, Qs, n, rfl, hT, hPs, hQs, gd, inP, inQ, hl, l1, l3, k⟩ := h
    obtain ⟨t, xs, rfl, ht, hxs⟩ := id hT
    obtain ⟨p, rfl, hp⟩ := rep_ints hPs
    obtain ⟨q, rfl, hq⟩ := rep_ints hQs
    refine' ⟨_, ?D, ?R⟩
    case D =>
      refine' pss_cons ?g1 ?g2
      case g1 =>
        refine' ps_set1 (i := 3) sc_minor_of.nd rfl lk_minor_of_3 ?g3
        case g3 =>
          refine' pe_callD C_determinant (hr.mono (by decide)) gk_minor_of_determinant ?g4
          case g4 =>
            refine' pa_c ?g5 ?g6
            case g5 =>
              refine' pe_callD C_grid_part (hr.mono (by decide)) gk_minor_of_grid_part ?g7
              case g7 =>
                refine' pa_c ?g8 ?g9
                case g8 => exact pv1 0 rfl lk_minor_of_0
                case g9 =>
                  refine' pa_c ?g10 ?g11
                  case g10 => exact pv1 1 rfl lk_minor_of_1
                  case g11 =>
                    refine' pa_c ?g12 ?g13
                    case g12 => exact pv1 2 rfl lk_minor_of_2
                    case g13 => exact pa_nil
            case g6 => exact pa_nil
      case g2 =>
        refine' pss_one ?g14
        case g14 =>
          refine' ps_ret ?g15
          case g15 =>
            refine' pe_ifExp ?g16 ?g17 ?g18
            case g16 =>
              refine' pt_cmpR op_eq ?g19 ?g20 (nomark _)
              case g19 =>
                refine' pe_op op_mod ?g21 ?g22
                case g21 =>
                  refine' pe_callE call_lenH gk_minor_of_len T.n_len bt_len ?g23
                  case g23 =>
                    refine' pa_c ?g24 ?g25
                    case g24 => exact pv1 1 rfl lk_minor_of_1
                    case g25 => exact pa_nil
                case g22 => exact pe_int
              case g20 => exact pe_int
            case g17 => exact pv1 3 rfl lk_minor_of_3
            case g18 =>
              refine' pe_callD C_minus (hr.mono (by decide)) gk_minor_of_minus ?g26
              case g26 =>
                refine' pa_c ?g27 ?g28
                case g27 => exact pe_gobj m_NOUGHT gk_minor_of_NOUGHT
                case g28 =>
                  refine' pa_c ?g29 ?g30
                  case g29 => exact pv1 3 rfl lk_minor_of_3
                  case g30 => exact pa_nil
    case R =>
      walk_at "rd"
      refine ⟨.ref t, .ref p, .ref q, g, Ps, Qs, n, rfl, hT, hPs, hQs, gd, inP, inQ, l3, by omega, fun D0 H1 s1 rep1 => ?_⟩
      · show _
        have l5 : (sub g Ps Qs).length = Ps.length := sub_len g Ps Qs
        refine ⟨.ref D0, sub g Ps Qs, rfl, rep1, by omega, sub_ok gd inP inQ hl, fun z H2 s2 nz hz => ?_⟩
        rw [l5, bots_pr, l5] at hz
        obtain ⟨x1, x2, x3⟩ := due_of (g := sub g Ps Qs) (by omega) (sub_ok gd inP inQ hl)
        rw [l5] at x2 x3
        have bp : 0 < pr Ps.length (bts (sub g Ps Qs)) := pr_pos fun i hi => (x2 i hi).1
        have bl := pr_le (B := 165) (n := Ps.length) (b := bts (sub g Ps Qs)) fun i hi => (x2 i hi).2
        have dl := D_le (B := 165) (n := Ps.length) (N := ma (nums (sub g Ps Qs))) (by omega) x3
        have bb := nf_abs bp dl bl
        have low := (nf_low (t := D Ps.length (ma (nums (sub g Ps Qs)))) (b := pr Ps.length (bts (sub g Ps Qs))) (by omega)).1
        have vE : val g Ps Qs = nf (sg Ps.length * D Ps.length (ma (nums (sub g Ps Qs)))) (pr Ps.length (bts (sub g Ps Qs))) := rfl
        rw [vE] at k
        have b165 : 165 * Ps.length ≤ 495 := by omega
        have b168 : (165 + 3) * Ps.length ≤ 504 := by omega
        generalize pr Ps.length (bts (sub g Ps Qs)) = bv at *
        generalize D Ps.length (ma (nums (sub g Ps Qs))) = dv at *
        try walk_at "rd"
        refine ⟨_, .inl ((s1.trans s2) _ _ hp), ?_⟩
        try walk_at "rd"
        refine ⟨by decide, ?_⟩
        rw [List.length_map]
        have s12 := s1.trans s2
        have nz0 : H z = none := s1.free nz
        refine ite2 (fun he => ?_) (fun he => ?_)
        · have e1 : sg Ps.length = 1 := by unfold sg; rw [if_pos (by omega)]
          rw [e1, Int.one_mul] at k
          exact k z H2 s12 nz0 hz
        · have e1 : sg Ps.length = -1 := by unfold sg; rw [if_neg (by omega)]
          rw [e1, show (-1 : Int) * dv = -dv by omega] at k
          refine ⟨CN, .ref z, nf dv bv, rfl, hCN, rep_of hz, low.pos, by omega, by omega, fun z2 H3 s3 nz2 hz2 => ?_⟩
          rw [nf_minus (by omega)] at hz2
          exact k z2 H3 (s12.trans s3) (s12.free nz2) hz2
end Rim47
set_option Elab.async false
set_option linter.all false
set_option maxRecDepth 100000
set_option maxHeartbeats 4000000
namespace Rim47
open PySem PySem.Spec PyProof.Rows L2 RimM RimD
local macro_rules | `(tactic| walk_at "rd") => `(tactic| first | (dsimp only [tSeq, tAsg, gName, tTup, tLst, tCons, tNil, tVar, tC, tCB, tOp, rI, rI0, tTest, tIfS, tNext, tRet, tRetN, tDrop, tB, tAnd, tOr, tNot, tAndV, tOrV, tNotV, rU, tUn, tBM0, tBM, rBits, tCall, L2.start, rIxTH, rIxLH, rLenH, rEqTH, rEq, rNe, CMul, CMulB, CDivB, CDivF, CPow, List.map_cons, List.map_nil, List.length_cons, List.length_nil, List.replicate, List.cons_append, List.nil_append, List.set_cons_zero, List.set_cons_succ, List.getElem?_cons_zero, List.getElem?_cons_succ, gSub, rSetL, rCat, iRng1, tPar, iList, tComp, pick, tYes, iZip, gTup, gCons, gNil, rSum, rListH, List.map, iRng2, iRngD, tSl, rSlH, tPart, tNoPart, tPar3, tIf, tRev, tLRange, rIxT, rPopAt]; try simp only [tSeq, tAsg, gName, tTup, tLst, tCons, tNil, tVar, tC, tCB, tOp, rI, rI0, tTest, tIfS, tNext, tRet, tRetN, tDrop, tB, tAnd, tOr, tNot, tAndV, tOrV, tNotV, rU, tUn, tBM0, tBM, rBits, tCall, L2.start, rIxTH, rIxLH, rLenH, rEqTH, rEq, rNe, scal, tyV, CMul, CMulB, CDivB, CDivF, CPow, List.map_cons, List.map_nil, List.length_cons, List.length_nil, List.replicate, List.cons_append, List.nil_append, List.append_nil, List.set_cons_zero, List.set_cons_succ, List.getElem?_cons_zero, List.getElem?_cons_succ, Option.some.injEq, List.cons.injEq, V.int.injEq, V.bl.injEq, V.str.injEq, V.ref.injEq, V.ty.injEq, HO.tup.injEq, HO.lst.injEq, exists_eq_left, exists_eq_left', exists_and_left, and_assoc, and_true, true_and, upd_same, atI_0, atI_1, atI_2, Nat.zero_add, Nat.reduceAdd, Nat.reduceSub, decide_eq_true_eq, Bool.not_eq_true', decide_eq_false_iff_not, reduceCtorEq, false_or, or_false, true_or, or_true, plainT_int, plainT_bool, plainT_tuple, plainT_list, plainT_str, Bool.false_eq_true, if_false, if_true, Bool.not_false, Bool.not_true, Bool.not_not, gSub, rSetL, ixN_00, upd_upd, rCat, iRng1, tFor_eq, tPar, iList, tComp, pick, tYes, iZip, gTup, gCons, gNil, rSum, rListH, List.map, Option.bind, iRng2, iRngD, tSl, rSlH, tPart, tNoPart, tPar3, tIf, tRev, tLRange, rIxT, rPopAt]) | simp only [tSeq, tAsg, gName, tTup, tLst, tCons, tNil, tVar, tC, tCB, tOp, rI, rI0, tTest, tIfS, tNext, tRet, tRetN, tDrop, tB, tAnd, tOr, tNot, tAndV, tOrV, tNotV, rU, tUn, tBM0, tBM, rBits, tCall, L2.start, rIxTH, rIxLH, rLenH, rEqTH, rEq, rNe, scal, tyV, CMul, CMulB, CDivB, CDivF, CPow, List.map_cons, List.map_nil, List.length_cons, List.length_nil, List.replicate, List.cons_append, List.nil_append, List.append_nil, List.set_cons_zero, List.set_cons_succ, List.getElem?_cons_zero, List.getElem?_cons_succ, Option.some.injEq, List.cons.injEq, V.int.injEq, V.bl.injEq, V.str.injEq, V.ref.injEq, V.ty.injEq, HO.tup.injEq, HO.lst.injEq, exists_eq_left, exists_eq_left', exists_and_left, and_assoc, and_true, true_and, upd_same, atI_0, atI_1, atI_2, Nat.zero_add, Nat.reduceAdd, Nat.reduceSub, decide_eq_true_eq, Bool.not_eq_true', decide_eq_false_iff_not, reduceCtorEq, false_or, or_false, true_or, or_true, plainT_int, plainT_bool, plainT_tuple, plainT_list, plainT_str, Bool.false_eq_true, if_false, if_true, Bool.not_false, Bool.not_true, Bool.not_not, gSub, rSetL, ixN_00, upd_upd, rCat, iRng1, tFor_eq, tPar, iList, tComp, pick, tYes, iZip, gTup, gCons, gNil, rSum, rListH, List.map, Option.bind, iRng2, iRngD, tSl, rSlH, tPart, tNoPart, tPar3, tIf, tRev, tLRange, rIxT, rPopAt])
variable {P : Program} {w : World} {K : PySem.W.Frag} {mg : Str → Option Value} {base : Heap}
structure Nb (g : List (List (Int × Int))) (Ps Qs : List Int) (N : Mat) (b : Nat → Int) : Prop where
  eq : ∀ i j, i < Ps.length → j < Qs.length → (gat g (Ps.getD i 0).toNat (Qs.getD j 0).toNat).1 * b i = N i j * (gat g (Ps.getD i 0).toNat (Qs.getD j 0).toNat).2
  bot : ∀ i, i < Ps.length → 0 < b i ∧ (b i).natAbs ≤ 2 ^ 165
  top : ∀ i j, i < Ps.length → j < Qs.length → (N i j).natAbs ≤ 2 ^ 165
theorem bits_sm {p : Int × Int} (h : Sm p) : Builtin.Int.intBits p.1 ≤ 2000 ∧ Builtin.Int.intBits p.2 ≤ 2000 := by
  have := h.top
  have := h.bot
  omega
theorem two_of {r : List Int} (h : r.length = 2) : ∃ a c, r = [a, c] := by
  match r, h with
  | [a, c], _ => exact ⟨a, c, rfl⟩
abbrev s__law_two : Stmt := PySem.Challenge.pw_rimread_k47_minors.main.body.getD 33 (.Pass ⟨0, 0, 0, 0⟩)
theorem sc__law_two : FnScope ["_law_grid", "_law_kp", "_law_kq"] ["_law_grid", "_law_kp", "_law_kq"] (defScope s__law_two) := ⟨rfl, rfl, rfl, by decide +kernel, rfl, by decide +kernel, by decide +kernel⟩
theorem lk__law_two_0 : (defScope s__law_two).names.lookup ("_law_grid" : Str) = some PySem.NameKind.local := by decide +kernel
theorem lk__law_two_1 : (defScope s__law_two).names.lookup ("_law_kp" : Str) = some PySem.NameKind.local := by decide +kernel
theorem lk__law_two_2 : (defScope s__law_two).names.lookup ("_law_kq" : Str) = some PySem.NameKind.local := by decide +kernel
theorem gk__law_two__law_less : (defScope s__law_two).names.lookup ("_law_less" : Str) = some PySem.NameKind.globalImplicit := by decide +kernel
theorem gk__law_two__law_mul : (defScope s__law_two).names.lookup ("_law_mul" : Str) = some PySem.NameKind.globalImplicit := by decide +kernel
def sp_tw : Sp := fun vs H Q _ => ∃ (t p q : V) (g : List (List (Int × Int))) (Ps Qs : List Int) (n : Nat) (N : Mat) (b : Nat → Int), vs = [t, p, q] ∧ Rep H t (.lst (g.map dRow)) ∧ Rep H p (dI Ps) ∧ Rep H q (dI Qs) ∧ Gd g n ∧ In n Ps ∧ In n Qs ∧ Ps.length = 2 ∧ Qs.length = 2 ∧ Nb g Ps Qs N b ∧
  ∀ z H', Same H H' → Rep (newH H H') (.ref z) (dF (nf (D 2 N) (pr 2 b))) → Q (.ref z) H'
theorem ok__law_two (T : Txt K mg) (F : Fn0 K mg "_law_two" s__law_two) (C__law_less : Cal P w K mg base "_law_less" ["_law_one", "_law_other"] 2 (sp_two (fun p q => p.1 * q.2 - q.1 * p.2))) (C__law_mul : Cal P w K mg base "_law_mul" ["_law_one", "_law_other"] 2 (sp_two (fun p q => p.1 * q.1))) : Cal P w K mg base "_law_two" ["_law_grid", "_law_kp", "_law_kq"] 3 sp_tw := by
  refine cal_of F sc__law_two (fun _ _ _ _ _ _ us hl => match us, hl with | [_, _, _], _ => rfl) ?len ?body
  case len => rintro vs H Q E ⟨a, b, c, d, e, f, g, h, i, rfl, _⟩; rfl
  case body =>
    intro f cdv A outer s H vs Q E hr h
    obtain ⟨t, p, q, g, Ps, Qs, n, N, b, rfl, hT, hPs, hQs, gd, inP, inQ, lP, lQ, nb, k⟩ := h
    obtain ⟨t, xs, rfl, ht, hxs⟩ := id hT
    obtain ⟨p, rfl, hp⟩ := rep_ints hPs
    obtain ⟨q, rfl, hq⟩ := rep_ints hQs
    obtain ⟨p0, p1, rfl⟩ : ∃ a c, Ps = [a, c] := two_of lP
    obtain ⟨q0, q1, rfl⟩ : ∃ a c, Qs = [a, c] := two_of lQ
    obtain ⟨r00, y00, e00, a1, a2, a3, a4, sm00⟩ := gat_get gd (inP p0 (by simp)) (inQ q0 (by simp)) hxs
    obtain ⟨r11, y11, e11, b1, b2, b3, b4, sm11⟩ := gat_get gd (inP p1 (by simp)) (inQ q1 (by simp)) hxs
    obtain ⟨r01, y01, e01, c1, c2, c3, c4, sm01⟩ := gat_get gd (inP p0 (by simp)) (inQ q1 (by simp)) hxs
    obtain ⟨r10, y10, e10, d1, d2, d3, d4, sm10⟩ := gat_get gd (inP p1 (by simp)) (inQ q0 (by simp)) hxs
    have n00 : (gat g p0.toNat q0.toNat).1 * b 0 = N 0 0 * (gat g p0.toNat q0.toNat).2 := nb.eq 0 0 (by simp) (by simp)
    have n11 : (gat g p1.toNat q1.toNat).1 * b 1 = N 1 1 * (gat g p1.toNat q1.toNat).2 := nb.eq 1 1 (by simp) (by simp)
    have n01 : (gat g p0.toNat q1.toNat).1 * b 0 = N 0 1 * (gat g p0.toNat q1.toNat).2 := nb.eq 0 1 (by simp) (by simp)
    have n10 : (gat g p1.toNat q0.toNat).1 * b 1 = N 1 0 * (gat g p1.toNat q0.toNat).2 := nb.eq 1 0 (by simp) (by simp)
    have bb0 := nb.bot 0 (by simp)
    have bb1 := nb.bot 1 (by simp)
    have t0 := nb.top 0 0 (by simp) (by simp)
    have t1 := nb.top 1 1 (by simp) (by simp)
    have t2 := nb.top 0 1 (by simp) (by simp)
    have t3 := nb.top 1 0 (by simp) (by simp)
    have bne : b 0 * b 1 ≠ 0 := Int.mul_ne_zero (by omega) (by omega)
    have eA := nf_mul2 sm00.pos sm11.pos (b := b 0) (b' := b 1) (by omega) (by omega) n00 n11
    have eB := nf_mul2 sm01.pos sm10.pos (b := b 0) (b' := b 1) (by omega) (by omega) n01 n10
    have eC := nf_less (t := N 0 0 * N 1 1) (t' := N 0 1 * N 1 0) bne
    rw [D_2, pr_two] at k
    have bp : 0 < b 0 * b 1 := Int.mul_pos bb0.1 bb1.1
    have pl : (b 0 * b 1).natAbs ≤ 2 ^ 330 := by rw [Int.natAbs_mul, show 330 = 165 + 165 from rfl, Nat.pow_add]; exact Nat.mul_le_mul bb0.2 bb1.2
    have m1 : (N 0 0 * N 1 1).natAbs ≤ 2 ^ 330 := by rw [Int.natAbs_mul, show 330 = 165 + 165 from rfl, Nat.pow_add]; exact Nat.mul_le_mul t0 t1
    have m2 : (N 0 1 * N 1 0).natAbs ≤ 2 ^ 330 := by rw [Int.natAbs_mul, show 330 = 165 + 165 from rfl, Nat.pow_add]; exact Nat.mul_le_mul t2 t3
    have f1 := nf_abs bp m1 pl
    have f2 := nf_abs bp m2 pl
    have lo1 := (nf_low (t := N 0 0 * N 1 1) (b := b 0 * b 1) bne).1
    have lo2 := (nf_low (t := N 0 1 * N 1 0) (b := b 0 * b 1) bne).1
    clear n00 n11 n01 n10 t0 t1 t2 t3 m1 m2 pl
    refine' ⟨_, ?D, ?R⟩
    case D =>
      refine' pss_one ?g1
      case g1 =>
        refine' ps_ret ?g2
        case g2 =>
          refine' pe_callD C__law_less (hr.mono (by decide)) gk__law_two__law_less ?g3
          case g3 =>
            refine' pa_c ?g4 ?g5
            case g4 =>
              refine' pe_callD C__law_mul (hr.mono (by decide)) gk__law_two__law_mul ?g6
              case g6 =>
                refine' pa_c ?g7 ?g8
                case g7 =>
                  refine' pe_ix ix_listH ?g9 ?g10 (fun _ _ => rfl)
                  case g9 =>
                    refine' pe_ix ix_listH ?g11 ?g12 (fun _ _ => rfl)
                    case g11 => exact pv1 0 rfl lk__law_two_0
                    case g12 =>
                      refine' pe_ix ix_listH ?g13 ?g14 (fun _ _ => rfl)
                      case g13 => exact pv1 1 rfl lk__law_two_1
                      case g14 => exact pe_int
                  case g10 =>
                    refine' pe_ix ix_listH ?g15 ?g16 (fun _ _ => rfl)
                    case g15 => exact pv1 2 rfl lk__law_two_2
                    case g16 => exact pe_int
                case g8 =>
                  refine' pa_c ?g17 ?g18
                  case g17 =>
                    refine' pe_ix ix_listH ?g19 ?g20 (fun _ _ => rfl)
                    case g19 =>
                      refine' pe_ix ix_listH ?g21 ?g22 (fun _ _ => rfl)
                      case g21 => exact pv1 0 rfl lk__law_two_0
                      case g22 =>
                        refine' pe_ix ix_listH ?g23 ?g24 (fun _ _ => rfl)
                        case g23 => exact pv1 1 rfl lk__law_two_1
                        case g24 => exact pe_int
                    case g20 =>
                      refine' pe_ix ix_listH ?g25 ?g26 (fun _ _ => rfl)
                      case g25 => exact pv1 2 rfl lk__law_two_2
                      case g26 => exact pe_int
                  case g18 => exact pa_nil
            case g5 =>
              refine' pa_c ?g27 ?g28
              case g27 =>
                refine' pe_callD C__law_mul (hr.mono (by decide)) gk__law_two__law_mul ?g29
                case g29 =>
                  refine' pa_c ?g30 ?g31
                  case g30 =>
                    refine' pe_ix ix_listH ?g32 ?g33 (fun _ _ => rfl)
                    case g32 =>
                      refine' pe_ix ix_listH ?g34 ?g35 (fun _ _ => rfl)
                      case g34 => exact pv1 0 rfl lk__law_two_0
                      case g35 =>
                        refine' pe_ix ix_listH ?g36 ?g37 (fun _ _ => rfl)
                        case g36 => exact pv1 1 rfl lk__law_two_1
                        case g37 => exact pe_int
                    case g33 =>
                      refine' pe_ix ix_listH ?g38 ?g39 (fun _ _ => rfl)
                      case g38 => exact pv1 2 rfl lk__law_two_2
                      case g39 => exact pe_int
                  case g31 =>
                    refine' pa_c ?g40 ?g41
                    case g40 =>
                      refine' pe_ix ix_listH ?g42 ?g43 (fun _ _ => rfl)
                      case g42 =>
                        refine' pe_ix ix_listH ?g44 ?g45 (fun _ _ => rfl)
                        case g44 => exact pv1 0 rfl lk__law_two_0
                        case g45 =>
                          refine' pe_ix ix_listH ?g46 ?g47 (fun _ _ => rfl)
                          case g46 => exact pv1 1 rfl lk__law_two_1
                          case g47 => exact pe_int
                      case g43 =>
                        refine' pe_ix ix_listH ?g48 ?g49 (fun _ _ => rfl)
                        case g48 => exact pv1 2 rfl lk__law_two_2
                        case g49 => exact pe_int
                    case g41 => exact pa_nil
              case g28 => exact pa_nil
    case R =>
      walk_at "rd"
      simp only [ht, hp, hq, a1, a2, a3, b1, b2, b3, Option.some.injEq, HO.lst.injEq, List.map_cons, List.map_nil, atI_0, atI_1, V.int.injEq, V.ref.injEq, exists_eq_left', exists_eq_left]
      try walk_at "rd"
      refine ⟨.ref e00, .ref e11, _, _, rfl, rep_of a4, rep_of b4, sm00.pos, sm11.pos, (bits_sm sm00).1, (bits_sm sm00).2, (bits_sm sm11).1, (bits_sm sm11).2, fun z1 H1 s1 rep1 => ?_⟩
      have rep1' : Rep (newH H H1) (.ref z1) (dF (nf (N 0 0 * N 1 1) (b 0 * b 1))) := eA ▸ rep1
      simp only [s1 _ _ ht, s1 _ _ hp, s1 _ _ hq, c1, s1 _ _ c2, c3, d1, s1 _ _ d2, d3, Option.some.injEq, HO.lst.injEq, List.map_cons, List.map_nil, atI_0, atI_1, V.int.injEq, V.ref.injEq, exists_eq_left', exists_eq_left]
      try walk_at "rd"
      refine ⟨.ref e01, .ref e10, _, _, rfl, rep_of (s1 _ _ c4), rep_of (s1 _ _ d4), sm01.pos, sm10.pos, (bits_sm sm01).1, (bits_sm sm01).2, (bits_sm sm10).1, (bits_sm sm10).2, fun z2 H2 s2 rep2 => ?_⟩
      have rep2' : Rep (newH H1 H2) (.ref z2) (dF (nf (N 0 1 * N 1 0) (b 0 * b 1))) := eB ▸ rep2
      try walk_at "rd"
      refine ⟨.ref z1, .ref z2, _, _, rfl, Rep.mono (newH_same.trans s2) _ rep1', Rep.mono newH_same _ rep2', lo1.pos, lo2.pos, by omega, by omega, by omega, by omega, fun z3 H3 s3 rep3 => k z3 H3 ((s1.trans s2).trans s3) (Rep.mono (newH_less (s1.trans s2)) _ ?_)⟩
      exact eC ▸ rep3
end Rim47
set_option Elab.async false
set_option linter.all false
set_option maxRecDepth 100000
set_option maxHeartbeats 4000000
namespace Rim47
open PySem PySem.Spec PyProof.Rows L2 RimM RimD
local macro_rules | `(tactic| walk_at "rd") => `(tactic| first | (dsimp only [tSeq, tAsg, gName, tTup, tLst, tCons, tNil, tVar, tC, tCB, tOp, rI, rI0, tTest, tIfS, tNext, tRet, tRetN, tDrop, tB, tAnd, tOr, tNot, tAndV, tOrV, tNotV, rU, tUn, tBM0, tBM, rBits, tCall, L2.start, rIxTH, rIxLH, rLenH, rEqTH, rEq, rNe, CMul, CMulB, CDivB, CDivF, CPow, List.map_cons, List.map_nil, List.length_cons, List.length_nil, List.replicate, List.cons_append, List.nil_append, List.set_cons_zero, List.set_cons_succ, List.getElem?_cons_zero, List.getElem?_cons_succ, gSub, rSetL, rCat, iRng1, tPar, iList, tComp, pick, tYes, iZip, gTup, gCons, gNil, rSum, rListH, List.map, iRng2, iRngD, tSl, rSlH, tPart, tNoPart, tPar3, tIf, tRev, tLRange, rIxT, rPopAt]; try simp only [tSeq, tAsg, gName, tTup, tLst, tCons, tNil, tVar, tC, tCB, tOp, rI, rI0, tTest, tIfS, tNext, tRet, tRetN, tDrop, tB, tAnd, tOr, tNot, tAndV, tOrV, tNotV, rU, tUn, tBM0, tBM, rBits, tCall, L2.start, rIxTH, rIxLH, rLenH, rEqTH, rEq, rNe, scal, tyV, CMul, CMulB, CDivB, CDivF, CPow, List.map_cons, List.map_nil, List.length_cons, List.length_nil, List.replicate, List.cons_append, List.nil_append, List.append_nil, List.set_cons_zero, List.set_cons_succ, List.getElem?_cons_zero, List.getElem?_cons_succ, Option.some.injEq, List.cons.injEq, V.int.injEq, V.bl.injEq, V.str.injEq, V.ref.injEq, V.ty.injEq, HO.tup.injEq, HO.lst.injEq, exists_eq_left, exists_eq_left', exists_and_left, and_assoc, and_true, true_and, upd_same, atI_0, atI_1, atI_2, Nat.zero_add, Nat.reduceAdd, Nat.reduceSub, decide_eq_true_eq, Bool.not_eq_true', decide_eq_false_iff_not, reduceCtorEq, false_or, or_false, true_or, or_true, plainT_int, plainT_bool, plainT_tuple, plainT_list, plainT_str, Bool.false_eq_true, if_false, if_true, Bool.not_false, Bool.not_true, Bool.not_not, gSub, rSetL, ixN_00, upd_upd, rCat, iRng1, tFor_eq, tPar, iList, tComp, pick, tYes, iZip, gTup, gCons, gNil, rSum, rListH, List.map, Option.bind, iRng2, iRngD, tSl, rSlH, tPart, tNoPart, tPar3, tIf, tRev, tLRange, rIxT, rPopAt]) | simp only [tSeq, tAsg, gName, tTup, tLst, tCons, tNil, tVar, tC, tCB, tOp, rI, rI0, tTest, tIfS, tNext, tRet, tRetN, tDrop, tB, tAnd, tOr, tNot, tAndV, tOrV, tNotV, rU, tUn, tBM0, tBM, rBits, tCall, L2.start, rIxTH, rIxLH, rLenH, rEqTH, rEq, rNe, scal, tyV, CMul, CMulB, CDivB, CDivF, CPow, List.map_cons, List.map_nil, List.length_cons, List.length_nil, List.replicate, List.cons_append, List.nil_append, List.append_nil, List.set_cons_zero, List.set_cons_succ, List.getElem?_cons_zero, List.getElem?_cons_succ, Option.some.injEq, List.cons.injEq, V.int.injEq, V.bl.injEq, V.str.injEq, V.ref.injEq, V.ty.injEq, HO.tup.injEq, HO.lst.injEq, exists_eq_left, exists_eq_left', exists_and_left, and_assoc, and_true, true_and, upd_same, atI_0, atI_1, atI_2, Nat.zero_add, Nat.reduceAdd, Nat.reduceSub, decide_eq_true_eq, Bool.not_eq_true', decide_eq_false_iff_not, reduceCtorEq, false_or, or_false, true_or, or_true, plainT_int, plainT_bool, plainT_tuple, plainT_list, plainT_str, Bool.false_eq_true, if_false, if_true, Bool.not_false, Bool.not_true, Bool.not_not, gSub, rSetL, ixN_00, upd_upd, rCat, iRng1, tFor_eq, tPar, iList, tComp, pick, tYes, iZip, gTup, gCons, gNil, rSum, rListH, List.map, Option.bind, iRng2, iRngD, tSl, rSlH, tPart, tNoPart, tPar3, tIf, tRev, tLRange, rIxT, rPopAt])
variable {P : Program} {w : World} {K : PySem.W.Frag} {mg : Str → Option Value} {base : Heap}
theorem nb_sub {g : List (List (Int × Int))} {n : Nat} (h : Gd g n) {P Q : List Int} (hP : In n P) (hQ : In n Q) (hl : P.length = Q.length) (h5 : P.length ≤ 5) : Nb g P Q (ma (nums (sub g P Q))) (bts (sub g P Q)) := by
  have l := sub_len g P Q
  obtain ⟨x1, x2, x3⟩ := due_of (g := sub g P Q) (by omega) (sub_ok h hP hQ hl)
  rw [l] at x1 x2 x3
  exact ⟨fun i j hi hj => by rw [← gat_sub hi hj]; exact x1 i j hi (by omega), x2, fun i j hi hj => x3 i j hi (by omega)⟩
def minI (k : Nat) (r : List Int) : List Int := r.take k ++ r.drop (k + 1)
theorem minI_at {k : Nat} {r : List Int} (h : k < r.length) (j : Nat) : (minI k r).getD j 0 = r.getD (sk k j) 0 := by
  unfold minI sk
  simp only [List.getD_eq_getElem?_getD]
  by_cases hj : j < k
  · rw [if_pos hj, List.getElem?_append_left (by simp; omega), List.getElem?_take_of_lt hj]
  · rw [if_neg hj, List.getElem?_append_right (by simp; omega), List.length_take, Nat.min_eq_left (by omega), List.getElem?_drop, show k + 1 + (j - k) = j + 1 by omega]
theorem minI_len {k : Nat} {r : List Int} (h : k < r.length) : (minI k r).length = r.length - 1 := by
  unfold minI
  simp
  omega
theorem drop1_at (r : List Int) (j : Nat) : (r.drop 1).getD j 0 = r.getD (j + 1) 0 := by
  rw [List.getD_eq_getElem?_getD, List.getD_eq_getElem?_getD, List.getElem?_drop, Nat.add_comm]
theorem nb_minor {g : List (List (Int × Int))} {Ps Qs : List Int} {N : Mat} {b : Nat → Int} (h : Nb g Ps Qs N b) (hP : Ps.length = 3) (hQ : Qs.length = 3) {k : Nat} (hk : k < 3) : Nb g (Ps.drop 1) (minI k Qs) (mi N k) (fun i => b (i + 1)) := by
  have l1 : (Ps.drop 1).length = 2 := by simp [hP]
  have l2 : (minI k Qs).length = 2 := by rw [minI_len (by omega)]; omega
  have sl : ∀ j, j < 2 → sk k j < 3 := fun j hj => by unfold sk; split <;> omega
  refine ⟨fun i j hi hj => ?_, fun i hi => h.bot (i + 1) (by omega), fun i j hi hj => h.top (i + 1) (sk k j) (by omega) (by have := sl j (by omega); omega)⟩
  rw [drop1_at, minI_at (by omega)]
  exact h.eq (i + 1) (sk k j) (by omega) (by have := sl j (by omega); omega)
abbrev s__law_due : Stmt := PySem.Challenge.pw_rimread_k47_minors.main.body.getD 34 (.Pass ⟨0, 0, 0, 0⟩)
theorem sc__law_due : FnScope ["_law_grid", "_law_kp", "_law_kq", "_law_total", "_law_k", "_law_part"] ["_law_grid", "_law_kp", "_law_kq"] (defScope s__law_due) := ⟨rfl, rfl, rfl, by decide +kernel, rfl, by decide +kernel, by decide +kernel⟩
theorem lk__law_due_0 : (defScope s__law_due).names.lookup ("_law_grid" : Str) = some PySem.NameKind.local := by decide +kernel
theorem lk__law_due_1 : (defScope s__law_due).names.lookup ("_law_kp" : Str) = some PySem.NameKind.local := by decide +kernel
theorem lk__law_due_2 : (defScope s__law_due).names.lookup ("_law_kq" : Str) = some PySem.NameKind.local := by decide +kernel
theorem lk__law_due_3 : (defScope s__law_due).names.lookup ("_law_total" : Str) = some PySem.NameKind.local := by decide +kernel
theorem lk__law_due_4 : (defScope s__law_due).names.lookup ("_law_k" : Str) = some PySem.NameKind.local := by decide +kernel
theorem lk__law_due_5 : (defScope s__law_due).names.lookup ("_law_part" : Str) = some PySem.NameKind.local := by decide +kernel
theorem gk__law_due__law_add : (defScope s__law_due).names.lookup ("_law_add" : Str) = some PySem.NameKind.globalImplicit := by decide +kernel
theorem gk__law_due__law_less : (defScope s__law_due).names.lookup ("_law_less" : Str) = some PySem.NameKind.globalImplicit := by decide +kernel
theorem gk__law_due__law_mul : (defScope s__law_due).names.lookup ("_law_mul" : Str) = some PySem.NameKind.globalImplicit := by decide +kernel
theorem gk__law_due__law_two : (defScope s__law_due).names.lookup ("_law_two" : Str) = some PySem.NameKind.globalImplicit := by decide +kernel
theorem gk__law_due_len : (defScope s__law_due).names.lookup ("len" : Str) = some PySem.NameKind.globalImplicit := by decide +kernel
theorem gk__law_due_range : (defScope s__law_due).names.lookup ("range" : Str) = some PySem.NameKind.globalImplicit := by decide +kernel
def sp_due : Sp := fun vs H Q _ => ∃ (t p q : V) (g : List (List (Int × Int))) (Ps Qs : List Int) (n : Nat) (N : Mat) (b : Nat → Int), vs = [t, p, q] ∧ Rep H t (.lst (g.map dRow)) ∧ Rep H p (dI Ps) ∧ Rep H q (dI Qs) ∧ Gd g n ∧ In n Ps ∧ In n Qs ∧ Ps.length = Qs.length ∧ 1 ≤ Ps.length ∧ Ps.length ≤ 3 ∧ Nb g Ps Qs N b ∧
  ∀ z H', Same H H' → Rep (newH H H') (.ref z) (dF (nf (sg Ps.length * D Ps.length N) (pr Ps.length b))) → Q (.ref z) H'
theorem ok__law_due (T : Txt K mg) (F : Fn0 K mg "_law_due" s__law_due) (C__law_less : Cal P w K mg base "_law_less" ["_law_one", "_law_other"] 2 (sp_two (fun p q => p.1 * q.2 - q.1 * p.2))) (C__law_mul : Cal P w K mg base "_law_mul" ["_law_one", "_law_other"] 2 (sp_two (fun p q => p.1 * q.1))) (C__law_add : Cal P w K mg base "_law_add" ["_law_one", "_law_other"] 2 (sp_two (fun p q => p.1 * q.2 + q.1 * p.2))) (C__law_two : Cal P w K mg base "_law_two" ["_law_grid", "_law_kp", "_law_kq"] 3 sp_tw) : Cal P w K mg base "_law_due" ["_law_grid", "_law_kp", "_law_kq"] 4 sp_due := by
  refine cal_of F sc__law_due (fun _ _ _ _ _ _ us hl => match us, hl with | [_, _, _], _ => rfl) ?len ?body
  case len => rintro vs H Q E ⟨a, b, c, d, e, f, g, h, i, rfl, _⟩; rfl
  case body =>
    intro f cdv A outer s H vs Q E hr h
    obtain ⟨t, p, q, g, Ps, Qs, n, N, b, rfl, hT, hPs, hQs, gd, inP, inQ, hl, l1, l3, nb, k⟩ := h
    obtain ⟨t, xs, rfl, ht, hxs⟩ := id hT
    obtain ⟨p, rfl, hp⟩ := rep_ints hPs
    obtain ⟨q, rfl, hq⟩ := rep_ints hQs
    refine' ⟨_, ?D, ?R⟩
    case D =>
      refine' pss_cons ?g1 ?g2
      case g1 =>
        refine' ps_if ?g3 ?g4 ?g5
        case g3 =>
          refine' pt_cmpR op_eq ?g6 ?g7 (nomark _)
          case g6 =>
            refine' pe_callE call_lenH gk__law_due_len T.n_len bt_len ?g8
            case g8 =>
              refine' pa_c ?g9 ?g10
              case g9 => exact pv1 1 rfl lk__law_due_1
              case g10 => exact pa_nil
          case g7 => exact pe_int
        case g4 =>
          refine' pss_one ?g11
          case g11 =>
            refine' ps_ret ?g12
            case g12 =>
              refine' pe_callD C__law_less (hr.mono (by decide)) gk__law_due__law_less ?g13
              case g13 =>
                refine' pa_c ?g14 ?g15
                case g14 =>
                  refine' pe_tup ?g16
                  case g16 =>
                    refine' pa_c ?g17 ?g18
                    case g17 => exact pe_int
                    case g18 =>
                      refine' pa_c ?g19 ?g20
                      case g19 => exact pe_int
                      case g20 => exact pa_nil
                case g15 =>
                  refine' pa_c ?g21 ?g22
                  case g21 =>
                    refine' pe_ix ix_listH ?g23 ?g24 (fun _ _ => rfl)
                    case g23 =>
                      refine' pe_ix ix_listH ?g25 ?g26 (fun _ _ => rfl)
                      case g25 => exact pv1 0 rfl lk__law_due_0
                      case g26 =>
                        refine' pe_ix ix_listH ?g27 ?g28 (fun _ _ => rfl)
                        case g27 => exact pv1 1 rfl lk__law_due_1
                        case g28 => exact pe_int
                    case g24 =>
                      refine' pe_ix ix_listH ?g29 ?g30 (fun _ _ => rfl)
                      case g29 => exact pv1 2 rfl lk__law_due_2
                      case g30 => exact pe_int
                  case g22 => exact pa_nil
        case g5 => exact pss_nil
      case g2 =>
        refine' pss_cons ?g31 ?g32
        case g31 =>
          refine' ps_if ?g33 ?g34 ?g35
          case g33 =>
            refine' pt_cmpR op_eq ?g36 ?g37 (nomark _)
            case g36 =>
              refine' pe_callE call_lenH gk__law_due_len T.n_len bt_len ?g38
              case g38 =>
                refine' pa_c ?g39 ?g40
                case g39 => exact pv1 1 rfl lk__law_due_1
                case g40 => exact pa_nil
            case g37 => exact pe_int
          case g34 =>
            refine' pss_one ?g41
            case g41 =>
              refine' ps_ret ?g42
              case g42 =>
                refine' pe_callD C__law_two (hr.mono (by decide)) gk__law_due__law_two ?g43
                case g43 =>
                  refine' pa_c ?g44 ?g45
                  case g44 => exact pv1 0 rfl lk__law_due_0
                  case g45 =>
                    refine' pa_c ?g46 ?g47
                    case g46 => exact pv1 1 rfl lk__law_due_1
                    case g47 =>
                      refine' pa_c ?g48 ?g49
                      case g48 => exact pv1 2 rfl lk__law_due_2
                      case g49 => exact pa_nil
          case g35 => exact pss_nil
        case g32 =>
          refine' pss_cons ?g50 ?g51
          case g50 =>
            refine' ps_set1 (i := 3) sc__law_due.nd rfl lk__law_due_3 ?g52
            case g52 =>
              refine' pe_tup ?g53
              case g53 =>
                refine' pa_c ?g54 ?g55
                case g54 => exact pe_int
                case g55 =>
                  refine' pa_c ?g56 ?g57
                  case g56 => exact pe_int
                  case g57 => exact pa_nil
          case g51 =>
            refine' pss_cons ?g58 ?g59
            case g58 =>
              refine' ps_for PassesOwn.never rfl ?g60 ?g61 ?g62
              case g60 =>
                refine' pi_range1 gk__law_due_range T.n_range ?g63
                case g63 =>
                  refine' pa_c ?g64 ?g65
                  case g64 => exact pe_int
                  case g65 => exact pa_nil
              case g61 => exact pg_name1 (i := 4) sc__law_due.nd rfl lk__law_due_4
              case g62 =>
                refine' pss_cons ?g66 ?g67
                case g66 =>
                  refine' ps_set1 (i := 5) sc__law_due.nd rfl lk__law_due_5 ?g68
                  case g68 =>
                    refine' pe_callD C__law_mul (hr.mono (by decide)) gk__law_due__law_mul ?g69
                    case g69 =>
                      refine' pa_c ?g70 ?g71
                      case g70 =>
                        refine' pe_ix ix_listH ?g72 ?g73 (fun _ _ => rfl)
                        case g72 =>
                          refine' pe_ix ix_listH ?g74 ?g75 (fun _ _ => rfl)
                          case g74 => exact pv1 0 rfl lk__law_due_0
                          case g75 =>
                            refine' pe_ix ix_listH ?g76 ?g77 (fun _ _ => rfl)
                            case g76 => exact pv1 1 rfl lk__law_due_1
                            case g77 => exact pe_int
                        case g73 =>
                          refine' pe_ix ix_listH ?g78 ?g79 (fun _ _ => rfl)
                          case g78 => exact pv1 2 rfl lk__law_due_2
                          case g79 => exact pv1 4 rfl lk__law_due_4
                      case g71 =>
                        refine' pa_c ?g80 ?g81
                        case g80 =>
                          refine' pe_callD C__law_two (hr.mono (by decide)) gk__law_due__law_two ?g82
                          case g82 =>
                            refine' pa_c ?g83 ?g84
                            case g83 => exact pv1 0 rfl lk__law_due_0
                            case g84 =>
                              refine' pa_c ?g85 ?g86
                              case g85 =>
                                refine' pe_slice sl_listH ?g87 ?g88 ?g89
                                case g87 => exact pv1 1 rfl lk__law_due_1
                                case g88 =>
                                  refine' po_some ?g90
                                  case g90 => exact pe_int
                                case g89 => exact po_none
                              case g86 =>
                                refine' pa_c ?g91 ?g92
                                case g91 =>
                                  refine' pe_op op_cat ?g93 ?g94
                                  case g93 =>
                                    refine' pe_slice sl_listH ?g95 ?g96 ?g97
                                    case g95 => exact pv1 2 rfl lk__law_due_2
                                    case g96 => exact po_none
                                    case g97 =>
                                      refine' po_some ?g98
                                      case g98 => exact pv1 4 rfl lk__law_due_4
                                  case g94 =>
                                    refine' pe_slice sl_listH ?g99 ?g100 ?g101
                                    case g99 => exact pv1 2 rfl lk__law_due_2
                                    case g100 =>
                                      refine' po_some ?g102
                                      case g102 =>
                                        refine' pe_op op_add ?g103 ?g104
                                        case g103 => exact pv1 4 rfl lk__law_due_4
                                        case g104 => exact pe_int
                                    case g101 => exact po_none
                                case g92 => exact pa_nil
                        case g81 => exact pa_nil
                case g67 =>
                  refine' pss_one ?g105
                  case g105 =>
                    refine' ps_set1 (i := 3) sc__law_due.nd rfl lk__law_due_3 ?g106
                    case g106 =>
                      refine' pe_callD C__law_add (hr.mono (by decide)) gk__law_due__law_add ?g107
                      case g107 =>
                        refine' pa_c ?g108 ?g109
                        case g108 => exact pv1 3 rfl lk__law_due_3
                        case g109 =>
                          refine' pa_c ?g110 ?g111
                          case g110 =>
                            refine' pe_tup ?g112
                            case g112 =>
                              refine' pa_c ?g113 ?g114
                              case g113 =>
                                refine' pe_op op_mul ?g115 ?g116
                                case g115 =>
                                  refine' pe_ix ix_tupH ?g117 ?g118 (fun _ _ => rfl)
                                  case g117 => exact pv1 5 rfl lk__law_due_5
                                  case g118 => exact pe_int
                                case g116 =>
                                  refine' pe_op op_sub ?g119 ?g120
                                  case g119 =>
                                    refine' pe_op op_mul ?g121 ?g122
                                    case g121 => exact pe_int
                                    case g122 =>
                                      refine' pe_op op_mod ?g123 ?g124
                                      case g123 => exact pv1 4 rfl lk__law_due_4
                                      case g124 => exact pe_int
                                  case g120 => exact pe_int
                              case g114 =>
                                refine' pa_c ?g125 ?g126
                                case g125 =>
                                  refine' pe_ix ix_tupH ?g127 ?g128 (fun _ _ => rfl)
                                  case g127 => exact pv1 5 rfl lk__law_due_5
                                  case g128 => exact pe_int
                                case g126 => exact pa_nil
                          case g111 => exact pa_nil
            case g59 =>
              refine' pss_one ?g129
              case g129 =>
                refine' ps_ret ?g130
                case g130 => exact pv1 3 rfl lk__law_due_3
    case R =>
      walk_at "rd"
      refine ⟨_, .inl hp, ?_⟩
      rw [List.length_map]
      refine ite2 (fun h1 => ?_) (fun h1 => ?_)
      · obtain ⟨p0, rfl⟩ : ∃ x, Ps = [x] := List.length_eq_one_iff.mp (by omega)
        obtain ⟨q0, rfl⟩ : ∃ x, Qs = [x] := List.length_eq_one_iff.mp (by simpa using hl.symm)
        obtain ⟨r0, y0, e0, a1, a2, a3, a4, sm⟩ := gat_get gd (inP p0 (by simp)) (inQ q0 (by simp)) hxs
        have n00 : (gat g p0.toNat q0.toNat).1 * b 0 = N 0 0 * (gat g p0.toNat q0.toNat).2 := nb.eq 0 0 (by simp) (by simp)
        have bb := nb.bot 0 (by simp)
        have eV := nf_minus1 sm.pos (by omega) n00
        refine ⟨by decide, fun z0 n0 => ?_⟩
        have S0 : Same H (upd H z0 (HO.tup [V.int 0, V.int 1])) := Same.new n0
        refine ⟨_, S0 _ _ hp, _, rfl, _, _, rfl, S0 _ _ ht, _, a1, _, S0 _ _ hq, _, rfl, _, rfl, _, _, rfl, S0 _ _ a2, _, a3, .ref z0, .ref e0, (0, 1), _, rfl, rep_of upd_same, rep_of (S0 _ _ a4), by decide, sm.pos, by decide +kernel, by decide +kernel, (bits_sm sm).1, (bits_sm sm).2, fun z1 H1 s1 rep1 => k z1 H1 (S0.trans s1) (Rep.mono (newH_less S0) _ ?_)⟩
        have eG : nf (sg 1 * D 1 N) (pr 1 b) = nf (-N 0 0) (b 0) := by rw [D_one, pr_one, show sg 1 = -1 from rfl, Int.neg_mul, Int.one_mul]
        show Rep _ _ (dF (nf (sg 1 * D 1 N) (pr 1 b)))
        rw [eG, ← eV]
        exact rep1
      · refine ⟨_, .inl hp, ?_⟩
        rw [List.length_map]
        refine ite2 (fun h2 => ?_) (fun h2 => ?_)
        · have lP : Ps.length = 2 := by omega
          refine ⟨.ref t, .ref p, .ref q, g, Ps, Qs, n, N, b, rfl, hT, hPs, hQs, gd, inP, inQ, lP, by omega, nb, fun z H' s' rep => k z H' s' ?_⟩
          rw [lP, show sg 2 = 1 from rfl, Int.one_mul]
          exact rep
        · have lP : Ps.length = 3 := by omega
          have lQ : Qs.length = 3 := by omega
          rw [lP] at k
          try walk_at "rd"
          refine ⟨by decide, fun t0 nt0 => ⟨by decide, by decide, ?_⟩⟩
          have S0 : Same H (upd H t0 (HO.tup [V.int 0, V.int 1])) := Same.new nt0
          have ht0 := upd_same (H := H) (a := t0) (o := HO.tup [V.int 0, V.int 1])
          generalize upd H t0 (HO.tup [V.int 0, V.int 1]) = H0 at *
          have hb : ∀ i, i < 3 → 0 < b i ∧ (b i).natAbs ≤ 2 ^ 165 := fun i hi => nb.bot i (by omega)
          have hNB : ∀ i j, i < 3 → j < 3 → (N i j).natAbs ≤ 2 ^ 165 := fun i j hi hj => nb.top i j (by omega) (by omega)
          have bpos : 0 < pr 3 b := pr_pos fun i hi => (hb i hi).1
          have bpos' : 0 < pr 2 fun i => b (i + 1) := pr_pos fun i hi => (hb (i + 1) (by omega)).1
          have prl := pr_le (B := 165) (n := 3) (b := b) fun i hi => (hb i hi).2
          have prl' := pr_le (B := 165) (n := 2) (b := fun i => b (i + 1)) fun i hi => (hb (i + 1) (by omega)).2
          have Dl : ∀ kk, kk < 3 → (D 2 (mi N kk)).natAbs ≤ 2 ^ ((165 + 3) * 2) := fun kk hk => D_le (by omega) fun i j hi hj => hNB _ _ (by omega) (by unfold sk; split <;> omega)
          have tl : ∀ kk, kk < 3 → (N 0 kk * D 2 (mi N kk)).natAbs ≤ 2 ^ (165 + (165 + 3) * 2) := fun kk hk => by
            rw [Int.natAbs_mul, Nat.pow_add]
            exact Nat.mul_le_mul (hNB 0 kk (by omega) hk) (Dl kk hk)
          have sl : ∀ kk, kk ≤ 3 → (su kk fun k => -(sg k * N 0 k * D 2 (mi N k))).natAbs ≤ 2 ^ (168 + (165 + 3) * 2) := fun kk hk => by
            have z := su_le (n := kk) (f := fun k => -(sg k * N 0 k * D 2 (mi N k))) (K := 2 ^ (165 + (165 + 3) * 2)) fun j hj => by
              show (-(sg j * N 0 j * D 2 (mi N j))).natAbs ≤ _
              rw [Int.natAbs_neg, Int.mul_assoc, Int.natAbs_mul, sg_abs, Nat.one_mul]
              exact tl j (by omega)
            refine Nat.le_trans z (Nat.le_trans (Nat.mul_le_mul_right _ (show kk ≤ 2 ^ 3 by omega)) ?_)
            rw [← Nat.pow_add]
            exact Nat.pow_le_pow_right (by decide) (by omega)
          refine go_range (fun i σ H' => ∃ (tz : Addr) (e z : Option V), σ = [some (.ref t), some (.ref p), some (.ref q), some (.ref tz), e, z] ∧ Same H H' ∧ Rep (newH H H') (.ref tz) (dF (nf (su i fun k => -(sg k * N 0 k * D 2 (mi N k))) (pr 3 b)))) ⟨t0, none, none, rfl, S0, ?_⟩ ?_ ?_
          · show Rep _ _ (dF (nf 0 (pr 3 b)))
            rw [nf_nought (by omega)]
            exact ⟨t0, _, rfl, by rw [newH_at nt0]; exact ht0, _, _, rfl, rfl, _, _, rfl, rfl, rfl⟩
          · rintro i σ H' hi ⟨tz, e, z, rfl, s1, rept⟩
            have hi3 : i < 3 := hi
            rw [Int.zero_add]
            obtain ⟨r0, y0, e0, a1, a2, a3, a4, sm⟩ := gat_get gd (inP (Ps[0]'(by omega)) (List.getElem_mem _)) (inQ (Qs[i]'(by omega)) (List.getElem_mem _)) hxs
            have g0i : (gat g (Ps[0]'(by omega)).toNat (Qs[i]'(by omega)).toNat).1 * b 0 = N 0 i * (gat g (Ps[0]'(by omega)).toNat (Qs[i]'(by omega)).toNat).2 := by
              have z := nb.eq 0 i (by omega) (by omega)
              rw [show Ps.getD 0 0 = Ps[0]'(by omega) by rw [List.getD_eq_getElem?_getD, List.getElem?_eq_getElem (by omega)]; rfl, show Qs.getD i 0 = Qs[i]'(by omega) by rw [List.getD_eq_getElem?_getD, List.getElem?_eq_getElem (by omega)]; rfl] at z
              exact z
            have hp0 : atI (Ps.map V.int) 0 = some (.int (Ps[0]'(by omega))) := atI_nn (by decide) (by show (Ps.map V.int)[0]? = _; rw [List.getElem?_map, List.getElem?_eq_getElem (by omega)]; rfl)
            have hqi : atI (Qs.map V.int) (i : Int) = some (.int (Qs[i]'(by omega))) := atI_nn (by omega) (by rw [show ((i : Nat) : Int).toNat = i by omega, List.getElem?_map, List.getElem?_eq_getElem (by omega)]; rfl)
            generalize gat g (Ps[0]'(by omega)).toNat (Qs[i]'(by omega)).toNat = pe at *
            walk_at "rd"
            have c1 : cutV (Ps.map V.int) (some 1) none = (Ps.drop 1).map V.int := by rw [show (1 : Int) = ((1 : Nat) : Int) from rfl, cut_from _ 1 (by simp; omega), List.map_drop]
            have c2 : cutV (Qs.map V.int) none (some (i : Int)) = (Qs.take i).map V.int := by rw [cut_to _ i (by simp; omega), List.map_take]
            have c3 : cutV (Qs.map V.int) (some ((i : Int) + 1)) none = (Qs.drop (i + 1)).map V.int := by rw [show (i : Int) + 1 = ((i + 1 : Nat) : Int) by omega, cut_from _ (i + 1) (by simp; omega), List.map_drop]
            refine ⟨_, s1 _ _ hp, _, hp0, _, _, rfl, s1 _ _ ht, _, a1, _, s1 _ _ hq, _, hqi, _, rfl, _, _, rfl, s1 _ _ a2, _, a3, _, s1 _ _ hp, fun p5 n5 => ⟨_, (Same.new n5) _ _ (s1 _ _ hq), fun p6 n6 => ?_⟩⟩
            rw [c1] at n6 ⊢
            rw [c2]
            have S6 : Same H' (upd (upd H' p5 (HO.lst ((Ps.drop 1).map V.int))) p6 (HO.lst ((Qs.take i).map V.int))) := (Same.new n5).trans (Same.new n6)
            have h5 := (Same.new n6 (o := HO.lst ((Qs.take i).map V.int))) _ _ (upd_same (H := H') (a := p5) (o := HO.lst ((Ps.drop 1).map V.int)))
            have h6 := upd_same (H := upd H' p5 (HO.lst ((Ps.drop 1).map V.int))) (a := p6) (o := HO.lst ((Qs.take i).map V.int))
            generalize upd (upd H' p5 (HO.lst ((Ps.drop 1).map V.int))) p6 (HO.lst ((Qs.take i).map V.int)) = H6 at *
            refine ⟨_, S6 _ _ (s1 _ _ hq), fun p7 n7 => ?_⟩
            rw [c3]
            have S7 : Same H' (upd H6 p7 (HO.lst ((Qs.drop (i + 1)).map V.int))) := S6.trans (Same.new n7)
            have h5' := (Same.new n7 (o := HO.lst ((Qs.drop (i + 1)).map V.int))) _ _ h5
            have h6' := (Same.new n7 (o := HO.lst ((Qs.drop (i + 1)).map V.int))) _ _ h6
            generalize upd H6 p7 (HO.lst ((Qs.drop (i + 1)).map V.int)) = H7 at *
            refine ⟨_, h6', Nat.le_of_lt (small1000 (by simp; omega)), fun p8 n8 => ?_⟩
            rw [← List.map_append, show Qs.take i ++ Qs.drop (i + 1) = minI i Qs from rfl]
            have S8 : Same H' (upd H7 p8 (HO.lst ((minI i Qs).map V.int))) := S7.trans (Same.new n8)
            have h8 := upd_same (H := H7) (a := p8) (o := HO.lst ((minI i Qs).map V.int))
            have h5'' := (Same.new n8 (o := HO.lst ((minI i Qs).map V.int))) _ _ h5'
            generalize upd H7 p8 (HO.lst ((minI i Qs).map V.int)) = H8 at *
            clear h5 h6 h5' h6' S6 S7 n5 n6 n7 n8
            have U8 := s1.trans S8
            refine ⟨.ref t, .ref p5, .ref p8, g, Ps.drop 1, minI i Qs, n, mi N i, fun j => b (j + 1), rfl, Rep.mono U8 _ hT, rep_of_ints h5'', rep_of_ints h8, gd, fun x hx => inP x (List.mem_of_mem_drop hx), fun x hx => inQ x (by
              rcases List.mem_append.mp hx with h | h
              · exact List.mem_of_mem_take h
              · exact List.mem_of_mem_drop h), by simp [lP], by rw [minI_len (by omega)]; omega, nb_minor nb lP lQ hi3, fun zz H3 s3 repz => ?_⟩
            have b00 := (hb 0 (by omega)).1
            have eP : nf (pe.1 * (nf (D 2 (mi N i)) (pr 2 fun j => b (j + 1))).1) (pe.2 * (nf (D 2 (mi N i)) (pr 2 fun j => b (j + 1))).2) = nf (N 0 i * D 2 (mi N i)) (pr 3 b) := by
              rw [show pr 3 b = b 0 * pr 2 fun i => b (i + 1) from pr_front 2 b]
              exact nf_mul sm.pos (by omega) (by omega) g0i
            have lowX := (nf_low (t := D 2 (mi N i)) (b := pr 2 fun j => b (j + 1)) (by omega)).1
            have bX := nf_abs (t := D 2 (mi N i)) bpos' (Dl i hi) prl'
            have lowP := (nf_low (t := N 0 i * D 2 (mi N i)) (b := pr 3 b) (by omega)).1
            have bP := nf_abs (t := N 0 i * D 2 (mi N i)) bpos (tl i hi) prl
            have lowT := (nf_low (t := su i fun k => -(sg k * N 0 k * D 2 (mi N k))) (b := pr 3 b) (by omega)).1
            have bT := nf_abs (t := su i fun k => -(sg k * N 0 k * D 2 (mi N k))) bpos (sl i (by omega)) prl
            have bs := bits_sm sm
            refine ⟨.ref e0, .ref zz, pe, nf (D 2 (mi N i)) (pr 2 fun j => b (j + 1)), rfl, rep_of ((U8.trans s3) _ _ a4), Rep.mono newH_same _ repz, sm.pos, lowX.pos, bs.1, bs.2, by omega, by omega, fun z4 H4 s4 rep4 => ?_⟩
            have rep4' : Rep (newH H3 H4) (.ref z4) (dF (nf (N 0 i * D 2 (mi N i)) (pr 3 b))) := eP ▸ rep4
            obtain ⟨_, e4, hz4⟩ := rep_dF rep4'
            cases e4
            have hz4' := (newH_of hz4).2
            try walk_at "rd"
            refine ⟨_, hz4', _, atI_0, by decide, .inl ⟨by decide, by decide⟩, _, rfl, .inr ⟨by omega, by omega⟩, _, hz4', _, atI_1, by decide, fun t5 n5 => ?_⟩
            rw [sgm_int]
            have U4 := (U8.trans s3).trans s4
            have H'4 := (S8.trans s3).trans s4
            have sga := sg_abs i
            have bS : Builtin.Int.intBits ((nf (N 0 i * D 2 (mi N i)) (pr 3 b)).1 * -sg i) ≤ 165 + (165 + 3) * 2 + 1 := PyProof.Rows.bits_of_natAbs_le (b := (nf (N 0 i * D 2 (mi N i)) (pr 3 b)).1) (by rw [Int.natAbs_mul, Int.natAbs_neg, sga]; omega) bP.1
            refine ⟨.ref tz, .ref t5, nf (su i fun k => -(sg k * N 0 k * D 2 (mi N k))) (pr 3 b), ((nf (N 0 i * D 2 (mi N i)) (pr 3 b)).1 * -sg i, (nf (N 0 i * D 2 (mi N i)) (pr 3 b)).2), rfl, Rep.mono ((newH_same.trans H'4).trans (Same.new n5)) _ rept, ⟨t5, _, rfl, upd_same, _, _, rfl, rfl, _, _, rfl, rfl, rfl⟩, lowT.pos, lowP.pos, by omega, by omega, ?_, ?_, fun z6 H6 s6 rep6 => ⟨z6, rfl, (U4.trans (Same.new n5)).trans s6, ?_⟩⟩
            · show Builtin.Int.intBits ((nf (N 0 i * D 2 (mi N i)) (pr 3 b)).1 * -sg i) ≤ 2000
              omega
            · show Builtin.Int.intBits (nf (N 0 i * D 2 (mi N i)) (pr 3 b)).2 ≤ 2000
              omega
            have eF := nf_add (t := su i fun k => -(sg k * N 0 k * D 2 (mi N k))) (t' := N 0 i * D 2 (mi N i)) (b := pr 3 b) (s := -sg i) (by omega)
            have eS : (su i fun k => -(sg k * N 0 k * D 2 (mi N k))) + N 0 i * D 2 (mi N i) * -sg i = su (i + 1) fun k => -(sg k * N 0 k * D 2 (mi N k)) := by
              show _ = (su i fun k => -(sg k * N 0 k * D 2 (mi N k))) + -(sg i * N 0 i * D 2 (mi N i))
              rw [Int.mul_neg, Int.mul_comm (N 0 i * D 2 (mi N i)) (sg i), Int.mul_assoc]
            rw [eS] at eF
            have rep6' : Rep (newH (upd H4 t5 (HO.tup [V.int ((nf (N 0 i * D 2 (mi N i)) (pr 3 b)).1 * -sg i), V.int (nf (N 0 i * D 2 (mi N i)) (pr 3 b)).2])) H6) (.ref z6) (dF (nf (su (i + 1) fun k => -(sg k * N 0 k * D 2 (mi N k))) (pr 3 b))) := eF ▸ rep6
            exact Rep.mono (newH_less (U4.trans (Same.new n5))) _ rep6'
          · rintro σ H' ⟨tz, e, z, rfl, s1, rept⟩
            walk_at "rd"
            refine k tz H' s1 ?_
            rw [su_neg] at rept
            rw [show sg 3 = -1 from rfl, Int.neg_mul, Int.one_mul]
            exact rept
end Rim47
set_option Elab.async false
set_option linter.all false
set_option maxRecDepth 100000
set_option maxHeartbeats 4000000
namespace Rim47
open PySem PySem.Spec PyProof.Rows L2 RimM RimD
local macro_rules | `(tactic| walk_at "rd") => `(tactic| first | (dsimp only [tSeq, tAsg, gName, tTup, tLst, tCons, tNil, tVar, tC, tCB, tOp, rI, rI0, tTest, tIfS, tNext, tRet, tRetN, tDrop, tB, tAnd, tOr, tNot, tAndV, tOrV, tNotV, rU, tUn, tBM0, tBM, rBits, tCall, L2.start, rIxTH, rIxLH, rLenH, rEqTH, rEq, rNe, CMul, CMulB, CDivB, CDivF, CPow, List.map_cons, List.map_nil, List.length_cons, List.length_nil, List.replicate, List.cons_append, List.nil_append, List.set_cons_zero, List.set_cons_succ, List.getElem?_cons_zero, List.getElem?_cons_succ, gSub, rSetL, rCat, iRng1, tPar, iList, tComp, pick, tYes, iZip, gTup, gCons, gNil, rSum, rListH, List.map, iRng2, iRngD, tSl, rSlH, tPart, tNoPart, tPar3, tIf, tRev, tLRange, rIxT, rPopAt]; try simp only [tSeq, tAsg, gName, tTup, tLst, tCons, tNil, tVar, tC, tCB, tOp, rI, rI0, tTest, tIfS, tNext, tRet, tRetN, tDrop, tB, tAnd, tOr, tNot, tAndV, tOrV, tNotV, rU, tUn, tBM0, tBM, rBits, tCall, L2.start, rIxTH, rIxLH, rLenH, rEqTH, rEq, rNe, scal, tyV, CMul, CMulB, CDivB, CDivF, CPow, List.map_cons, List.map_nil, List.length_cons, List.length_nil, List.replicate, List.cons_append, List.nil_append, List.append_nil, List.set_cons_zero, List.set_cons_succ, List.getElem?_cons_zero, List.getElem?_cons_succ, Option.some.injEq, List.cons.injEq, V.int.injEq, V.bl.injEq, V.str.injEq, V.ref.injEq, V.ty.injEq, HO.tup.injEq, HO.lst.injEq, exists_eq_left, exists_eq_left', exists_and_left, and_assoc, and_true, true_and, upd_same, atI_0, atI_1, atI_2, Nat.zero_add, Nat.reduceAdd, Nat.reduceSub, decide_eq_true_eq, Bool.not_eq_true', decide_eq_false_iff_not, reduceCtorEq, false_or, or_false, true_or, or_true, plainT_int, plainT_bool, plainT_tuple, plainT_list, plainT_str, Bool.false_eq_true, if_false, if_true, Bool.not_false, Bool.not_true, Bool.not_not, gSub, rSetL, ixN_00, upd_upd, rCat, iRng1, tFor_eq, tPar, iList, tComp, pick, tYes, iZip, gTup, gCons, gNil, rSum, rListH, List.map, Option.bind, iRng2, iRngD, tSl, rSlH, tPart, tNoPart, tPar3, tIf, tRev, tLRange, rIxT, rPopAt]) | simp only [tSeq, tAsg, gName, tTup, tLst, tCons, tNil, tVar, tC, tCB, tOp, rI, rI0, tTest, tIfS, tNext, tRet, tRetN, tDrop, tB, tAnd, tOr, tNot, tAndV, tOrV, tNotV, rU, tUn, tBM0, tBM, rBits, tCall, L2.start, rIxTH, rIxLH, rLenH, rEqTH, rEq, rNe, scal, tyV, CMul, CMulB, CDivB, CDivF, CPow, List.map_cons, List.map_nil, List.length_cons, List.length_nil, List.replicate, List.cons_append, List.nil_append, List.append_nil, List.set_cons_zero, List.set_cons_succ, List.getElem?_cons_zero, List.getElem?_cons_succ, Option.some.injEq, List.cons.injEq, V.int.injEq, V.bl.injEq, V.str.injEq, V.ref.injEq, V.ty.injEq, HO.tup.injEq, HO.lst.injEq, exists_eq_left, exists_eq_left', exists_and_left, and_assoc, and_true, true_and, upd_same, atI_0, atI_1, atI_2, Nat.zero_add, Nat.reduceAdd, Nat.reduceSub, decide_eq_true_eq, Bool.not_eq_true', decide_eq_false_iff_not, reduceCtorEq, false_or, or_false, true_or, or_true, plainT_int, plainT_bool, plainT_tuple, plainT_list, plainT_str, Bool.false_eq_true, if_false, if_true, Bool.not_false, Bool.not_true, Bool.not_not, gSub, rSetL, ixN_00, upd_upd, rCat, iRng1, tFor_eq, tPar, iList, tComp, pick, tYes, iZip, gTup, gCons, gNil, rSum, rListH, List.map, Option.bind, iRng2, iRngD, tSl, rSlH, tPart, tNoPart, tPar3, tIf, tRev, tLRange, rIxT, rPopAt])
variable {P : Program} {w : World} {K : PySem.W.Frag} {mg : Str → Option Value} {base : Heap}
theorem map_erase {f : Int → V} : ∀ (l : List Int) (i : Nat), (l.map f).eraseIdx i = (l.eraseIdx i).map f
  | [], i => by simp
  | a :: l, 0 => rfl
  | a :: l, i + 1 => by
    show f a :: (l.map f).eraseIdx i = f a :: (l.eraseIdx i).map f
    rw [map_erase l i]
abbrev s__law_runs_by : Stmt := PySem.Challenge.pw_rimread_k47_minors.main.body.getD 35 (.Pass ⟨0, 0, 0, 0⟩)
theorem sc__law_runs_by : FnScope ["_law_rest", "_law_n", "_law_size", "_law_posts", "_law_turn"] ["_law_rest", "_law_n"] (defScope s__law_runs_by) := ⟨rfl, rfl, rfl, by decide +kernel, rfl, by decide +kernel, by decide +kernel⟩
theorem lk__law_runs_by_0 : (defScope s__law_runs_by).names.lookup ("_law_rest" : Str) = some PySem.NameKind.local := by decide +kernel
theorem lk__law_runs_by_1 : (defScope s__law_runs_by).names.lookup ("_law_n" : Str) = some PySem.NameKind.local := by decide +kernel
theorem lk__law_runs_by_2 : (defScope s__law_runs_by).names.lookup ("_law_size" : Str) = some PySem.NameKind.local := by decide +kernel
theorem lk__law_runs_by_3 : (defScope s__law_runs_by).names.lookup ("_law_posts" : Str) = some PySem.NameKind.local := by decide +kernel
theorem lk__law_runs_by_4 : (defScope s__law_runs_by).names.lookup ("_law_turn" : Str) = some PySem.NameKind.local := by decide +kernel
theorem gk__law_runs_by__law_digit : (defScope s__law_runs_by).names.lookup ("_law_digit" : Str) = some PySem.NameKind.globalImplicit := by decide +kernel
theorem gk__law_runs_by_len : (defScope s__law_runs_by).names.lookup ("len" : Str) = some PySem.NameKind.globalImplicit := by decide +kernel
theorem gk__law_runs_by_list : (defScope s__law_runs_by).names.lookup ("list" : Str) = some PySem.NameKind.globalImplicit := by decide +kernel
theorem gk__law_runs_by_range : (defScope s__law_runs_by).names.lookup ("range" : Str) = some PySem.NameKind.globalImplicit := by decide +kernel
def sp_runs : Sp := fun vs H Q _ => ∃ (l : Addr) (r : Int) (n : Nat), vs = [.ref l, .int n] ∧ H l = some (.lst [.int r]) ∧ 2 ≤ n ∧ n ≤ 6 ∧
  ∀ z H' r' Ps Qs, But l H H' → H' l = some (.lst [.int r']) → Rep (newH H H') (.ref z) (.tup [dI Ps, dI Qs]) → Ps.length = Qs.length → 1 ≤ Ps.length → Ps.length ≤ 3 → In n Ps → In n Qs → Q (.ref z) H'
theorem ok__law_runs_by (T : Txt K mg) (F : Fn0 K mg "_law_runs_by" s__law_runs_by) (C__law_digit : Cal P w K mg base "_law_digit" ["_law_rest", "_law_many"] 1 sp_digit) : Cal P w K mg base "_law_runs_by" ["_law_rest", "_law_n"] 2 sp_runs := by
  refine cal_of F sc__law_runs_by (fun _ _ _ _ _ _ us hl => match us, hl with | [_, _], _ => rfl) ?len ?body
  case len => rintro vs H Q E ⟨a, b, c, rfl, _⟩; rfl
  case body =>
    intro f cdv A outer s H vs Q E hr h
    obtain ⟨l, r, n, rfl, hl, n2, n6, k⟩ := h
    refine' ⟨_, ?D, ?R⟩
    case D =>
      refine' pss_cons ?g1 ?g2
      case g1 =>
        refine' ps_set1 (i := 2) sc__law_runs_by.nd rfl lk__law_runs_by_2 ?g3
        case g3 =>
          refine' pe_op op_add ?g4 ?g5
          case g4 => exact pe_int
          case g5 =>
            refine' pe_callD C__law_digit (hr.mono (by decide)) gk__law_runs_by__law_digit ?g6
            case g6 =>
              refine' pa_c ?g7 ?g8
              case g7 => exact pv1 0 rfl lk__law_runs_by_0
              case g8 =>
                refine' pa_c ?g9 ?g10
                case g9 =>
                  refine' pe_op op_fdivB ?g11 ?g12
                  case g11 => exact pv1 1 rfl lk__law_runs_by_1
                  case g12 => exact pe_int
                case g10 => exact pa_nil
      case g2 =>
        refine' pss_cons ?g13 ?g14
        case g13 =>
          refine' ps_set1 (i := 3) sc__law_runs_by.nd rfl lk__law_runs_by_3 ?g15
          case g15 =>
            refine' pe_listRange rfl gk__law_runs_by_list T.n_list gk__law_runs_by_range T.n_range ?g16
            case g16 =>
              refine' pa_c ?g17 ?g18
              case g17 => exact pv1 1 rfl lk__law_runs_by_1
              case g18 => exact pa_nil
        case g14 =>
          refine' pss_cons ?g19 ?g20
          case g19 =>
            refine' ps_while PassesOwn.never ?g21 ?g22
            case g21 =>
              refine' pt_cmpR op_gt ?g23 ?g24 (nomark _)
              case g23 =>
                refine' pe_callE call_lenH gk__law_runs_by_len T.n_len bt_len ?g25
                case g25 =>
                  refine' pa_c ?g26 ?g27
                  case g26 => exact pv1 3 rfl lk__law_runs_by_3
                  case g27 => exact pa_nil
              case g24 =>
                refine' pe_op op_mul ?g28 ?g29
                case g28 => exact pe_int
                case g29 => exact pv1 2 rfl lk__law_runs_by_2
            case g22 =>
              refine' pss_one ?g30
              case g30 =>
                refine' ps_expr1 ?g31
                case g31 =>
                  refine' pe_bm PySem.F.plainAttrs_list PySem.F.slot_list_pop PySem.F.type_list_pop mt_popAt ?g32 ?g33
                  case g32 => exact pv1 3 rfl lk__law_runs_by_3
                  case g33 =>
                    refine' pa_c ?g34 ?g35
                    case g34 =>
                      refine' pe_callD C__law_digit (hr.mono (by decide)) gk__law_runs_by__law_digit ?g36
                      case g36 =>
                        refine' pa_c ?g37 ?g38
                        case g37 => exact pv1 0 rfl lk__law_runs_by_0
                        case g38 =>
                          refine' pa_c ?g39 ?g40
                          case g39 =>
                            refine' pe_callE call_lenH gk__law_runs_by_len T.n_len bt_len ?g41
                            case g41 =>
                              refine' pa_c ?g42 ?g43
                              case g42 => exact pv1 3 rfl lk__law_runs_by_3
                              case g43 => exact pa_nil
                          case g40 => exact pa_nil
                    case g35 => exact pa_nil
          case g20 =>
            refine' pss_cons ?g44 ?g45
            case g44 =>
              refine' ps_set1 (i := 4) sc__law_runs_by.nd rfl lk__law_runs_by_4 ?g46
              case g46 =>
                refine' pe_callD C__law_digit (hr.mono (by decide)) gk__law_runs_by__law_digit ?g47
                case g47 =>
                  refine' pa_c ?g48 ?g49
                  case g48 => exact pv1 0 rfl lk__law_runs_by_0
                  case g49 =>
                    refine' pa_c ?g50 ?g51
                    case g50 =>
                      refine' pe_callE call_lenH gk__law_runs_by_len T.n_len bt_len ?g52
                      case g52 =>
                        refine' pa_c ?g53 ?g54
                        case g53 => exact pv1 3 rfl lk__law_runs_by_3
                        case g54 => exact pa_nil
                    case g51 => exact pa_nil
            case g45 =>
              refine' pss_cons ?g55 ?g56
              case g55 =>
                refine' ps_set1 (i := 3) sc__law_runs_by.nd rfl lk__law_runs_by_3 ?g57
                case g57 =>
                  refine' pe_op op_cat ?g58 ?g59
                  case g58 =>
                    refine' pe_slice sl_listH ?g60 ?g61 ?g62
                    case g60 => exact pv1 3 rfl lk__law_runs_by_3
                    case g61 =>
                      refine' po_some ?g63
                      case g63 => exact pv1 4 rfl lk__law_runs_by_4
                    case g62 => exact po_none
                  case g59 =>
                    refine' pe_slice sl_listH ?g64 ?g65 ?g66
                    case g64 => exact pv1 3 rfl lk__law_runs_by_3
                    case g65 => exact po_none
                    case g66 =>
                      refine' po_some ?g67
                      case g67 => exact pv1 4 rfl lk__law_runs_by_4
              case g56 =>
                refine' pss_one ?g68
                case g68 =>
                  refine' ps_ret ?g69
                  case g69 =>
                    refine' pe_tup ?g70
                    case g70 =>
                      refine' pa_c ?g71 ?g72
                      case g71 =>
                        refine' pe_slice sl_listH ?g73 ?g74 ?g75
                        case g73 => exact pv1 3 rfl lk__law_runs_by_3
                        case g74 => exact po_none
                        case g75 =>
                          refine' po_some ?g76
                          case g76 => exact pv1 2 rfl lk__law_runs_by_2
                      case g72 =>
                        refine' pa_c ?g77 ?g78
                        case g77 =>
                          refine' pe_rev ?g79 (po_some ?g80)
                          case g79 =>
                            refine' pe_slice sl_listH ?g81 ?g82 ?g83
                            case g81 => exact pv1 3 rfl lk__law_runs_by_3
                            case g82 =>
                              refine' po_some ?g84
                              case g84 => exact pv1 2 rfl lk__law_runs_by_2
                            case g83 => exact po_none
                          case g80 =>
                            refine' pe_un un_neg ?g85
                            case g85 => exact pe_int
                        case g78 => exact pa_nil
    case R =>
      walk_at "rd"
      refine ⟨by decide, by decide +kernel, ?_⟩
      refine ⟨l, r, (n : Int) / 2, rfl, hl, by omega, Nat.lt_of_le_of_lt (Nat.log2_le_self _) (by omega), ?_⟩
      have x0 := Int.emod_nonneg r (show (n : Int) / 2 ≠ 0 by omega)
      have x1 := Int.emod_lt_of_pos r (show 0 < (n : Int) / 2 by omega)
      refine ⟨_, rfl, n, rfl, by omega, fun pa npa => ?_⟩
      obtain ⟨m, hm, m1, m3⟩ : ∃ m : Nat, 1 + r % ((n : Int) / 2) = m ∧ 1 ≤ m ∧ 2 * m ≤ n := ⟨(1 + r % ((n : Int) / 2)).toNat, by omega, by omega, by omega⟩
      rw [hm]
      clear x0 x1 hm
      have pl : pa ≠ l := fun e => by rw [e, upd_same] at npa; cases npa
      have Hp : H pa = none := by rw [upd_ne pl] at npa; exact npa
      have eN : numsV n = ((List.range n).map fun i : Nat => (i : Int)).map V.int := by unfold numsV; rw [List.map_map]; rfl
      rw [eN]
      refine while_W (fun σ H1 => ∃ (r1 : Int) (ys : List Int), σ = [some (.ref l), some (.int n), some (.int m), some (.ref pa), none] ∧ H1 l = some (.lst [.int r1]) ∧ H1 pa = some (.lst (ys.map V.int)) ∧ But l H H1 ∧ In n ys ∧ 2 * m ≤ ys.length ∧ ys.length ≤ 6)
        (fun _ H1 => match H1 pa with | some (.lst xs) => xs.length | _ => 0) ⟨_, _, rfl, by rw [upd_ne pl.symm]; exact upd_same, upd_same, fun b o nb hb => by rw [upd_ne (ne_of_none hb Hp), upd_ne nb]; exact hb, fun x hx => ?_, by simp; omega, by simp; omega⟩ ?_
      · obtain ⟨i, hi, rfl⟩ := List.mem_map.mp hx
        have := List.mem_range.mp hi
        omega
      rintro σ H1 ⟨r1, ys, rfl, hl1, hp1, B1, iy, l2, l6⟩
      walk_at "rd"
      refine ⟨_, .inl hp1, .inl ⟨by decide, by decide⟩, ?_⟩
      rw [List.length_map]
      have y0 : (0 : Int) < (ys.length : Nat) := by omega
      have ylog : (((ys.map V.int).length : Nat) : Int).natAbs.log2 < 9000 := Nat.lt_of_le_of_lt (Nat.log2_le_self _) (by rw [List.length_map]; omega)
      have x0 := Int.emod_nonneg r1 (show ((ys.length : Nat) : Int) ≠ 0 by omega)
      have x1 := Int.emod_lt_of_pos r1 y0
      obtain ⟨i, hi, iL⟩ : ∃ i : Nat, r1 % ((ys.length : Nat) : Int) = i ∧ i < ys.length := ⟨(r1 % ((ys.length : Nat) : Int)).toNat, by omega, by omega⟩
      refine ite2 (fun hgt => ?_) (fun hle => ?_)
      · refine ⟨_, N_ok, .inl ⟨_, .inl (.inl hp1)⟩, _, .inl hp1, l, r1, _, rfl, hl1, by rw [List.length_map]; omega, ylog, ?_⟩
        rw [List.length_map, hi]
        have hp2 : upd H1 l (HO.lst [V.int (r1 / ((ys.length : Nat) : Int))]) pa = some (.lst (ys.map V.int)) := by rw [upd_ne pl]; exact hp1
        refine ⟨_, _, rfl, hp2, by omega, by omega, i, ?_, V.int (ys[i]), by rw [List.getElem?_map, List.getElem?_eq_getElem iL]; rfl, ⟨rfl, _, by rw [upd_ne pl.symm]; exact upd_same, ys.eraseIdx i, ?_, fun b o nb hb => by rw [upd_ne (ne_of_none hb Hp), upd_ne nb]; exact B1 b o nb hb, fun x hx => iy x (List.mem_of_mem_eraseIdx hx), ?_, ?_⟩, ?_⟩
        · rw [List.length_map]
          unfold seqIndex?
          simp
          omega
        · rw [upd_same, map_erase]
        · rw [List.length_eraseIdx]; split <;> omega
        · rw [List.length_eraseIdx]; split <;> omega
        · rw [upd_same, hp1]
          simp only [List.length_eraseIdx, List.length_map]
          split <;> omega
      · have yl : ys.length = 2 * m := by omega
        refine ⟨_, .inl hp1, l, r1, _, rfl, hl1, by rw [List.length_map]; omega, ylog, ?_⟩
        rw [List.length_map, hi]
        have hp2 : upd H1 l (HO.lst [V.int (r1 / ((ys.length : Nat) : Int))]) pa = some (.lst (ys.map V.int)) := by rw [upd_ne pl]; exact hp1
        have hl2 := upd_same (H := H1) (a := l) (o := HO.lst [V.int (r1 / ((ys.length : Nat) : Int))])
        have B2 : But l H (upd H1 l (HO.lst [V.int (r1 / ((ys.length : Nat) : Int))])) := But.upd B1
        generalize upd H1 l (HO.lst [V.int (r1 / ((ys.length : Nat) : Int))]) = H2 at *
        generalize r1 / ((ys.length : Nat) : Int) = r2 at *
        have fr : ∀ {b : Addr}, H2 b = none → H b = none := fun {b} hb => by
          cases e : H b with
          | none => rfl
          | some o =>
            have nb : b ≠ l := fun e => by rw [e, hl2] at hb; cases hb
            rw [B2 b o nb e] at hb
            cases hb
        have c1 : cutV (ys.map V.int) (some ((i : Nat) : Int)) none = (ys.drop i).map V.int := by rw [cut_from _ i (by simp; omega), List.map_drop]
        have c2 : cutV (ys.map V.int) none (some ((i : Nat) : Int)) = (ys.take i).map V.int := by rw [cut_to _ i (by simp; omega), List.map_take]
        try walk_at "rd"
        refine ⟨_, hp2, fun p5 n5 => ⟨_, (Same.new n5) _ _ hp2, fun p6 n6 => ?_⟩⟩
        rw [c1] at n6 ⊢
        rw [c2]
        have S6 : Same H2 (upd (upd H2 p5 (HO.lst ((ys.drop i).map V.int))) p6 (HO.lst ((ys.take i).map V.int))) := (Same.new n5).trans (Same.new n6)
        have h5 := (Same.new n6 (o := HO.lst ((ys.take i).map V.int))) _ _ (upd_same (H := H2) (a := p5) (o := HO.lst ((ys.drop i).map V.int)))
        generalize upd (upd H2 p5 (HO.lst ((ys.drop i).map V.int))) p6 (HO.lst ((ys.take i).map V.int)) = H6 at *
        refine ⟨_, h5, Nat.le_of_lt (small1000 (by simp; omega)), fun p7 n7 p8 n8 => ?_⟩
        rw [← List.map_append] at n8 ⊢
        have tl : (ys.drop i ++ ys.take i).length = 2 * m := by simp; omega
        have ti : In n (ys.drop i ++ ys.take i) := fun x hx => by
          rcases List.mem_append.mp hx with h | h
          · exact iy x (List.mem_of_mem_drop h)
          · exact iy x (List.mem_of_mem_take h)
        generalize ys.drop i ++ ys.take i = ts at *
        have S7 : Same H2 (upd H6 p7 (HO.lst (ts.map V.int))) := S6.trans (Same.new n7)
        have h7 := upd_same (H := H6) (a := p7) (o := HO.lst (ts.map V.int))
        generalize upd H6 p7 (HO.lst (ts.map V.int)) = H7 at *
        have c3 : cutV (ts.map V.int) none (some ((m : Nat) : Int)) = (ts.take m).map V.int := by rw [cut_to _ m (by simp; omega), List.map_take]
        have c4 : cutV (ts.map V.int) (some ((m : Nat) : Int)) none = (ts.drop m).map V.int := by rw [cut_from _ m (by simp; omega), List.map_drop]
        rw [c3]
        have S8 : Same H2 (upd H7 p8 (HO.lst ((ts.take m).map V.int))) := S7.trans (Same.new n8)
        have h8 := upd_same (H := H7) (a := p8) (o := HO.lst ((ts.take m).map V.int))
        have h7' := (Same.new n8 (o := HO.lst ((ts.take m).map V.int))) _ _ h7
        have f8 : H p8 = none := fr (S7.free n8)
        generalize upd H7 p8 (HO.lst ((ts.take m).map V.int)) = H8 at *
        refine ⟨_, h7', fun p9 n9 p10 n10 => ?_⟩
        rw [c4] at n10 ⊢
        have S9 : Same H2 (upd H8 p9 (HO.lst ((ts.drop m).map V.int))) := S8.trans (Same.new n9)
        have S10 : Same H2 (upd (upd H8 p9 (HO.lst ((ts.drop m).map V.int))) p10 (HO.lst ((ts.drop m).map V.int).reverse)) := S9.trans (Same.new n10)
        have h10 := upd_same (H := upd H8 p9 (HO.lst ((ts.drop m).map V.int))) (a := p10) (o := HO.lst ((ts.drop m).map V.int).reverse)
        have h8' := ((Same.new n9 (o := HO.lst ((ts.drop m).map V.int))).trans (Same.new n10 (o := HO.lst ((ts.drop m).map V.int).reverse))) _ _ h8
        have f10 : H p10 = none := fr (S9.free n10)
        generalize upd (upd H8 p9 (HO.lst ((ts.drop m).map V.int))) p10 (HO.lst ((ts.drop m).map V.int).reverse) = H10 at *
        refine ⟨by decide, fun z nz => ?_⟩
        exact k z _ r2 (ts.take m) (ts.drop m).reverse (B2.trans (But.of (S10.trans (Same.new nz)))) ((S10.trans (Same.new nz)) _ _ hl2) ⟨z, _, rfl, by rw [newH_at (fr (S10.free nz))]; exact upd_same, _, _, rfl, rep_of_ints (by rw [newH_at f8]; exact (Same.new nz) _ _ h8'), _, _, rfl, rep_of_ints (by rw [newH_at f10, List.map_reverse]; exact (Same.new nz) _ _ h10), rfl⟩ (by simp; omega) (by simp; omega) (by simp; omega) (fun x hx => ti x (List.mem_of_mem_take hx)) (fun x hx => ti x (List.mem_of_mem_drop (List.mem_reverse.mp hx)))
end Rim47
set_option Elab.async false
set_option linter.all false
set_option maxRecDepth 100000
set_option maxHeartbeats 4000000
namespace Rim47
open PySem PySem.Spec PyProof.Rows L2 RimM RimD
local macro_rules | `(tactic| walk_at "rd") => `(tactic| first | (dsimp only [tSeq, tAsg, gName, tTup, tLst, tCons, tNil, tVar, tC, tCB, tOp, rI, rI0, tTest, tIfS, tNext, tRet, tRetN, tDrop, tB, tAnd, tOr, tNot, tAndV, tOrV, tNotV, rU, tUn, tBM0, tBM, rBits, tCall, L2.start, rIxTH, rIxLH, rLenH, rEqTH, rEq, rNe, CMul, CMulB, CDivB, CDivF, CPow, List.map_cons, List.map_nil, List.length_cons, List.length_nil, List.replicate, List.cons_append, List.nil_append, List.set_cons_zero, List.set_cons_succ, List.getElem?_cons_zero, List.getElem?_cons_succ, gSub, rSetL, rCat, iRng1, tPar, iList, tComp, pick, tYes, iZip, gTup, gCons, gNil, rSum, rListH, List.map, iRng2, iRngD, tSl, rSlH, tPart, tNoPart, tPar3, tIf, tRev, tLRange, rIxT, rPopAt]; try simp only [tSeq, tAsg, gName, tTup, tLst, tCons, tNil, tVar, tC, tCB, tOp, rI, rI0, tTest, tIfS, tNext, tRet, tRetN, tDrop, tB, tAnd, tOr, tNot, tAndV, tOrV, tNotV, rU, tUn, tBM0, tBM, rBits, tCall, L2.start, rIxTH, rIxLH, rLenH, rEqTH, rEq, rNe, scal, tyV, CMul, CMulB, CDivB, CDivF, CPow, List.map_cons, List.map_nil, List.length_cons, List.length_nil, List.replicate, List.cons_append, List.nil_append, List.append_nil, List.set_cons_zero, List.set_cons_succ, List.getElem?_cons_zero, List.getElem?_cons_succ, Option.some.injEq, List.cons.injEq, V.int.injEq, V.bl.injEq, V.str.injEq, V.ref.injEq, V.ty.injEq, HO.tup.injEq, HO.lst.injEq, exists_eq_left, exists_eq_left', exists_and_left, and_assoc, and_true, true_and, upd_same, atI_0, atI_1, atI_2, Nat.zero_add, Nat.reduceAdd, Nat.reduceSub, decide_eq_true_eq, Bool.not_eq_true', decide_eq_false_iff_not, reduceCtorEq, false_or, or_false, true_or, or_true, plainT_int, plainT_bool, plainT_tuple, plainT_list, plainT_str, Bool.false_eq_true, if_false, if_true, Bool.not_false, Bool.not_true, Bool.not_not, gSub, rSetL, ixN_00, upd_upd, rCat, iRng1, tFor_eq, tPar, iList, tComp, pick, tYes, iZip, gTup, gCons, gNil, rSum, rListH, List.map, Option.bind, iRng2, iRngD, tSl, rSlH, tPart, tNoPart, tPar3, tIf, tRev, tLRange, rIxT, rPopAt]) | simp only [tSeq, tAsg, gName, tTup, tLst, tCons, tNil, tVar, tC, tCB, tOp, rI, rI0, tTest, tIfS, tNext, tRet, tRetN, tDrop, tB, tAnd, tOr, tNot, tAndV, tOrV, tNotV, rU, tUn, tBM0, tBM, rBits, tCall, L2.start, rIxTH, rIxLH, rLenH, rEqTH, rEq, rNe, scal, tyV, CMul, CMulB, CDivB, CDivF, CPow, List.map_cons, List.map_nil, List.length_cons, List.length_nil, List.replicate, List.cons_append, List.nil_append, List.append_nil, List.set_cons_zero, List.set_cons_succ, List.getElem?_cons_zero, List.getElem?_cons_succ, Option.some.injEq, List.cons.injEq, V.int.injEq, V.bl.injEq, V.str.injEq, V.ref.injEq, V.ty.injEq, HO.tup.injEq, HO.lst.injEq, exists_eq_left, exists_eq_left', exists_and_left, and_assoc, and_true, true_and, upd_same, atI_0, atI_1, atI_2, Nat.zero_add, Nat.reduceAdd, Nat.reduceSub, decide_eq_true_eq, Bool.not_eq_true', decide_eq_false_iff_not, reduceCtorEq, false_or, or_false, true_or, or_true, plainT_int, plainT_bool, plainT_tuple, plainT_list, plainT_str, Bool.false_eq_true, if_false, if_true, Bool.not_false, Bool.not_true, Bool.not_not, gSub, rSetL, ixN_00, upd_upd, rCat, iRng1, tFor_eq, tPar, iList, tComp, pick, tYes, iZip, gTup, gCons, gNil, rSum, rListH, List.map, Option.bind, iRng2, iRngD, tSl, rSlH, tPart, tNoPart, tPar3, tIf, tRev, tLRange, rIxT, rPopAt])
variable {P : Program} {w : World} {K : PySem.W.Frag} {mg : Str → Option Value} {base : Heap}
abbrev s_law : Stmt := PySem.Challenge.pw_rimread_k47_minors.main.body.getD 36 (.Pass ⟨0, 0, 0, 0⟩)
theorem sc_law : FnScope ["_law_script", "_law_rest", "_law_n", "_law_kind", "_law_grid", "_law_k", "_law_kp", "_law_kq", "_law_handed", "_law_found"] ["_law_script"] (defScope s_law) := ⟨rfl, rfl, rfl, by decide +kernel, rfl, by decide +kernel, by decide +kernel⟩
theorem lk_law_0 : (defScope s_law).names.lookup ("_law_script" : Str) = some PySem.NameKind.local := by decide +kernel
theorem lk_law_1 : (defScope s_law).names.lookup ("_law_rest" : Str) = some PySem.NameKind.cell := by decide +kernel
theorem lk_law_2 : (defScope s_law).names.lookup ("_law_n" : Str) = some PySem.NameKind.cell := by decide +kernel
theorem lk_law_3 : (defScope s_law).names.lookup ("_law_kind" : Str) = some PySem.NameKind.cell := by decide +kernel
theorem lk_law_4 : (defScope s_law).names.lookup ("_law_grid" : Str) = some PySem.NameKind.local := by decide +kernel
theorem lk_law_5 : (defScope s_law).names.lookup ("_law_k" : Str) = some PySem.NameKind.local := by decide +kernel
theorem lk_law_6 : (defScope s_law).names.lookup ("_law_kp" : Str) = some PySem.NameKind.local := by decide +kernel
theorem lk_law_7 : (defScope s_law).names.lookup ("_law_kq" : Str) = some PySem.NameKind.local := by decide +kernel
theorem lk_law_8 : (defScope s_law).names.lookup ("_law_handed" : Str) = some PySem.NameKind.local := by decide +kernel
theorem lk_law_9 : (defScope s_law).names.lookup ("_law_found" : Str) = some PySem.NameKind.local := by decide +kernel
theorem gk_law__law_big : (defScope s_law).names.lookup ("_law_big" : Str) = some PySem.NameKind.globalImplicit := by decide +kernel
theorem gk_law__law_digit : (defScope s_law).names.lookup ("_law_digit" : Str) = some PySem.NameKind.globalImplicit := by decide +kernel
theorem gk_law__law_due : (defScope s_law).names.lookup ("_law_due" : Str) = some PySem.NameKind.globalImplicit := by decide +kernel
theorem gk_law__law_is_fraction : (defScope s_law).names.lookup ("_law_is_fraction" : Str) = some PySem.NameKind.globalImplicit := by decide +kernel
theorem gk_law__law_runs_by : (defScope s_law).names.lookup ("_law_runs_by" : Str) = some PySem.NameKind.globalImplicit := by decide +kernel
theorem gk_law_list : (defScope s_law).names.lookup ("list" : Str) = some PySem.NameKind.globalImplicit := by decide +kernel
theorem gk_law_minor_of : (defScope s_law).names.lookup ("minor_of" : Str) = some PySem.NameKind.globalImplicit := by decide +kernel
theorem gk_law_range : (defScope s_law).names.lookup ("range" : Str) = some PySem.NameKind.globalImplicit := by decide +kernel
def sp_law (K : PySem.W.Frag) : Sp := fun vs H Q _ => ∃ (a : Addr) (ns : List Int), vs = [.ref a] ∧ SqL K H a (ns.map V.int) ∧ ∀ H', Q (.bl true) H'
def lessH (l : Addr) (H : Hp) : Hp := fun b => if b = l then none else H b
theorem lessH_of {l b : Addr} {H : Hp} {o : HO} (h : lessH l H b = some o) : b ≠ l ∧ H b = some o := by
  unfold lessH at h
  by_cases e : b = l
  · rw [if_pos e] at h; cases h
  · rw [if_neg e] at h; exact ⟨e, h⟩
theorem lessH_at {l b : Addr} {H : Hp} (e : b ≠ l) : lessH l H b = H b := if_neg e
theorem rep_pair {H : Hp} {z : Addr} {Ps Qs : List Int} (h : Rep H (.ref z) (.tup [dI Ps, dI Qs])) : ∃ p q, H z = some (.tup [.ref p, .ref q]) ∧ H p = some (.lst (Ps.map V.int)) ∧ H q = some (.lst (Qs.map V.int)) := by
  obtain ⟨_, xs, e, hz, x, r, e1, hx, y, r', e2, hy, e3⟩ := h
  cases e
  obtain ⟨p, rfl, hp⟩ := rep_ints hx
  obtain ⟨q, rfl, hq⟩ := rep_ints hy
  subst e1 e2 e3
  exact ⟨p, q, hz, hp, hq⟩
theorem dep_dI (r : List Int) : dep (dI r) ≤ 1 := Nat.succ_le_succ (deps_le (f := Dt.int) (fun a => by simp [dep]) r)
theorem dep_all (g : List (List (Int × Int))) (Ps Qs : List Int) : dep (.tup [.lst (g.map dRow), dI Ps, dI Qs]) ≤ 4 := by
  have h1 := dep_grid g
  have h2 := dep_dI Ps
  have h3 := dep_dI Qs
  refine Nat.succ_le_succ (show deps _ ≤ 3 from ?_)
  show max (dep (.lst (g.map dRow))) (max (dep (dI Ps)) (max (dep (dI Qs)) 0)) ≤ 3
  omega
theorem val_low {g : List (List (Int × Int))} {n : Nat} (h : Gd g n) {P Q : List Int} (hP : In n P) (hQ : In n Q) (hl : P.length = Q.length) (h3 : P.length ≤ 3) : Low (val g P Q) ∧ Builtin.Int.intBits (val g P Q).2 ≤ 8000 := by
  have nb := nb_sub h hP hQ hl (by omega)
  have bp : 0 < pr P.length (bts (sub g P Q)) := pr_pos fun i hi => (nb.bot i hi).1
  have bl := pr_le (B := 165) (n := P.length) (b := bts (sub g P Q)) fun i hi => (nb.bot i hi).2
  unfold val
  refine ⟨(nf_low (by omega)).1, ?_⟩
  have := bits_of_le (Nat.le_trans (nf_top_le (t := sg P.length * D P.length (ma (nums (sub g P Q)))) bp).2 bl)
  omega
theorem ok_law {f : Addr} {fd : FuncData} (T : Txt K mg) (F : Fun K "law" "law" s_law f fd) (C__law_big : Cal P w K mg base "_law_big" ["_law_script", "_law_at"] 2 (sp_big K)) (C__law_digit : Cal P w K mg base "_law_digit" ["_law_rest", "_law_many"] 1 sp_digit) (C__law_number_of : Cal P w K mg base "_law_number_of" ["_law_rest", "_law_kind"] 2 sp_num) (C__law_runs_by : Cal P w K mg base "_law_runs_by" ["_law_rest", "_law_n"] 2 sp_runs)
    (C_minor_of : Cal P w K mg base "minor_of" ["table", "P", "Q"] 5 sp_minor) (C__law_is_fraction : Cal P w K mg base "_law_is_fraction" ["_law_found"] 2 sp_isf) (C__law_due : Cal P w K mg base "_law_due" ["_law_grid", "_law_kp", "_law_kq"] 4 sp_due) : FnOk P w K mg base CX0 6 f fd ["_law_script"] (sp_law K) := by
  refine F.ok sc_law ?len ?body
  case len => rintro vs H Q E ⟨a, b, rfl, _⟩; rfl
  case body =>
    intro cdv A outer s H vs Q E hr h
    obtain ⟨a, ns, rfl, hS, k⟩ := h
    refine' ⟨_, ?D, ?R⟩
    case D =>
      refine' pss_cons ?g1 ?g2
      case g1 =>
        refine' ps_setc (i := 1) sc_law.nd rfl lk_law_1 rfl ?g3 rfl
        case g3 =>
          refine' pe_lst ?g4
          case g4 =>
            refine' pa_c ?g5 ?g6
            case g5 =>
              refine' pe_callD C__law_big (hr.mono (by decide)) gk_law__law_big ?g7
              case g7 =>
                refine' pa_c ?g8 ?g9
                case g8 => exact pv1 0 rfl lk_law_0
                case g9 =>
                  refine' pa_c ?g10 ?g11
                  case g10 => exact pe_int
                  case g11 => exact pa_nil
            case g6 => exact pa_nil
      case g2 =>
        refine' pss_cons ?g12 ?g13
        case g12 =>
          refine' ps_setc (i := 2) sc_law.nd rfl lk_law_2 rfl ?g14 rfl
          case g14 =>
            refine' pe_op op_add ?g15 ?g16
            case g15 => exact pe_int
            case g16 =>
              refine' pe_callD C__law_digit (hr.mono (by decide)) gk_law__law_digit ?g17
              case g17 =>
                refine' pa_c ?g18 ?g19
                case g18 => exact pvc 1 rfl lk_law_1
                case g19 =>
                  refine' pa_c ?g20 ?g21
                  case g20 => exact pe_int
                  case g21 => exact pa_nil
        case g13 =>
          refine' pss_cons ?g22 ?g23
          case g22 =>
            refine' ps_setc (i := 3) sc_law.nd rfl lk_law_3 rfl ?g24 rfl
            case g24 =>
              refine' pe_callD C__law_digit (hr.mono (by decide)) gk_law__law_digit ?g25
              case g25 =>
                refine' pa_c ?g26 ?g27
                case g26 => exact pvc 1 rfl lk_law_1
                case g27 =>
                  refine' pa_c ?g28 ?g29
                  case g28 => exact pe_int
                  case g29 => exact pa_nil
          case g23 =>
            refine' pss_cons ?g30 ?g31
            case g30 =>
              refine' ps_comp (i := 4) (N' := ["_law_i", "_law_n", "_law_rest", "_law_kind"]) (ix := [none, some 2, some 1, some 3]) rfl rfl sc_law.nd rfl lk_law_4 rfl (scp_of ?g32) ?g33 (fun _ _ _ => ?g34) (fun _ _ _ => ?g35) (fun _ _ _ => ?g36)
              case g32 => exact (by show scpB (defScope s_law) ["_law_script", "_law_rest", "_law_n", "_law_kind", "_law_grid", "_law_k", "_law_kp", "_law_kq", "_law_handed", "_law_found"] _ _ _ = true; decide +kernel)
              case g33 =>
                refine' pi_range1 gk_law_range T.n_range ?g37
                case g37 =>
                  refine' pa_c ?g38 ?g39
                  case g38 => exact pvc 2 rfl lk_law_2
                  case g39 => exact pa_nil
              case g34 => exact pg_name1 (i := 0) (by show List.Nodup (["_law_i", "_law_n", "_law_rest", "_law_kind"] : List Str); decide +kernel) rfl rfl
              case g35 => exact pf_nil
              case g36 =>
                refine' pe_comp (N' := ["_law_j", "_law_rest", "_law_kind"]) (ix := [none, some 2, some 3]) rfl rfl (scp_of ?g40) ?g41 (fun _ _ _ => ?g42) (fun _ _ _ => ?g43) (fun _ _ _ => ?g44)
                case g40 => exact (by show scpB (relS _ (defScope s_law)) ["_law_i", "_law_n", "_law_rest", "_law_kind"] _ _ _ = true; decide +kernel)
                case g41 =>
                  refine' pi_range1 rfl T.n_range ?g45
                  case g45 =>
                    refine' pa_c ?g46 ?g47
                    case g46 => exact pvc 1 rfl rfl
                    case g47 => exact pa_nil
                case g42 => exact pg_name1 (i := 0) (by show List.Nodup (["_law_j", "_law_rest", "_law_kind"] : List Str); decide +kernel) rfl rfl
                case g43 => exact pf_nil
                case g44 =>
                  refine' pe_callD C__law_number_of (hr.mono (by decide)) rfl ?g48
                  case g48 =>
                    refine' pa_c ?g49 ?g50
                    case g49 => exact pvc 1 rfl rfl
                    case g50 =>
                      refine' pa_c ?g51 ?g52
                      case g51 => exact pvc 2 rfl rfl
                      case g52 => exact pa_nil
            case g31 =>
              refine' pss_cons ?g53 ?g54
              case g53 =>
                refine' ps_for PassesOwn.never rfl ?g55 ?g56 ?g57
                case g55 =>
                  refine' pi_range1 gk_law_range T.n_range ?g58
                  case g58 =>
                    refine' pa_c ?g59 ?g60
                    case g59 => exact pe_int
                    case g60 => exact pa_nil
                case g56 => exact pg_name1 (i := 5) sc_law.nd rfl lk_law_5
                case g57 =>
                  refine' pss_cons ?g61 ?g62
                  case g61 =>
                    refine' ps_asg ?g63 ?g64
                    case g63 =>
                      refine' pe_callD C__law_runs_by (hr.mono (by decide)) gk_law__law_runs_by ?g65
                      case g65 =>
                        refine' pa_c ?g66 ?g67
                        case g66 => exact pvc 1 rfl lk_law_1
                        case g67 =>
                          refine' pa_c ?g68 ?g69
                          case g68 => exact pvc 2 rfl lk_law_2
                          case g69 => exact pa_nil
                    case g64 =>
                      refine' pg_tupK (K := K) (n := 2) rfl rfl ?g70
                      case g70 =>
                        refine' pgs_cons ?g71 ?g72
                        case g71 => exact pg_name1 (i := 6) sc_law.nd rfl lk_law_6
                        case g72 =>
                          refine' pgs_cons ?g73 ?g74
                          case g73 => exact pg_name1 (i := 7) sc_law.nd rfl lk_law_7
                          case g74 => exact pgs_nil
                  case g62 =>
                    refine' pss_cons ?g75 ?g76
                    case g75 =>
                      refine' ps_set1 (i := 8) sc_law.nd rfl lk_law_8 ?g77
                      case g77 =>
                        refine' pe_tup ?g78
                        case g78 =>
                          refine' pa_c ?g79 ?g80
                          case g79 =>
                            refine' pe_comp (N' := ["_law_row"]) (ix := [none]) rfl rfl (scp_of ?g81) ?g82 (fun _ _ _ => ?g83) (fun _ _ _ => ?g84) (fun _ _ _ => ?g85)
                            case g81 => exact (by show scpB (defScope s_law) ["_law_script", "_law_rest", "_law_n", "_law_kind", "_law_grid", "_law_k", "_law_kp", "_law_kq", "_law_handed", "_law_found"] _ _ _ = true; decide +kernel)
                            case g82 =>
                              refine' pi_listK (K := K) rfl ?g86
                              case g86 => exact pv1 4 rfl lk_law_4
                            case g83 => exact pg_name1 (i := 0) (by show List.Nodup (["_law_row"] : List Str); decide +kernel) rfl rfl
                            case g84 => exact pf_nil
                            case g85 =>
                              refine' pe_callT call_listH rfl T.n_list bt_list ?g87
                              case g87 =>
                                refine' pa_c ?g88 ?g89
                                case g88 => exact pv1 0 rfl rfl
                                case g89 => exact pa_nil
                          case g80 =>
                            refine' pa_c ?g90 ?g91
                            case g90 =>
                              refine' pe_callT call_listH gk_law_list T.n_list bt_list ?g92
                              case g92 =>
                                refine' pa_c ?g93 ?g94
                                case g93 => exact pv1 6 rfl lk_law_6
                                case g94 => exact pa_nil
                            case g91 =>
                              refine' pa_c ?g95 ?g96
                              case g95 =>
                                refine' pe_callT call_listH gk_law_list T.n_list bt_list ?g97
                                case g97 =>
                                  refine' pa_c ?g98 ?g99
                                  case g98 => exact pv1 7 rfl lk_law_7
                                  case g99 => exact pa_nil
                              case g96 => exact pa_nil
                    case g76 =>
                      refine' pss_cons ?g100 ?g101
                      case g100 =>
                        refine' ps_set1 (i := 9) sc_law.nd rfl lk_law_9 ?g102
                        case g102 =>
                          refine' pe_callD C_minor_of (hr.mono (by decide)) gk_law_minor_of ?g103
                          case g103 =>
                            refine' pa_c ?g104 ?g105
                            case g104 =>
                              refine' pe_ix ix_tupH ?g106 ?g107 (fun _ _ => rfl)
                              case g106 => exact pv1 8 rfl lk_law_8
                              case g107 => exact pe_int
                            case g105 =>
                              refine' pa_c ?g108 ?g109
                              case g108 =>
                                refine' pe_ix ix_tupH ?g110 ?g111 (fun _ _ => rfl)
                                case g110 => exact pv1 8 rfl lk_law_8
                                case g111 => exact pe_int
                              case g109 =>
                                refine' pa_c ?g112 ?g113
                                case g112 =>
                                  refine' pe_ix ix_tupH ?g114 ?g115 (fun _ _ => rfl)
                                  case g114 => exact pv1 8 rfl lk_law_8
                                  case g115 => exact pe_int
                                case g113 => exact pa_nil
                      case g101 =>
                        refine' pss_one ?g116
                        case g116 =>
                          refine' ps_if ?g117 ?g118 ?g119
                          case g117 =>
                            refine' PW.pt ?g120
                            case g120 =>
                              refine' pw_or ?g121 ?g122
                              case g121 =>
                                refine' pt_not ?g123
                                case g123 =>
                                  refine' pt_val ?g124
                                  case g124 =>
                                    refine' pe_callD C__law_is_fraction (hr.mono (by decide)) gk_law__law_is_fraction ?g125
                                    case g125 =>
                                      refine' pa_c ?g126 ?g127
                                      case g126 => exact pv1 9 rfl lk_law_9
                                      case g127 => exact pa_nil
                              case g122 =>
                                refine' pw_or ?g128 ?g129
                                case g128 =>
                                  refine' pt_cmpR (op_neD (hr.units)) ?g130 ?g131 (nomark _)
                                  case g130 => exact pv1 9 rfl lk_law_9
                                  case g131 =>
                                    refine' pe_callD C__law_due (hr.mono (by decide)) gk_law__law_due ?g132
                                    case g132 =>
                                      refine' pa_c ?g133 ?g134
                                      case g133 => exact pv1 4 rfl lk_law_4
                                      case g134 =>
                                        refine' pa_c ?g135 ?g136
                                        case g135 => exact pv1 6 rfl lk_law_6
                                        case g136 =>
                                          refine' pa_c ?g137 ?g138
                                          case g137 => exact pv1 7 rfl lk_law_7
                                          case g138 => exact pa_nil
                                case g129 =>
                                  refine' pw_or1 ?g139
                                  case g139 =>
                                    refine' pt_cmpR (op_neD (hr.units)) ?g140 ?g141 (nomark _)
                                    case g140 => exact pv1 8 rfl lk_law_8
                                    case g141 =>
                                      refine' pe_tup ?g142
                                      case g142 =>
                                        refine' pa_c ?g143 ?g144
                                        case g143 => exact pv1 4 rfl lk_law_4
                                        case g144 =>
                                          refine' pa_c ?g145 ?g146
                                          case g145 => exact pv1 6 rfl lk_law_6
                                          case g146 =>
                                            refine' pa_c ?g147 ?g148
                                            case g147 => exact pv1 7 rfl lk_law_7
                                            case g148 => exact pa_nil
                          case g118 =>
                            refine' pss_one ?g149
                            case g149 =>
                              refine' ps_ret ?g150
                              case g150 => exact pe_bl
                          case g119 => exact pss_nil
              case g54 =>
                refine' pss_one ?g151
                case g151 =>
                  refine' ps_ret ?g152
                  case g152 => exact pe_bl
    case R =>
      walk_at "rd"
      refine ⟨a, ns, rfl, hS, fun z H1 s1 => ?_⟩
      walk_at "rd"
      refine ⟨by decide, fun l hl => ?_⟩
      refine ⟨l, z, 5, rfl, upd_same, by decide, by decide +kernel, ?_⟩
      try walk_at "rd"
      try rw [upd_upd]
      refine ⟨l, z / 5, 4, rfl, upd_same, by decide, by decide +kernel, ?_⟩
      try rw [upd_upd]
      try walk_at "rd"
      obtain ⟨n, hn, n2, n6⟩ : ∃ n : Nat, 2 + z % 5 = n ∧ 2 ≤ n ∧ n ≤ 6 := ⟨(2 + z % 5).toNat, by omega, by omega, by omega⟩
      rw [hn]
      have hl2 := upd_same (H := H1) (a := l) (o := HO.lst [V.int (z / 5 / 4)])
      generalize upd H1 l (HO.lst [V.int (z / 5 / 4)]) = H2 at *
      generalize z / 5 % 4 = kd
      refine ⟨by omega, by omega, ?_⟩
      rw [show Int.toNat (n : Int) = n by omega]
      refine comp_drawD (n := n) (l := l) (r0 := z / 5 / 4) (Pσ := fun σ => ∃ e, σ = [e, some (.int n), some (.ref l), some (.int kd)]) ⟨_, rfl⟩ (by omega) hl2 (fun d => ∃ ps, d = dRow ps ∧ ps.length = n ∧ ∀ p ∈ ps, Dr p ∧ Low p) ?_ ?_
      · rintro D i σ' H2 r2 hD hDo b2 hl2 hi ⟨e, rfl⟩ R kR
        walk_at "rd"
        refine ⟨by omega, by omega, ?_⟩
        rw [show Int.toNat (n : Int) = n by omega]
        refine comp_drawD (n := n) (l := l) (r0 := r2) (Pσ := fun σ => ∃ e, σ = [e, some (.ref l), some (.int kd)]) ⟨_, rfl⟩ (by omega) hl2 (fun d => ∃ p, d = dF p ∧ Dr p ∧ Low p) ?_ ?_
        · rintro D2 j σ2 H3 r3 hD2 hD2o b3 hl3 hj ⟨e2, rfl⟩ R2 kR2
          walk_at "rd"
          exact ⟨l, r3, _, rfl, hl3, fun q p r4 H4 b4 hl4 hq hq4 dr lo => kR2 _ (.ref q) (dF p) r4 H4 ⟨_, rfl⟩ b4 hl4 ⟨q, _, rfl, by rw [newH_at hq]; exact hq4, _, _, rfl, rfl, _, _, rfl, rfl, rfl⟩ ⟨p, rfl, dr, lo⟩⟩
        · intro D2 H3 r3 ys ds hD2 b3 hl3 hds hpf hys hrep
          obtain ⟨ps, rfl, hps⟩ := all_dF hpf
          exact kR _ _ (dRow ps) r3 H3 ⟨_, rfl⟩ b3 hl3 ⟨D2, ys, rfl, by rw [newH_at hD2]; exact hys, Reps.mono cutH_new _ hrep⟩ ⟨ps, rfl, by simpa using hds, hps⟩
      · intro D H3 r3 xs ds hD b3 hl3 hds hpf hxs hrep
        obtain ⟨gs, rfl, hgs⟩ := all_dRow hpf
        have gl : gs.length = n := by simpa using hds
        have gd : Gd gs n := ⟨gl, fun r hr => ⟨(hgs r hr).1, fun p hp => ((hgs r hr).2 p hp).1.sm⟩⟩
        have Dl : D ≠ l := (ne_of_none hl2 hD).symm
        have SG : Rep (lessH l H3) (.ref D) (.lst (gs.map dRow)) := ⟨D, xs, rfl, by rw [lessH_at Dl]; exact hxs, Reps.mono (fun b o h => by
          obtain ⟨z1, z2, z3⟩ := cutH_of h
          rw [lessH_at (ne_of_none hl2 z2).symm]
          exact z3) _ hrep⟩
        have S0 : Same (lessH l H3) H3 := fun b o h => (lessH_of h).2
        have SL : lessH l H3 l = none := if_pos rfl
        generalize lessH l H3 = S at *
        clear hrep hxs hgs hpf hds
        try walk_at "rd"
        refine ⟨by decide, by decide, ?_⟩
        refine go_range (fun i σ H' => ∃ (r : Int) (e5 e6 e7 e8 e9 : Option V), σ = [some (.ref a), some (.ref l), some (.int n), some (.int kd), some (.ref D), e5, e6, e7, e8, e9] ∧ Same S H' ∧ H' l = some (.lst [.int r])) ⟨r3, _, _, _, _, _, rfl, S0, hl3⟩ ?_ ?_
        · rintro i σ H' hi ⟨r, e5, e6, e7, e8, e9, rfl, sS, hl'⟩
          walk_at "rd"
          refine ⟨l, r, n, rfl, hl', n2, n6, fun z H4 r4 Ps Qs b4 hl4 repz lPQ l1 l3 inP inQ => ?_⟩
          obtain ⟨kp, kq, hz, hkp, hkq⟩ := rep_pair (Rep.mono newH_same _ repz)
          have S4 : Same S H4 := fun b o h => b4 b o (fun e => by rw [e, SL] at h; cases h) (sS b o h)
          refine ⟨z, rfl, _, .inl (.inl hz), rfl, ?_⟩
          try walk_at "rd"
          have G4 := Rep.mono S4 _ SG
          obtain ⟨_, xs4, e4, hD4, hxs4⟩ := id G4
          cases e4
          obtain ⟨lowV, bitV⟩ := val_low gd inP inQ lPQ l3
          refine ⟨⟨_, .inl (.inl hD4)⟩, comp_copy hD4 hxs4 (by omega) rfl rfl ⟨_, rfl⟩ fun D5 H5 nD5 s5 repA => ?_⟩
          refine ⟨_, .inl (s5 _ _ hkp), fun c1 n1 => ⟨_, .inl ((Same.new n1) _ _ (s5 _ _ hkq)), fun c2 nc2 => ⟨by decide, fun t nt => ?_⟩⟩⟩
          have S5t : Same H5 (upd (upd (upd H5 c1 (HO.lst (Ps.map V.int))) c2 (HO.lst (Qs.map V.int))) t (HO.tup [V.ref D5, V.ref c1, V.ref c2])) := ((Same.new n1).trans (Same.new nc2)).trans (Same.new nt)
          have hc1 := ((Same.new nc2 (o := HO.lst (Qs.map V.int))).trans (Same.new nt (o := HO.tup [V.ref D5, V.ref c1, V.ref c2]))) _ _ (upd_same (H := H5) (a := c1) (o := HO.lst (Ps.map V.int)))
          have hc2 := (Same.new nt (o := HO.tup [V.ref D5, V.ref c1, V.ref c2])) _ _ (upd_same (H := upd H5 c1 (HO.lst (Ps.map V.int))) (a := c2) (o := HO.lst (Qs.map V.int)))
          have ht := upd_same (H := upd (upd H5 c1 (HO.lst (Ps.map V.int))) c2 (HO.lst (Qs.map V.int))) (a := t) (o := HO.tup [V.ref D5, V.ref c1, V.ref c2])
          generalize upd (upd (upd H5 c1 (HO.lst (Ps.map V.int))) c2 (HO.lst (Qs.map V.int))) t (HO.tup [V.ref D5, V.ref c1, V.ref c2]) = Ht at *
          refine ⟨.ref D5, .ref c1, .ref c2, gs, Ps, Qs, n, rfl, Rep.mono S5t _ repA, rep_of_ints hc1, rep_of_ints hc2, gd, inP, inQ, lPQ, l1, l3, fun zf H6 s6 nz6 hz6 => ?_⟩
          refine ⟨.ref zf, val gs Ps Qs, rfl, rep_of hz6, lowV, bitV, fun H7 s7 => ⟨_, rfl, ?_⟩⟩
          rw [if_neg (by decide)]
          have T7 := ((s5.trans S5t).trans s6).trans s7
          refine ⟨.ref D, .ref kp, .ref kq, gs, Ps, Qs, n, _, _, rfl, Rep.mono T7 _ G4, rep_of_ints (T7 _ _ hkp), rep_of_ints (T7 _ _ hkq), gd, inP, inQ, lPQ, l1, l3, nb_sub gd inP inQ lPQ (by omega), fun zd H8 s8 repd => ?_⟩
          have repd' : Rep H8 (.ref zd) (dF (val gs Ps Qs)) := Rep.mono newH_same _ repd
          have T8 := T7.trans s8
          have Tt := (s6.trans s7).trans s8
          refine ⟨zf, zd, dF (val gs Ps Qs), dF (val gs Ps Qs), true, rfl, rfl, Rep.mono (s7.trans s8) _ (rep_of hz6), repd', deq_refl _, by have := dep_dF (val gs Ps Qs); omega, _, rfl, ?_⟩
          rw [if_neg (by decide)]
          refine ⟨by decide, fun t2 nt2 => ?_⟩
          have Tu := Tt.trans (Same.new nt2 (o := HO.tup [V.ref D, V.ref kp, V.ref kq]))
          have T9 := T8.trans (Same.new nt2 (o := HO.tup [V.ref D, V.ref kp, V.ref kq]))
          refine ⟨t, t2, .tup [.lst (gs.map dRow), dI Ps, dI Qs], .tup [.lst (gs.map dRow), dI Ps, dI Qs], true, rfl, rfl, ⟨t, _, rfl, Tu _ _ ht, _, _, rfl, Rep.mono (S5t.trans Tu) _ repA, _, _, rfl, rep_of_ints (Tu _ _ hc1), _, _, rfl, rep_of_ints (Tu _ _ hc2), rfl⟩, ⟨t2, _, rfl, upd_same, _, _, rfl, Rep.mono T9 _ G4, _, _, rfl, rep_of_ints (T9 _ _ hkp), _, _, rfl, rep_of_ints (T9 _ _ hkq), rfl⟩, deq_refl _, by have := dep_all gs Ps Qs; omega, _, rfl, ?_⟩
          rw [if_neg (by decide)]
          exact ⟨S4.trans T9, r4, T9 _ _ hl4⟩
        · rintro σ H' ⟨r, e5, e6, e7, e8, e9, rfl, sS, hl'⟩
          walk_at "rd"
          exact k _
end Rim47
set_option Elab.async false
set_option linter.all false
set_option maxRecDepth 100000
set_option maxHeartbeats 4000000
namespace Rim47
open PySem PySem.Spec PyProof.Rows L2 RimM RimD
theorem nought_of {K : PySem.W.Frag} {mg : Str → Option Value} {h : Heap} (X : K.In h) (G : h.Ns mainGlobals mg) {C : Addr} {t u : Tok} {n : Nat} {od : Option Addr} {osl : Array (Option Value)}
    (a : PySem.W.nsIn K mainGlobals "NOUGHT" = some (some (.ref C))) (l : K.lookup C = some ⟨.type "tuple", od, .seq #[.int 0 t, .int 1 u] n, osl⟩) : ∃ C, mg "NOUGHT" = some (.ref C) ∧ ∀ H : Hp, SqT K H C [.int 0, .int 1] :=
  ⟨C, PySem.W.mg_of X G a, fun H => .inr ⟨_, _, _, l, rfl, rfl, Nat.le_of_lt (small1000 (by show 2 ≤ 1000; decide)), .cons ⟨_, rfl⟩ (.cons ⟨_, rfl⟩ .nil)⟩⟩
theorem all_mk {l : PySem.W.OpenLaw} {w : World} {K : PySem.W.Frag} {mg : Str → Option Value} {fa : Addr} (hfa : mg "law" = some (.ref fa)) (T : Txt K mg)  (F_greatest_divisor : Fn0 K mg "greatest_divisor" s_greatest_divisor) (F_fraction : Fn0 K mg "fraction" s_fraction) (F_minus : Fn0 K mg "minus" s_minus) (F_common_bottom : Fn0 K mg "common_bottom" s_common_bottom) (F_cleared : Fn0 K mg "cleared" s_cleared) (F_with_pivot : Fn0 K mg "with_pivot" s_with_pivot) (F_lessened : Fn0 K mg "lessened" s_lessened) (F_swept : Fn0 K mg "swept" s_swept) (F_determinant : Fn0 K mg "determinant" s_determinant) (F_grid_part : Fn0 K mg "grid_part" s_grid_part) (F_minor_of : Fn0 K mg "minor_of" s_minor_of) (F__law_cell_at : Fn0 K mg "_law_cell_at" s__law_cell_at) (F__law_big : Fn0 K mg "_law_big" s__law_big) (F__law_low : Fn0 K mg "_law_low" s__law_low) (F__law_add : Fn0 K mg "_law_add" s__law_add) (F__law_mul : Fn0 K mg "_law_mul" s__law_mul) (F__law_less : Fn0 K mg "_law_less" s__law_less) (F__law_whole : Fn0 K mg "_law_whole" s__law_whole) (F__law_digit : Fn0 K mg "_law_digit" s__law_digit) (F__law_is_fraction : Fn0 K mg "_law_is_fraction" s__law_is_fraction) (F__law_number_of : Fn0 K mg "_law_number_of" s__law_number_of) (F__law_two : Fn0 K mg "_law_two" s__law_two) (F__law_due : Fn0 K mg "_law_due" s__law_due) (F__law_runs_by : Fn0 K mg "_law_runs_by" s__law_runs_by) (F_law : Fn0 K mg "law" s_law) :
    ∃ fd : FuncData, (∀ (s : Shared) (v : Value), BindsTo s fd ⟨[v], []⟩ [("_law_script", v)]) ∧ ∀ base : Heap, K.In base → base.Ns mainGlobals mg → FnOk l.prog w K mg base CX0 6 fa fd ["_law_script"] (sp_law K) := by
  obtain ⟨f, fd, FL, m⟩ := F_law
  have e := hfa.symm.trans m
  cases e
  refine ⟨fd, ?_, fun base _ _ => ?_⟩
  · obtain ⟨oc, od, kV, doc, pm, an, cdv, ct, osl, rfl, lk, hcd⟩ := FL.ex
    exact fun s v => .of_eq rfl
  · have c1 := ok_greatest_divisor (P := l.prog) (w := w) (base := base) T F_greatest_divisor
    have c2 := ok_fraction T F_fraction c1
    have c3 := ok_common_bottom T F_common_bottom c1
    have c4 := ok_cleared T F_cleared c3
    have c5 := ok_with_pivot (P := l.prog) (w := w) (base := base) T F_with_pivot
    have c6 := ok_lessened (P := l.prog) (w := w) (base := base) T F_lessened
    have c7 := ok_swept T F_swept c5 c6
    have c8 := ok_determinant T F_determinant c4 c7 c2
    have c9 := ok_minus T F_minus c2
    have c0 := ok_grid_part (P := l.prog) (w := w) (base := base) T F_grid_part
    have c10 := ok_minor_of T F_minor_of c0 c8 c9
    have d1 := ok__law_cell_at (P := l.prog) (w := w) (base := base) T F__law_cell_at
    have d2 := ok__law_big T F__law_big d1
    have d3 := ok__law_low (P := l.prog) (w := w) (base := base) T F__law_low
    have d4 := ok__law_whole (P := l.prog) (w := w) (base := base) T F__law_whole
    have d5 := ok__law_digit (P := l.prog) (w := w) (base := base) T F__law_digit
    have d6 := ok__law_is_fraction T F__law_is_fraction d4 d3
    have d7 := ok__law_add T F__law_add d3
    have d8 := ok__law_mul T F__law_mul d3
    have d9 := ok__law_less T F__law_less d3
    have d10 := ok__law_number_of T F__law_number_of d5 d3
    have d11 := ok__law_two T F__law_two d9 d8
    have d12 := ok__law_due T F__law_due d9 d8 d7 d11
    have d13 := ok__law_runs_by T F__law_runs_by d5
    exact ok_law T FL d2 d5 d10 d13 c10 d6 d12
theorem walk {l : PySem.W.OpenLaw} {q : Program} {loose : List Str} {XP : (Str → Option Value) → Heap → Prop} {YP : World → Heap → Prop} {d : DefRec} {K : Params → PySem.W.Frag} (hn : l.most = some 63) (hdf : d.params.defaults = [])
    (hY : ∀ (w : World) (h : Heap), YP w h → (K w.params).In h)
    (F : ∀ (w : World) (mg : Str → Option Value) (fa : Addr) (h : Heap), (K w.params).In h → h.Ns mainGlobals mg → mg d.name = some (.ref fa) →
      ∃ fd : FuncData, (∀ (s : Shared) (u : Value), BindsTo s fd ⟨[u], []⟩ [("_law_script", u)]) ∧ ∀ base : Heap, (K w.params).In base → base.Ns mainGlobals mg → FnOk l.prog w (K w.params) mg base CX0 6 fa fd ["_law_script"] (sp_law (K w.params))) :
    PySem.W.WalkO q loose XP YP l.row.toRowW d [] (fun f vs => PySem.call f vs) :=
  L2.walk_of (n := 63) (k := 6) (x := "_law_script") (CX := fun _ => CX0) (sp := fun w => sp_law (K w.params)) hn (by decide) hdf ⟨rfl, by decide, by decide⟩ hY F (fun _ _ a ns hl _ hS => ⟨a, ns, rfl, hS, fun _ => rfl⟩) fun _ _ _ _ _ z => z
end Rim47
open PySem PySem.W PyProof.Rows
set_option maxRecDepth 100000 in
set_option maxHeartbeats 0 in
theorem PySem.Challenge.cw_rimread_k47_minors_holds : PySem.Challenge.rw_rimread_k47_minors.Holds := by
  w_on; o_law; k_head; (case hw => w_witness2)
  k_fill
  refine Rim47.walk (l := PySem.Challenge.rw_rimread_k47_minors) rfl rfl (fun w h Y => PySem.W.kIn_of Y) ?F
  case F =>
    intro w mg fa h KX G hmg
    refine Rim47.all_mk  hmg ⟨?n_max, ?n_min, ?n_abs, ?n_len, ?n_isinstance, ?n_int, ?n_bool, ?n_tuple, ?n_range, ?n_list, ?cN, ?c1⟩ ?f_greatest_divisor ?f_fraction ?f_minus ?f_common_bottom ?f_cleared ?f_with_pivot ?f_lessened ?f_swept ?f_determinant ?f_grid_part ?f_minor_of ?f__law_cell_at ?f__law_big ?f__law_low ?f__law_add ?f__law_mul ?f__law_less ?f__law_whole ?f__law_digit ?f__law_is_fraction ?f__law_number_of ?f__law_two ?f__law_due ?f__law_runs_by ?f_law
    case cN => refine' Rim47.nought_of KX G ?a ?l; (case a => k_is); (case l => k_is)
    case c1 => refine' L2.mg_int KX G ?a; (case a => k_is)
    case n_max => refine' PySem.W.mg_none_of KX G ?a; (case a => k_is)
    case n_min => refine' PySem.W.mg_none_of KX G ?a; (case a => k_is)
    case n_abs => refine' PySem.W.mg_none_of KX G ?a; (case a => k_is)
    case n_len => refine' PySem.W.mg_none_of KX G ?a; (case a => k_is)
    case n_isinstance => refine' PySem.W.mg_none_of KX G ?a; (case a => k_is)
    case n_int => refine' PySem.W.mg_none_of KX G ?a; (case a => k_is)
    case n_bool => refine' PySem.W.mg_none_of KX G ?a; (case a => k_is)
    case n_tuple => refine' PySem.W.mg_none_of KX G ?a; (case a => k_is)
    case n_range => refine' PySem.W.mg_none_of KX G ?a; (case a => k_is)
    case n_list => refine' PySem.W.mg_none_of KX G ?a; (case a => k_is)
    case f_greatest_divisor => refine' L2.fn0_mk KX G ?a ?l ?c ?k; (case a => k_is); (case l => k_is); (case c => k_is); (case k => k_is)
    case f_fraction => refine' L2.fn0_mk KX G ?a ?l ?c ?k; (case a => k_is); (case l => k_is); (case c => k_is); (case k => k_is)
    case f_minus => refine' L2.fn0_mk KX G ?a ?l ?c ?k; (case a => k_is); (case l => k_is); (case c => k_is); (case k => k_is)
    case f_common_bottom => refine' L2.fn0_mk KX G ?a ?l ?c ?k; (case a => k_is); (case l => k_is); (case c => k_is); (case k => k_is)
    case f_cleared => refine' L2.fn0_mk KX G ?a ?l ?c ?k; (case a => k_is); (case l => k_is); (case c => k_is); (case k => k_is)
    case f_with_pivot => refine' L2.fn0_mk KX G ?a ?l ?c ?k; (case a => k_is); (case l => k_is); (case c => k_is); (case k => k_is)
    case f_lessened => refine' L2.fn0_mk KX G ?a ?l ?c ?k; (case a => k_is); (case l => k_is); (case c => k_is); (case k => k_is)
    case f_swept => refine' L2.fn0_mk KX G ?a ?l ?c ?k; (case a => k_is); (case l => k_is); (case c => k_is); (case k => k_is)
    case f_determinant => refine' L2.fn0_mk KX G ?a ?l ?c ?k; (case a => k_is); (case l => k_is); (case c => k_is); (case k => k_is)
    case f_grid_part => refine' L2.fn0_mk KX G ?a ?l ?c ?k; (case a => k_is); (case l => k_is); (case c => k_is); (case k => k_is)
    case f_minor_of => refine' L2.fn0_mk KX G ?a ?l ?c ?k; (case a => k_is); (case l => k_is); (case c => k_is); (case k => k_is)
    case f__law_cell_at => refine' L2.fn0_mk KX G ?a ?l ?c ?k; (case a => k_is); (case l => k_is); (case c => k_is); (case k => k_is)
    case f__law_big => refine' L2.fn0_mk KX G ?a ?l ?c ?k; (case a => k_is); (case l => k_is); (case c => k_is); (case k => k_is)
    case f__law_low => refine' L2.fn0_mk KX G ?a ?l ?c ?k; (case a => k_is); (case l => k_is); (case c => k_is); (case k => k_is)
    case f__law_add => refine' L2.fn0_mk KX G ?a ?l ?c ?k; (case a => k_is); (case l => k_is); (case c => k_is); (case k => k_is)
    case f__law_mul => refine' L2.fn0_mk KX G ?a ?l ?c ?k; (case a => k_is); (case l => k_is); (case c => k_is); (case k => k_is)
    case f__law_less => refine' L2.fn0_mk KX G ?a ?l ?c ?k; (case a => k_is); (case l => k_is); (case c => k_is); (case k => k_is)
    case f__law_whole => refine' L2.fn0_mk KX G ?a ?l ?c ?k; (case a => k_is); (case l => k_is); (case c => k_is); (case k => k_is)
    case f__law_digit => refine' L2.fn0_mk KX G ?a ?l ?c ?k; (case a => k_is); (case l => k_is); (case c => k_is); (case k => k_is)
    case f__law_is_fraction => refine' L2.fn0_mk KX G ?a ?l ?c ?k; (case a => k_is); (case l => k_is); (case c => k_is); (case k => k_is)
    case f__law_number_of => refine' L2.fn0_mk KX G ?a ?l ?c ?k; (case a => k_is); (case l => k_is); (case c => k_is); (case k => k_is)
    case f__law_two => refine' L2.fn0_mk KX G ?a ?l ?c ?k; (case a => k_is); (case l => k_is); (case c => k_is); (case k => k_is)
    case f__law_due => refine' L2.fn0_mk KX G ?a ?l ?c ?k; (case a => k_is); (case l => k_is); (case c => k_is); (case k => k_is)
    case f__law_runs_by => refine' L2.fn0_mk KX G ?a ?l ?c ?k; (case a => k_is); (case l => k_is); (case c => k_is); (case k => k_is)
    case f_law => refine' L2.fn0_mk KX G ?a ?l ?c ?k; (case a => k_is); (case l => k_is); (case c => k_is); (case k => k_is)
