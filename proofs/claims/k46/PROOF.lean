import PyProof.Rows.All
import Wide.All
import OpenK.AllK
import Wide.FinOn
import Lean
import PyProof.EqAt
import PyProof.EqKinds
import PyProof.TupleCall
import PySem.Challenge.RW_rimread_k46_facing_runs
set_option Elab.async false
set_option linter.all false
set_option maxRecDepth 100000
namespace L2
open PySem PySem.Spec PyProof.Rows
abbrev Key := Sum Int Str
def keyIs : Key → Value → Bool
  | .inl k, v => Value.isInt k v
  | .inr x, v => Value.isStrOf x v
def keyH (w : World) : Key → Int
  | .inl k => hashInt k
  | .inr x => hashStr w x
theorem keyIs_shape : ∀ {k : Key} {v : Value}, keyIs k v = true → (∃ i t, k = Sum.inl i ∧ v = Value.int i t) ∨ (∃ x t, k = Sum.inr x ∧ v = Value.str x t)
  | .inl i, v, h => by
    obtain ⟨t, e⟩ := Value.isInt_shape (k := i) (v := v) h
    exact .inl ⟨i, t, rfl, e⟩
  | .inr x, v, h => by
    obtain ⟨t, e⟩ := Value.isStrOf_shape (x := x) (v := v) h
    exact .inr ⟨x, t, rfl, e⟩
theorem key_ll (a b : Int) : decide ((Sum.inl a : Key) = Sum.inl b) = (a == b) := by
  by_cases e : a = b
  · subst e; simp
  · have h : ¬ (Sum.inl a : Key) = Sum.inl b := fun q => e (Sum.inl.inj q)
    rw [decide_eq_false h]
    exact (beq_eq_false_iff_ne.mpr e).symm
theorem key_rr (a b : Str) : decide ((Sum.inr a : Key) = Sum.inr b) = decide (a = b) := by
  by_cases e : a = b
  · subst e; simp
  · have h : ¬ (Sum.inr a : Key) = Sum.inr b := fun q => e (Sum.inr.inj q)
    rw [decide_eq_false h, decide_eq_false e]
theorem key_lr (a : Int) (b : Str) : decide ((Sum.inl a : Key) = Sum.inr b) = false := decide_eq_false (fun q => nomatch q)
theorem key_rl (a : Str) (b : Int) : decide ((Sum.inr a : Key) = Sum.inl b) = false := decide_eq_false (fun q => nomatch q)
def mixKind (prog : Program) (w : World) : PySem.KeyKind prog w Key where
  is := keyIs
  hash := keyH w
  inj := fun v a b ha hb => by
    rcases keyIs_shape ha with ⟨i, t, rfl, rfl⟩ | ⟨x, t, rfl, rfl⟩
    · rcases keyIs_shape hb with ⟨j, u, rfl, e⟩ | ⟨y, u, rfl, e⟩
      · injection e with e1 _; rw [e1]
      · exact nomatch e
    · rcases keyIs_shape hb with ⟨j, u, rfl, e⟩ | ⟨y, u, rfl, e⟩
      · exact nomatch e
      · injection e with e1 _; rw [e1]
  byValue := fun k v h => by
    rcases keyIs_shape h with ⟨i, t, rfl, rfl⟩ | ⟨x, t, rfl, rfl⟩ <;> rfl
  pyHash := fun hv h => by
    rcases keyIs_shape hv with ⟨i, t, rfl, rfl⟩ | ⟨x, t, rfl, rfl⟩
    · exact wpAny_pyHash_int h
    · exact wpAny_pyHash_str h
  eqBool := fun hu hv h => by
    rcases keyIs_shape hu with ⟨i, t, rfl, rfl⟩ | ⟨x, t, rfl, rfl⟩
    · rcases keyIs_shape hv with ⟨j, u, rfl, rfl⟩ | ⟨y, u, rfl, rfl⟩
      · rw [key_ll] at h; exact wpAny_eqBool_int h
      · rw [key_lr] at h; exact SeqAt.EqAt.int_str i t y u _ _ _ _ h
    · rcases keyIs_shape hv with ⟨j, u, rfl, rfl⟩ | ⟨y, u, rfl, rfl⟩
      · rw [key_rl] at h; exact SeqAt.EqAt.str_int x t j u _ _ _ _ h
      · rw [key_rr] at h; exact wpAny_eqBool_str h
  «strs» := fun k x t v h => by
    rcases keyIs_shape h with ⟨i, u, rfl, e⟩ | ⟨y, u, rfl, e⟩
    · exact nomatch e
    · injection e with e1 _
      subst e1
      cases v <;> rfl
end L2
namespace L2
open PySem PySem.Spec PyProof.Rows
inductive V where
  | non | bl (b : Bool) | int (i : Int) | str (x : Str) | byt (b : Array UInt8) | flt (b : UInt64) | ref (a : Addr) | ty (n : String)
  deriving DecidableEq
def RelV : V → Value → Prop
  | .non, u => u = Value.none
  | .bl b, u => u = Value.bool b
  | .int i, u => ∃ t, u = Value.int i t
  | .str x, u => ∃ t, u = Value.str x t
  | .byt b, u => ∃ t, u = Value.bytes b t
  | .flt b, u => ∃ t, u = Value.float b t
  | .ref a, u => u = Value.ref a
  | .ty n, u => u = Value.type n
abbrev Vals : List V → List Value → Prop := Paired RelV
theorem Vals.length {xs : List V} {us : List Value} (r : Vals xs us) : xs.length = us.length := Paired.length r
theorem Vals.get : ∀ {xs : List V} {us : List Value} {i : Nat} {x : V}, Vals xs us → xs[i]? = some x → ∃ u, us[i]? = some u ∧ RelV x u
  | _, _, _, _, .nil, e => by simp at e
  | _, _, 0, _, .cons r _, e => by simp at e; subst e; exact ⟨_, rfl, r⟩
  | _, _, i + 1, x, .cons _ t, e => by
    obtain ⟨u, h1, h2⟩ := Vals.get (i := i) (x := x) t (by simpa using e)
    exact ⟨u, by simpa using h1, h2⟩
theorem Vals.set {x : V} {u : Value} (r : RelV x u) : ∀ {xs : List V} {us : List Value} (i : Nat), Vals xs us → Vals (xs.set i x) (us.set i u)
  | _, _, _, .nil => .nil
  | _, _, 0, .cons _ t => .cons r t
  | _, _, i + 1, .cons q t => .cons q (Vals.set r i t)
theorem Vals.append : ∀ {xs ys : List V} {us ws : List Value}, Vals xs us → Vals ys ws → Vals (xs ++ ys) (us ++ ws)
  | _, _, _, _, .nil, s => s
  | _, _, _, _, .cons r t, s => .cons r (Vals.append t s)
theorem Vals.take : ∀ {xs : List V} {us : List Value} (n : Nat), Vals xs us → Vals (xs.take n) (us.take n)
  | _, _, 0, _ => .nil
  | _, _, _ + 1, .nil => .nil
  | _, _, n + 1, .cons r t => .cons r (Vals.take n t)
theorem Vals.drop : ∀ {xs : List V} {us : List Value} (n : Nat), Vals xs us → Vals (xs.drop n) (us.drop n)
  | _, _, 0, r => r
  | _, _, _ + 1, .nil => .nil
  | _, _, n + 1, .cons _ t => Vals.drop n t
def RelO : Option V → Option Value → Prop
  | some v, some u => RelV v u
  | none, none => True
  | _, _ => False
def KV {κ : Type} : List (κ × V) → List (κ × Value) → Prop := Paired fun (p : κ × V) (q : κ × Value) => p.1 = q.1 ∧ RelV p.2 q.2
def kV : Key → V
  | .inl i => .int i
  | .inr x => .str x
inductive HO where
  | lst (xs : List V)
  | tup (xs : List V)
  | dK (kvs : List (Key × V)) | dT (kvs : List (List Key × V))
  | set (S : Int → Bool) (n : Nat)
  | ins (C dx : Addr) (fs : List (Str × V))
  | own (x : Addr)
  | xd (fs : List (Str × V))
  | met (f x : Addr)
  | rng (lo hi : Int)
  | frz (o : Obj) (u : HO)
  | tbl (ps : Array Value)
  | ext (φ : Heap → Prop)
abbrev Hp := Addr → Option HO
def upd (H : Hp) (a : Addr) (o : HO) : Hp := fun b => if b = a then some o else H b
theorem upd_same {H : Hp} {a : Addr} {o : HO} : upd H a o a = some o := by unfold upd; rw [if_pos rfl]
theorem upd_ne {H : Hp} {a b : Addr} {o : HO} (h : b ≠ a) : upd H a o b = H b := by unfold upd; rw [if_neg h]
theorem upd_upd {H : Hp} {a : Addr} {o u : HO} : upd (upd H a o) a u = upd H a u := by
  funext b; unfold upd; split <;> rfl
theorem ne_of_none {H : Hp} {a b : Addr} {o : HO} (h : H a = some o) (h' : H b = none) : a ≠ b := by
  intro e; subst e; rw [h] at h'; cases h'
section
variable (P : Program) (w : World)
def ObjOk (H : Hp) (h : Heap) (a : Addr) : HO → Prop
  | .lst xs => xs.length ≤ sizeLine ∧ ∃ (its : List Value) (n : Nat), Vals xs its ∧ h.get? a = some { cls := .type "list", data := .seq its.toArray n }
  | .tup xs => xs.length ≤ sizeLine ∧ ∃ its : List Value, Vals xs its ∧ IsTup h a its.toArray
  | .dK kvs => kvs.length ≤ sizeLine ∧ (a == sysModules) = false ∧ ∃ vs, KV kvs vs ∧ h.DictOf (mixKind P w) a vs
  | .dT kvs => kvs.length ≤ sizeLine ∧ (a == sysModules) = false ∧ ∃ xs : List (List Key × Addr × Value),
      Paired (fun (p : List Key × V) (q : List Key × Addr × Value) => p.1 = q.1 ∧ H q.2.1 = some (.tup (p.1.map kV)) ∧ RelV p.2 q.2.2) kvs xs ∧
      ∃ o es ep, h.get? a = some o ∧ o.ExactDict ∧ o.data = .dict es ep ∧ es.toList = xs.map (entryOfKey (tupleKind (mixKind P w))) ∧ (xs.map (·.1)).Nodup
  | .set S n => h.SetOf (intKind P w) a S n
  | .ins C dx fs => H dx = some (.own a) ∧ fs.length ≤ 1000 ∧ dx ≠ a ∧ h.get? a = some (PySem.W.instObj C dx) ∧
      ∃ mA, h.Ns1 dx mA ∧ (∀ f, RelO (fs.lookup f) (mA f)) ∧ PySem.Within mA (fs.map (·.1))
  | .own _ => ∃ o, h.get? a = some o
  | .xd fs => ∃ mA, h.Ns1 a mA ∧ ∀ f, RelO (fs.lookup f) (mA f)
  | .rng lo hi => ∃ t u v, h.get? a = some { cls := .type "range", data := .fields #[.int lo t, .int hi u, .int 1 v] }
  | .frz o u => h.get? a = some o ∧ ObjOk H h a u
  | .tbl ps => h.get? a = some { cls := .none, data := .fields ps }
  | .met f x => h.get? a = some (PySem.W.methodObj (.ref f) (.ref x))
  | .ext φ => φ h ∧ (∃ o, h.get? a = some o) ∧ ∀ h1 h2 : Heap, φ h1 → (∀ o, h1.get? a = some o → h2.get? a = some o) → φ h2
def HOk (H : Hp) (h : Heap) : Prop := ∀ a o, H a = some o → ObjOk P w H h a o
end
section
variable {P : Program} {w : World} {H H' : Hp} {h h' : Heap} {a : Addr} {o : HO}
theorem ObjOk.lt (x : ObjOk P w H h a o) : a < h.objs.size := by
  cases o with
  | lst xs => obtain ⟨_, _, _, _, e⟩ := x; exact Heap.lt_size e
  | tup xs => obtain ⟨_, _, _, p⟩ := x; exact p.lt
  | dK kvs => obtain ⟨_, _, _, _, o, _, _, e, _⟩ := x; exact Heap.lt_size e
  | dT kvs => obtain ⟨_, _, _, _, o, _, _, e, _⟩ := x; exact Heap.lt_size e
  | set S n => obtain ⟨o, _, _, _, e, _⟩ := x; exact Heap.lt_size e
  | ins C dx fs => obtain ⟨_, _, _, e, _⟩ := x; exact Heap.lt_size e
  | own y => obtain ⟨_, e⟩ := x; exact Heap.lt_size e
  | xd fs => obtain ⟨_, ⟨_, _, _, e, _⟩, _⟩ := x; exact Heap.lt_size e
  | rng lo hi => obtain ⟨_, _, _, e⟩ := x; exact Heap.lt_size e
  | frz ob u => obtain ⟨e, _⟩ := x; exact Heap.lt_size e
  | tbl ps => exact Heap.lt_size (show h.get? a = some _ from x)
  | met f y => exact Heap.lt_size (show h.get? a = some _ from x)
  | ext φ => obtain ⟨_, ⟨_, e⟩, _⟩ := x; exact Heap.lt_size e
theorem Paired.mapP {α β : Type} {F G : α → β → Prop} : ∀ {l₁ : List α} {l₂ : List β}, Paired F l₁ l₂ → (∀ a b, F a b → G a b) → Paired G l₁ l₂
  | _, _, .nil, _ => .nil
  | _, _, .cons r t, f => .cons (f _ _ r) (Paired.mapP t f)
theorem ObjOk.stay (x : ObjOk P w H h a o) (k : ∀ b u, (b = a ∨ H b = some (.own a)) → h.get? b = some u → h'.get? b = some u)
    (ho : ∀ b, H b = some (.own a) → H' b = some (.own a)) (ht : ∀ b xs, H b = some (.tup xs) → H' b = some (.tup xs)) : ObjOk P w H' h' a o := by
  induction o with
  | lst xs => obtain ⟨z, its, n, r, e⟩ := x; exact ⟨z, its, n, r, k _ _ (.inl rfl) e⟩
  | tup xs => obtain ⟨z, its, r, ob, e, c⟩ := x; exact ⟨z, its, r, ob, k _ _ (.inl rfl) e, c⟩
  | dK kvs => obtain ⟨z, y, vs, r, ob, es, ep, e, c⟩ := x; exact ⟨z, y, vs, r, ob, es, ep, k _ _ (.inl rfl) e, c⟩
  | dT kvs =>
    obtain ⟨z, y, xs, r, ob, es, ep, e, c⟩ := x
    exact ⟨z, y, xs, Paired.mapP r fun p q z => ⟨z.1, ht _ _ z.2.1, z.2.2⟩, ob, es, ep, k _ _ (.inl rfl) e, c⟩
  | set S n => obtain ⟨ob, es, ep, t, e, c⟩ := x; exact ⟨ob, es, ep, t, k _ _ (.inl rfl) e, c⟩
  | ins C dx fs =>
    obtain ⟨d, z, ne, e, mA, ⟨od, es, ep, e2, c⟩, r⟩ := x
    exact ⟨ho _ d, z, ne, k _ _ (.inl rfl) e, mA, ⟨od, es, ep, k _ _ (.inr d) e2, c⟩, r⟩
  | own y => obtain ⟨ob, e⟩ := x; exact ⟨ob, k _ _ (.inl rfl) e⟩
  | xd fs => obtain ⟨mA, ⟨od, es, ep, e, c⟩, r⟩ := x; exact ⟨mA, ⟨od, es, ep, k _ _ (.inl rfl) e, c⟩, r⟩
  | rng lo hi => obtain ⟨t, u, v, e⟩ := x; exact ⟨t, u, v, k _ _ (.inl rfl) e⟩
  | frz ob u ih => obtain ⟨e, q⟩ := x; exact ⟨k _ _ (.inl rfl) e, ih q⟩
  | tbl ps =>
    have e : h.get? a = some { cls := .none, data := .fields ps } := x
    show h'.get? a = some { cls := .none, data := .fields ps }
    exact k a _ (.inl rfl) e
  | met f y =>
    have e : h.get? a = some (PySem.W.methodObj (.ref f) (.ref y)) := x
    show h'.get? a = some (PySem.W.methodObj (.ref f) (.ref y))
    exact k a _ (.inl rfl) e
  | ext φ => obtain ⟨p, ⟨o, e⟩, st⟩ := x; exact ⟨st _ _ p fun o q => k _ _ (.inl rfl) q, ⟨o, k _ _ (.inl rfl) e⟩, st⟩
theorem HOk.lt (x : HOk P w H h) (e : H a = some o) : a < h.objs.size := (x a o e).lt
theorem HOk.fresh (x : HOk P w H h) (e : h.objs.size ≤ a) : H a = none := by
  cases q : H a with
  | none => rfl
  | some u => exact absurd (Nat.lt_of_lt_of_le (x.lt q) e) (Nat.lt_irrefl _)
theorem HOk.kept (x : HOk P w H h) (k : ∀ b u, h.get? b = some u → h'.get? b = some u) : HOk P w H h' := fun a o e =>
  (x a o e).stay (fun b u _ q => k b u q) (fun _ q => q) fun _ _ q => q
theorem HOk.laid (x : HOk P w H h) (k : ∀ b u, h.get? b = some u → h'.get? b = some u) (hp : h.objs.size ≤ a) (new : ObjOk P w (upd H a o) h' a o) : HOk P w (upd H a o) h' := fun b u e => by
  have hn := x.fresh hp
  by_cases hb : b = a
  · subst hb; rw [upd_same] at e; cases e; exact new
  · rw [upd_ne hb] at e
    exact (x b u e).stay (fun c v _ q => k c v q) (fun c q => by rw [upd_ne (ne_of_none q hn)]; exact q) fun c xs q => by rw [upd_ne (ne_of_none q hn)]; exact q
end
def Rd (H : Hp) (a : Addr) (u : HO) : Prop := H a = some u ∨ ∃ o, H a = some (.frz o u)
theorem Rd.of {H : Hp} {a : Addr} {u : HO} (h : H a = some u) : Rd H a u := .inl h
theorem Rd.ok {P : Program} {w : World} {H : Hp} {h : Heap} {a : Addr} {u : HO} (r : Rd H a u) (x : HOk P w H h) : ObjOk P w H h a u := by
  rcases r with r | ⟨o, r⟩
  · exact x a u r
  · obtain ⟨_, q⟩ := x a _ r
    exact q
def Mut : Option HO → Prop
  | some (.lst _) => True
  | some (.dK _) => True
  | some (.dT _) => True
  | some (.set _ _) => True
  | some (.ins _ _ _) => True
  | some (.ext _) => True
  | _ => False
section
variable {P : Program} {w : World} {H : Hp} {h h' : Heap} {x e : Addr} {o' : HO}
theorem HOk.write (ok : HOk P w H h) (mu : Mut (H x)) (he : e = x ∨ H e = some (.own x)) (k : ∀ b u, b ≠ e → h.get? b = some u → h'.get? b = some u) (heo : ∃ u, h'.get? e = some u)
    (new : ObjOk P w (upd H x o') h' x o') : HOk P w (upd H x o') h' := fun b u q => by
  have nown : ∀ c y, H c = some (.own y) → c ≠ x := fun c y r z => by subst z; rw [r] at mu; exact mu
  have ntup : ∀ c xs, H c = some (.tup xs) → c ≠ x := fun c xs r z => by subst z; rw [r] at mu; exact mu
  by_cases hb : b = x
  · subst hb; rw [upd_same] at q; cases q; exact new
  · rw [upd_ne hb] at q
    by_cases hbe : b = e
    · have q' : H b = some (.own x) := by
        rcases he with z | z
        · exact absurd (hbe.trans z) hb
        · rw [hbe]; exact z
      rw [q] at q'; cases q'
      obtain ⟨v, hv⟩ := heo
      exact ⟨v, by rw [hbe]; exact hv⟩
    · refine (ok b u q).stay (fun c v hc r => k c v ?_ r) (fun c r => by rw [upd_ne (nown c b r)]; exact r) fun c xs r => by rw [upd_ne (ntup c xs r)]; exact r
      rcases hc with rfl | hc
      · exact hbe
      · rintro rfl
        rcases he with z | z
        · exact nown c b hc z
        · rw [hc] at z; cases z; exact hb rfl
end
structure Un (fs ex : List Addr) (H H' : Hp) (h h' : Heap) : Prop where
  keep : ∀ b o, h.get? b = some o → H b = none → b ∉ fs → b ∉ ex → h'.get? b = some o
  slot : ∀ b o, h.get? b = some o → H b = none → b ∈ fs → b ∉ ex → ∃ sl, h'.get? b = some { o with slots := sl }
  free : ∀ b o, h.get? b = some o → H b = none → b ∉ ex → H' b = none
  there : ∀ b o, h.get? b = some o → b ∉ ex → ∃ o', h'.get? b = some o'
  tups : ∀ b xs, H b = some (.tup xs) → H' b = some (.tup xs)
  frzs : ∀ b o u, H b = some (.frz o u) → H' b = some (.frz o u)
  tbls : ∀ b ps, H b = some (.tbl ps) → ∃ more, H' b = some (.tbl (ps ++ more))
section
variable {fs fs' ex ex' : List Addr} {H H1 H2 : Hp} {h h1 h2 h' : Heap} {a x e : Addr} {o : HO}
theorem Un.any (u : Un fs ex H H1 h h1) {b : Addr} {ob : Obj} (q : h.get? b = some ob) (n : H b = none) (hx : b ∉ ex) : ∃ sl, h1.get? b = some { ob with slots := sl } := by
  by_cases hb : b ∈ fs
  · exact u.slot b ob q n hb hx
  · exact ⟨ob.slots, u.keep b ob q n hb hx⟩
theorem Un.trans (a : Un fs ex H H1 h h1) (b : Un fs ex H1 H2 h1 h2) : Un fs ex H H2 h h2 where
  keep := fun c ob q n hc hx => b.keep c ob (a.keep c ob q n hc hx) (a.free c ob q n hx) hc hx
  slot := fun c ob q n hc hx => by
    obtain ⟨sl, e1⟩ := a.slot c ob q n hc hx
    obtain ⟨sl', e2⟩ := b.slot c _ e1 (a.free c ob q n hx) hc hx
    exact ⟨sl', e2⟩
  free := fun c ob q n hx => by
    obtain ⟨o', e1⟩ := a.there c ob q hx
    exact b.free c o' e1 (a.free c ob q n hx) hx
  there := fun c ob q hx => by
    obtain ⟨o', e1⟩ := a.there c ob q hx
    exact b.there c o' e1 hx
  tups := fun c xs q => b.tups c xs (a.tups c xs q)
  frzs := fun c ob xs q => b.frzs c ob xs (a.frzs c ob xs q)
  tbls := fun c ps q => by
    obtain ⟨m1, e1⟩ := a.tbls c ps q
    obtain ⟨m2, e2⟩ := b.tbls c _ e1
    exact ⟨m1 ++ m2, by rw [e2, Array.append_assoc]⟩
theorem Un.kept (k : ∀ b u, h.get? b = some u → h'.get? b = some u) : Un fs ex H H h h' :=
  ⟨fun b ob q _ _ _ => k b ob q, fun b ob q _ _ _ => ⟨ob.slots, k b ob q⟩, fun _ _ _ n _ => n, fun b ob q _ => ⟨ob, k b ob q⟩, fun _ _ q => q, fun _ _ _ q => q, fun _ ps q => ⟨#[], by rw [q]; simp⟩⟩
theorem Un.refl : Un fs ex H H h h := Un.kept fun _ _ q => q
theorem Un.laid (k : ∀ b u, h.get? b = some u → h'.get? b = some u) (hp : h.objs.size ≤ a) (hn : H a = none) : Un fs ex H (upd H a o) h h' where
  keep := fun b u q _ _ _ => k b u q
  slot := fun b u q _ _ _ => ⟨u.slots, k b u q⟩
  free := fun b u q n _ => by rw [upd_ne (Nat.ne_of_lt (Nat.lt_of_lt_of_le (Heap.lt_size q) hp))]; exact n
  there := fun b u q _ => ⟨u, k b u q⟩
  tups := fun b xs q => by rw [upd_ne (ne_of_none q hn)]; exact q
  frzs := fun b u xs q => by rw [upd_ne (ne_of_none q hn)]; exact q
  tbls := fun b ps q => ⟨#[], by rw [upd_ne (ne_of_none q hn), q]; simp⟩
theorem Un.write (mu : Mut (H x)) (he : e = x ∨ H e = some (.own x)) (k : ∀ b u, b ≠ e → h.get? b = some u → h'.get? b = some u) (heo : ∃ u, h'.get? e = some u) : Un fs ex H (upd H x o) h h' := by
  have hx : ∀ b, H b = none → b ≠ x := fun b n z => by subst z; rw [n] at mu; exact mu
  have hb : ∀ b, H b = none → b ≠ e := fun b n z => by
    subst z
    rcases he with r | r
    · exact hx b n r
    · rw [n] at r; cases r
  have hm : ∀ b u, H b = some u → ¬ Mut (some u) → b ≠ x := fun b u q nm z => by subst z; rw [q] at mu; exact nm mu
  refine ⟨fun b u q n _ _ => k b u (hb b n) q, fun b u q n _ _ => ⟨u.slots, k b u (hb b n) q⟩, fun b u q n _ => by rw [upd_ne (hx b n)]; exact n, fun b u q _ => ?_,
    fun b xs q => by rw [upd_ne (hm b _ q fun z => z)]; exact q, fun b u xs q => by rw [upd_ne (hm b _ q fun z => z)]; exact q, fun b ps q => ⟨#[], by rw [upd_ne (hm b _ q fun z => z), q]; simp⟩⟩
  by_cases hbe : b = e
  · subst hbe; exact heo
  · exact ⟨u, k b u hbe q⟩
theorem Un.mono (u : Un fs ex H H1 h h1) (hs : ∀ b ∈ fs, b ∈ fs') (hx : ∀ b ∈ ex, b ∈ ex') : Un fs' ex' H H1 h h1 :=
  ⟨fun b ob q n hb he => u.keep b ob q n (fun z => hb (hs b z)) fun z => he (hx b z), fun _ _ q n _ he => u.any q n fun z => he (hx _ z), fun b ob q n he => u.free b ob q n fun z => he (hx b z), fun b ob q he => u.there b ob q fun z => he (hx b z), u.tups, u.frzs, u.tbls⟩
end
def trk (h : Heap) (H : Hp) : List Addr := (List.range h.objs.size).filter fun a => (H a).isSome
def hidT (h : Heap) (H : Hp) : Heap := PySem.W.hideAll h (trk h H)
theorem hidT_size (h : Heap) (H : Hp) : (hidT h H).objs.size = h.objs.size := PySem.W.hideAll_size _ _
theorem hidT_get {h : Heap} {H : Hp} {b : Addr} {o : Obj} (e : h.get? b = some o) (n : H b = none) : (hidT h H).get? b = some o :=
  PySem.W.hideAll_get _ e fun hm => by
    have q : (H b).isSome = true := (List.mem_filter.mp hm).2
    rw [n] at q; simp at q
theorem of_hidT {h : Heap} {H : Hp} {b : Addr} {o : Obj} (e : (hidT h H).get? b = some o) : h.get? b = some o ∧ H b = none := by
  have e' : h.get? b = some o := PySem.W.of_hideAll (trk h H) e
  refine ⟨e', ?_⟩
  cases q : H b with
  | none => rfl
  | some x =>
    have hm : b ∈ trk h H := List.mem_filter.mpr ⟨List.mem_range.mpr (Heap.lt_size e'), by simp [q]⟩
    have z : (hidT h H).get? b = none := PySem.W.hideAll_none (trk h H) hm
    rw [z] at e; cases e
def allNews (g h : Heap) (L : Addr) : List (Addr × Obj) := (List.range h.objs.size).filterMap fun a => if a = L ∨ (g.get? a).isSome = true then none else (h.get? a).map fun o => (a, o)
theorem mem_allNews {g h : Heap} {L a : Addr} {o : Obj} (h1 : a ≠ L) (h2 : g.get? a = none) (h3 : h.get? a = some o) : (a, o) ∈ allNews g h L :=
  List.mem_filterMap.mpr ⟨a, List.mem_range.mpr (Heap.lt_size h3), by simp [h1, h2, h3]⟩
theorem of_mem_allNews {g h : Heap} {L : Addr} {p : Addr × Obj} (hp : p ∈ allNews g h L) : p.1 ≠ L ∧ g.get? p.1 = none ∧ h.get? p.1 = some p.2 := by
  obtain ⟨b, _, e⟩ := List.mem_filterMap.mp hp
  split at e
  · cases e
  · rename_i hn
    cases q : h.get? b with
    | none => rw [q] at e; simp at e
    | some u =>
      rw [q] at e
      simp only [Option.map_some, Option.some.injEq] at e
      subst e
      refine ⟨fun z => hn (.inl z), ?_, q⟩
      show g.get? b = none
      cases r : g.get? b with
      | none => rfl
      | some v => exact (hn (.inr (by simp [r]))).elim
def rest (g h : Heap) (L d : Addr) : List (Addr × Obj) := (allNews g h L).filter fun p => decide (p.1 ≠ d)
theorem news_all {g h : Heap} {L : Addr} : News g L h (allNews g h L) := fun p hp => let ⟨a, b, c⟩ := of_mem_allNews hp; ⟨c, a, b⟩
end L2
namespace L2
open PySem PySem.Spec PyProof.Rows
structure Mod (K : PySem.W.Frag) (mg : Str → Option Value) (base : Heap) : Prop where
  kin : K.In base
  glob : base.Ns mainGlobals mg
  blt : ∃ mb, base.Ns builtinsNs mb ∧ ∀ x : Str, x ≠ "__name__" → mb x = bootBuiltins x
  nolimit : base.NoLimit
structure Cx where
  prog : Program
  w : World
  K : PySem.W.Frag
  mg : Str → Option Value
  base : Heap
  A : Around
  N : List Str
  s₀ : Shared
  H₀ : Hp
  env : Env
  outer : List Env
  stack : List Env
  ex : List Addr
  fn : Str → Bool
  calm : Bool
  pn : List (Addr × Obj)
  xe : Value → Shared → Prop
def frs (l : List Env) : List Addr := l.filterMap (·.frame)
abbrev Cx.fs (X : Cx) : List Addr := frs X.outer
def Vis (sc : Scope) (x : Str) : Prop := sc.names.lookup x = some .local ∨ sc.names.lookup x = some .cell ∨ sc.names.lookup x = some .free
def Loc (sc : Scope) (x : Str) : Prop := sc.names.lookup x = some .local ∨ sc.names.lookup x = some .cell
def Look (env : Env) (h : Heap) (m : Str → Option Value) (x : Str) (u : Value) : Prop :=
  (env.kindOf x = some .local ∧ m x = some u) ∨ ((env.kindOf x = some .cell ∨ env.kindOf x = some .free) ∧ ∃ c, env.cells.lookup x = some c ∧ h.IsCell c (some u))
structure Cx.Ok (X : Cx) : Prop where
  mod : Mod X.K X.mg X.base
  kind : X.env.scope.kind = .function
  glob : X.env.globals = mainGlobals
  blt : X.env.builtins = builtinsNs
  above : X.s₀.heap.objs.size ≤ X.env.locals
  inj : ∀ x y c, X.env.cells.lookup x = some c → X.env.cells.lookup y = some c → x = y
  has : ∀ x, (X.env.kindOf x = some .cell ∨ X.env.kindOf x = some .free) → ∃ c, X.env.cells.lookup x = some c
  cab : ∀ x c, X.fn x = true → X.env.cells.lookup x = some c → X.s₀.heap.objs.size ≤ c
  hd : X.calm = true → X.A.handled = none
  frames : X.A.frames = some X.stack
  stk : X.stack = X.outer ∨ (X.stack = X.env :: X.outer ∧ X.env.frame = some X.env.locals)
  exf : ∀ b ∈ X.ex, b ≠ X.env.locals ∧ ∀ x c, X.env.cells.lookup x = some c → c ≠ b
  bs : ∀ b o, X.base.get? b = some o → X.s₀.heap.get? b = some o ∧ X.H₀ b = none
  bsz : X.base.objs.size ≤ X.s₀.heap.objs.size
  noex : ∀ b o, X.base.get? b = some o → b ∉ X.ex
  exfs : ∀ b ∈ X.ex, b ∉ X.fs
  funs : X.s₀.heap.FunFrames X.base X.outer
  frf : ∀ b ∈ X.fs, X.H₀ b = none
structure Inv (X : Cx) (pins : List (Addr × Obj)) (σ : List (Option V)) (H : Hp) (s : Shared) : Prop where
  ok : X.Ok
  os : s.os = X.s₀.os
  bare : AllBare s.gens
  base : Un X.fs X.ex X.H₀ H X.s₀.heap s.heap
  loc : ∃ m, s.heap.Ns X.env.locals m ∧ ∀ (i : Nat) (x : Str) (v : V), X.N[i]? = some x → σ[i]? = some (some v) → Vis X.env.scope x → ∃ u, RelV v u ∧ Look X.env s.heap m x u
  cell : ∀ x c, X.env.cells.lookup x = some c → ∃ v, s.heap.IsCell c v
  free : H X.env.locals = none
  freeC : ∀ x c, X.env.cells.lookup x = some c → H c = none
  pin : ∀ p ∈ X.pn ++ pins, s.heap.get? p.1 = some p.2 ∧ H p.1 = none ∧ p.1 ≠ X.env.locals ∧ p.1 ∉ X.fs ∧ ∀ v, p.2.data ≠ .cell v
  hok : HOk X.prog X.w H s.heap
  len : σ.length = X.N.length
section
variable {X : Cx} {pins : List (Addr × Obj)} {σ : List (Option V)} {H H' : Hp} {s : Shared} {h' : Heap}
theorem Cx.Ok.nofr (ok : X.Ok) {b : Addr} {o : Obj} (e : X.base.get? b = some o) : b ∉ X.fs := fun hb => by
  have := (ok.funs.mem hb).1
  rw [e] at this; cases this
theorem Inv.bs (I : Inv X pins σ H s) : ∀ b o, X.base.get? b = some o → s.heap.get? b = some o ∧ H b = none := fun b o e =>
  ⟨I.base.keep b o (I.ok.bs b o e).1 (I.ok.bs b o e).2 (I.ok.nofr e) (I.ok.noex b o e), I.base.free b o (I.ok.bs b o e).1 (I.ok.bs b o e).2 (I.ok.noex b o e)⟩
theorem Inv.bk (I : Inv X pins σ H s) : ∀ b o, X.base.get? b = some o → s.heap.get? b = some o := fun b o e => (I.bs b o e).1
theorem Inv.mod (I : Inv X pins σ H s) : Mod X.K X.mg X.base := I.ok.mod
theorem Inv.kIn (I : Inv X pins σ H s) : X.K.In s.heap := I.ok.mod.kin.keeps I.bk
theorem Inv.nolimit (I : Inv X pins σ H s) : s.heap.NoLimit := I.ok.mod.nolimit.keeps I.bk
theorem Inv.fr (I : Inv X pins σ H s) : ∃ m, Fr X.base X.env.locals s.heap m :=
  let ⟨m, hn, _⟩ := I.loc
  ⟨m, hn, I.bk, Nat.le_trans I.ok.bsz I.ok.above⟩
theorem Inv.lt (I : Inv X pins σ H s) : X.env.locals < s.heap.objs.size := let ⟨_, hn, _⟩ := I.loc; hn.lt
theorem Inv.sz (I : Inv X pins σ H s) : X.s₀.heap.objs.size ≤ s.heap.objs.size := Nat.le_trans I.ok.above (Nat.le_of_lt I.lt)
theorem Inv.nofs (I : Inv X pins σ H s) {a : Addr} (h : s.heap.objs.size ≤ a) : a ∉ X.fs := fun hb => by
  obtain ⟨_, o, ho, _⟩ := I.ok.funs.mem hb
  exact absurd (Nat.lt_of_lt_of_le (Heap.lt_size ho) (Nat.le_trans I.sz h)) (Nat.lt_irrefl _)
theorem Inv.cne (I : Inv X pins σ H s) : ∀ x c, X.env.cells.lookup x = some c → c ≠ X.env.locals := fun x c e z => by
  obtain ⟨v, o, ho, hd⟩ := I.cell x c e
  obtain ⟨m, ⟨o', es, ep, ho', hd', _⟩, _⟩ := I.loc
  rw [z, ho'] at ho; cases ho; rw [hd'] at hd; cases hd
theorem Inv.funs (I : Inv X pins σ H s) : s.heap.FunFrames X.base X.outer := by
  have all : ∀ (l : List Env), (∀ b ∈ frs l, b ∈ X.fs) → X.s₀.heap.FunFrames X.base l → s.heap.FunFrames X.base l := by
    intro l
    induction l with
    | nil => intro _ _; trivial
    | cons env r ih =>
      intro hs hl
      obtain ⟨hk, ⟨L, o, hf, hn, ho, hd⟩, hr⟩ := hl
      have hL : L ∈ X.fs := hs L (by unfold frs; rw [List.filterMap_cons, hf]; exact List.mem_cons_self)
      obtain ⟨sl, e⟩ := I.base.slot L o ho (I.ok.frf L hL) hL fun z => I.ok.exfs L z hL
      exact ⟨hk, ⟨L, _, hf, hn, e, hd⟩, ih (fun b hb => hs b (by unfold frs; rw [List.filterMap_cons, hf]; exact List.mem_cons_of_mem _ hb)) hr⟩
  exact all X.outer (fun _ hb => hb) I.ok.funs
theorem Inv.stack (I : Inv X pins σ H s) : s.heap.FunFrames X.base X.stack := by
  rcases I.ok.stk with e | ⟨e, hf⟩
  · rw [e]; exact I.funs
  · rw [e]
    obtain ⟨m, hn, _⟩ := I.loc
    refine .cons (by rw [I.ok.kind]; decide) hf hn ?_ I.funs
    exact Heap.get?_none_of_le (Nat.le_trans I.ok.bsz I.ok.above)
theorem Inv.stkSub (I : Inv X pins σ H s) : ∀ b ∈ frs X.stack, b ∈ X.env.locals :: X.fs := fun b hb => by
  rcases I.ok.stk with e | ⟨e, hf⟩
  · rw [e] at hb; exact List.mem_cons_of_mem _ hb
  · rw [e] at hb
    unfold frs at hb
    rw [List.filterMap_cons, hf] at hb
    exact hb
theorem Inv.stkFree (I : Inv X pins σ H s) : ∀ b ∈ frs X.stack, H b = none := fun b hb => by
  rcases List.mem_cons.mp (I.stkSub b hb) with e | hb
  · rw [e]; exact I.free
  · obtain ⟨_, o, ho, _⟩ := I.ok.funs.mem hb
    exact I.base.free b o ho (I.ok.frf b hb) fun z => I.ok.exfs b z hb
theorem Inv.step {g' : Array GenState} {t' : Nat} {d' : Drawn} {ch : List Addr} (I : Inv X pins σ H s)
    (hch : ∀ b ∈ ch, (b ∈ X.ex ∨ X.s₀.heap.objs.size ≤ b) ∧ b ≠ X.env.locals ∧ (∀ x c, X.env.cells.lookup x = some c → c ≠ b) ∧ ∀ p ∈ X.pn ++ pins, p.1 ≠ b)
    (keep : ∀ b o, b ≠ X.env.locals → b ∉ X.fs → b ∉ ch → s.heap.get? b = some o → H b = none → h'.get? b = some o)
    (slot : ∀ b o, b ≠ X.env.locals → b ∈ X.fs → b ∉ ch → s.heap.get? b = some o → H b = none → ∃ sl, h'.get? b = some { o with slots := sl }) (free : ∀ b o, b ∉ ch → s.heap.get? b = some o → H b = none → H' b = none)
    (there : ∀ b o, b ∉ ch → s.heap.get? b = some o → ∃ o', h'.get? b = some o')
    (tups : ∀ b xs, H b = some (.tup xs) → H' b = some (.tup xs)) (frzs : ∀ b o u, H b = some (.frz o u) → H' b = some (.frz o u)) (tbls : ∀ b ps, H b = some (.tbl ps) → ∃ more, H' b = some (.tbl (ps ++ more)))
    (ns : ∀ m, s.heap.Ns X.env.locals m → h'.Ns X.env.locals m) (hok : HOk X.prog X.w H' h') (hg : AllBare g') :
    Inv X pins σ H' { s with heap := h', gens := g', drawn := d', toks := t' } := by
  have neL : ∀ b o, X.s₀.heap.get? b = some o → b ≠ X.env.locals := fun b o e => Nat.ne_of_lt (Nat.lt_of_lt_of_le (Heap.lt_size e) I.ok.above)
  have neC : ∀ b o, X.s₀.heap.get? b = some o → b ∉ X.ex → b ∉ ch := fun b o e hx hb => by
    rcases (hch b hb).1 with z | z
    · exact hx z
    · exact absurd (Nat.lt_of_lt_of_le (Heap.lt_size e) z) (Nat.lt_irrefl _)
  have cellK : ∀ x c, X.env.cells.lookup x = some c → ∀ v, s.heap.IsCell c v → h'.IsCell c v := fun x c e v ⟨o, ho, hd⟩ => by
    have nch : c ∉ ch := fun z => (hch c z).2.2.1 x c e rfl
    by_cases hc : c ∈ X.fs
    · obtain ⟨sl, q⟩ := slot c o (I.cne x c e) hc nch ho (I.freeC x c e)
      exact ⟨_, q, hd⟩
    · exact ⟨o, keep c o (I.cne x c e) hc nch ho (I.freeC x c e), hd⟩
  refine ⟨I.ok, I.os, hg, ⟨fun b o e n hb hx => ?_, fun b o e n hb hx => ?_, fun b o e n hx => ?_, fun b o e hx => ?_, fun b xs e => tups b xs (I.base.tups b xs e), fun b o xs e => frzs b o xs (I.base.frzs b o xs e), fun b ps e => ?_⟩, ?_, fun x c e => ?_, ?_, fun x c e => ?_, fun p hp => ?_, hok, I.len⟩
  · exact keep b o (neL b o e) hb (neC b o e hx) (I.base.keep b o e n hb hx) (I.base.free b o e n hx)
  · obtain ⟨sl, e1⟩ := I.base.slot b o e n hb hx
    obtain ⟨sl', e2⟩ := slot b _ (neL b o e) hb (neC b o e hx) e1 (I.base.free b o e n hx)
    exact ⟨sl', e2⟩
  · obtain ⟨o', e1⟩ := I.base.there b o e hx
    exact free b o' (neC b o e hx) e1 (I.base.free b o e n hx)
  · obtain ⟨o', e1⟩ := I.base.there b o e hx
    exact there b o' (neC b o e hx) e1
  · obtain ⟨m1, e1⟩ := I.base.tbls b ps e
    obtain ⟨m2, e2⟩ := tbls b _ e1
    exact ⟨m1 ++ m2, by rw [e2, Array.append_assoc]⟩
  · obtain ⟨m, hn, hl⟩ := I.loc
    refine ⟨m, ns m hn, fun i x v e1 e2 e3 => ?_⟩
    obtain ⟨u, r, l⟩ := hl i x v e1 e2 e3
    refine ⟨u, r, ?_⟩
    rcases l with l | ⟨k, c, e, z⟩
    · exact .inl l
    · exact .inr ⟨k, c, e, cellK x c e _ z⟩
  · obtain ⟨v, z⟩ := I.cell x c e
    exact ⟨v, cellK x c e v z⟩
  · obtain ⟨m, ⟨o, _, _, ho, _⟩, _⟩ := I.loc
    exact free _ o (fun z => (hch _ z).2.1 rfl) ho I.free
  · obtain ⟨v, o, ho, hd⟩ := I.cell x c e
    exact free c o (fun z => (hch c z).2.2.1 x c e rfl) ho (I.freeC x c e)
  · obtain ⟨e, n, ne, nf, d⟩ := I.pin p hp
    have nch : p.1 ∉ ch := fun z => (hch p.1 z).2.2.2 p hp rfl
    exact ⟨keep p.1 p.2 ne nf nch e n, free p.1 p.2 nch e n, ne, nf, d⟩
theorem Inv.un {t' : Nat} (I : Inv X pins σ H s) (u : Un X.fs [] H H' s.heap h') (hok : HOk X.prog X.w H' h') : Inv X pins σ H' { s with heap := h', toks := t' } := by
  obtain ⟨m, ⟨o, es, ep, ho, r⟩, _⟩ := id I.loc
  obtain ⟨sl, hL⟩ := u.any ho I.free (by simp)
  exact I.step (g' := s.gens) (d' := s.drawn) (ch := []) (fun _ z => nomatch z) (fun b o _ hb _ e n => u.keep b o e n hb (by simp)) (fun b o _ hb _ e n => u.slot b o e n hb (by simp)) (fun b o _ e n => u.free b o e n (by simp)) (fun b o _ e => u.there b o e (by simp)) u.tups u.frzs u.tbls (fun m' hm => by
    obtain ⟨o', es', ep', ho', r'⟩ := hm
    rw [ho] at ho'; cases ho'
    exact ⟨_, es', ep', hL, r'⟩) hok I.bare
theorem Inv.call {g' : Array GenState} {t' : Nat} {d' : Drawn} {ch : List Addr} (I : Inv X pins σ H s) (u : Un (frs X.stack) ch H H' s.heap h') (hok : HOk X.prog X.w H' h') (hg : AllBare g')
    (hch : ∀ b ∈ ch, (b ∈ X.ex ∨ X.s₀.heap.objs.size ≤ b) ∧ b ≠ X.env.locals ∧ (∀ x c, X.env.cells.lookup x = some c → c ≠ b) ∧ ∀ p ∈ X.pn ++ pins, p.1 ≠ b) :
    Inv X pins σ H' { s with heap := h', gens := g', drawn := d', toks := t' } := by
  obtain ⟨m, ⟨o, es, ep, ho, r⟩, _⟩ := id I.loc
  obtain ⟨sl, hL⟩ := u.any ho I.free fun z => (hch _ z).2.1 rfl
  exact I.step (ch := ch) hch (fun b o hL hb hc e n => u.keep b o e n (fun z => (List.mem_cons.mp (I.stkSub b z)).elim hL hb) hc) (fun b o _ _ hc e n => u.any e n hc) (fun b o hc e n => u.free b o e n hc) (fun b o hc e => u.there b o e hc) u.tups u.frzs u.tbls (fun m' hm => by
    obtain ⟨o', es', ep', ho', r'⟩ := hm
    rw [ho] at ho'; cases ho'
    exact ⟨_, es', ep', hL, r'⟩) hok hg
theorem Inv.turned {t' : Nat} {it : Addr} (I : Inv X pins σ H s) (k : ∀ b o, b ≠ it → s.heap.get? b = some o → h'.get? b = some o) (hn : H it = none) (hL : it ≠ X.env.locals)
    (h1 : it ∈ X.ex ∨ X.s₀.heap.objs.size ≤ it) (h2 : ∀ x c, X.env.cells.lookup x = some c → c ≠ it) (h3 : ∀ p ∈ X.pn ++ pins, p.1 ≠ it) : Inv X pins σ H { s with heap := h', toks := t' } := by
  have nit : ∀ b u, H b = some u → b ≠ it := fun b u e z => by rw [z, hn] at e; cases e
  refine I.step (g' := s.gens) (d' := s.drawn) (ch := [it]) (fun b hb => ?_) (fun b o _ _ hc e _ => k b o (fun z => hc (by simp [z])) e) (fun b o _ _ hc e _ => ⟨o.slots, k b o (fun z => hc (by simp [z])) e⟩) (fun _ _ _ _ n => n)
    (fun b o hc e => ⟨o, k b o (fun z => hc (by simp [z])) e⟩) (fun _ _ e => e) (fun _ _ _ e => e) (fun b ps e => ⟨#[], by rw [e]; simp⟩) (fun m hm => ?_) (fun b u e => ?_) I.bare
  · have e : b = it := by simpa using hb
    subst e
    exact ⟨h1, hL, h2, h3⟩
  · obtain ⟨o, es, ep, ho, r⟩ := hm
    exact ⟨o, es, ep, k _ o (Ne.symm hL) ho, r⟩
  · refine (I.hok b u e).stay (fun c v hc q => k c v ?_ q) (fun _ q => q) fun _ _ q => q
    rcases hc with z | z
    · rw [z]; exact nit b u e
    · exact nit c _ z
theorem Inv.tok (I : Inv X pins σ H s) (t : Nat) : Inv X pins σ H { s with toks := t } := I.un (h' := s.heap) (t' := t) Un.refl I.hok
theorem Inv.kept {t' : Nat} (I : Inv X pins σ H s) (k : ∀ b u, s.heap.get? b = some u → h'.get? b = some u) : Inv X pins σ H { s with heap := h', toks := t' } := I.un (Un.kept k) (I.hok.kept k)
theorem Inv.laid {a : Addr} {o : HO} {t' : Nat} (I : Inv X pins σ H s) (k : ∀ b u, s.heap.get? b = some u → h'.get? b = some u) (hp : s.heap.objs.size ≤ a) (new : ObjOk X.prog X.w (upd H a o) h' a o) :
    Inv X pins σ (upd H a o) { s with heap := h', toks := t' } := I.un (Un.laid k hp (I.hok.fresh hp)) (I.hok.laid k hp new)
theorem Inv.write {x e : Addr} {o : HO} {t' : Nat} (I : Inv X pins σ H s) (mu : Mut (H x)) (he : e = x ∨ H e = some (.own x)) (k : ∀ b u, b ≠ e → s.heap.get? b = some u → h'.get? b = some u) (heo : ∃ u, h'.get? e = some u)
    (new : ObjOk X.prog X.w (upd H x o) h' x o) : Inv X pins σ (upd H x o) { s with heap := h', toks := t' } := I.un (Un.write mu he k heo) (I.hok.write mu he k heo new)
theorem Inv.pins_of {pins' : List (Addr × Obj)} (I : Inv X pins σ H s) (h : ∀ p ∈ pins', s.heap.get? p.1 = some p.2 ∧ H p.1 = none ∧ p.1 ≠ X.env.locals ∧ p.1 ∉ X.fs ∧ ∀ v, p.2.data ≠ .cell v) : Inv X pins' σ H s :=
  ⟨I.ok, I.os, I.bare, I.base, I.loc, I.cell, I.free, I.freeC, fun p hp => (List.mem_append.mp hp).elim (fun z => I.pin p (List.mem_append_left _ z)) (h p), I.hok, I.len⟩
theorem nodup_ix {N : List Str} (hN : N.Nodup) {i j : Nat} {x : Str} (a : N[i]? = some x) (b : N[j]? = some x) : i = j := by
  obtain ⟨h1, e1⟩ := List.getElem?_eq_some_iff.mp a
  obtain ⟨h2, e2⟩ := List.getElem?_eq_some_iff.mp b
  exact (List.getElem_inj hN).mp (e1.trans e2.symm)
theorem store_ok2 {M : Model} {A : Around} {E : Value → Shared → Prop} {i : Nat} {x : Str} {v : V} {u : Value} {Q : Unit → Shared → Prop} (I : Inv X pins σ H s) (hN : X.N.Nodup) (hi : X.N[i]? = some x) (hx : Loc X.env.scope x) (r : RelV v u)
    (h : ∀ s', Inv X pins (σ.set i (some v)) H s' → (∃ a, Heap.SameBut a s.heap s'.heap ∧ (a = X.env.locals ∨ X.env.cells.lookup x = some a)) → Q () s') (hf : X.fn x = true ∨ X.env.scope.names.lookup x = some .local := by first | exact .inl rfl | exact .inr rfl | assumption) : wpAny M A (storeName X.env x u) Q E s := by
  obtain ⟨m, hn, hl⟩ := id I.loc
  have hcls : (X.env.scope.kind == .class || (X.env.scope.kind == .module && X.env.locals != X.env.globals)) = false := by rw [I.ok.kind]; rfl
  have hiσ : i < σ.length := by rw [I.len]; exact (List.getElem?_eq_some_iff.mp hi).1
  have cne := I.cne
  have tracked : ∀ {a : Addr} {h' : Heap}, (∃ o, s.heap.get? a = some o ∧ H a = none) → Heap.SameBut a s.heap h' → HOk X.prog X.w H h' := fun {a h'} ha hs b ob e => by
    obtain ⟨_, _, hfree⟩ := ha
    refine (I.hok b ob e).stay (fun c w' hc q => (hs.2 c ?_).trans q) (fun _ q => q) fun _ _ q => q
    rintro rfl
    rcases hc with rfl | hc
    · rw [hfree] at e; cases e
    · rw [hfree] at hc; cases hc
  rcases hx with hk | hk
  · refine wpAny_storeName_local hk hn (fun h' hn' hs => ?_) hcls
    obtain ⟨oL, _, _, hoL, _⟩ := id hn
    refine h _ ⟨I.ok, I.os, I.bare, ⟨fun b o e n hb hx => ?_, fun b o e n hb hx => ?_, I.base.free, fun b o e hx => ?_, I.base.tups, I.base.frzs, I.base.tbls⟩, ⟨_, hn', fun j y v' e1 e2 e3 => ?_⟩, fun y c e => ?_, I.free, I.freeC, fun p hp => ?_, tracked ⟨oL, hoL, I.free⟩ hs, by simpa using I.len⟩ ⟨_, hs, .inl rfl⟩
    · exact (hs.2 b (Nat.ne_of_lt (Nat.lt_of_lt_of_le (Heap.lt_size e) I.ok.above))).trans (I.base.keep b o e n hb hx)
    · obtain ⟨sl, e1⟩ := I.base.slot b o e n hb hx
      exact ⟨sl, (hs.2 b (Nat.ne_of_lt (Nat.lt_of_lt_of_le (Heap.lt_size e) I.ok.above))).trans e1⟩
    · obtain ⟨o', e1⟩ := I.base.there b o e hx
      exact ⟨o', (hs.2 b (Nat.ne_of_lt (Nat.lt_of_lt_of_le (Heap.lt_size e) I.ok.above))).trans e1⟩
    · by_cases hj : j = i
      · subst hj
        rw [hi] at e1; cases e1
        rw [List.getElem?_set_self hiσ] at e2
        cases e2
        exact ⟨u, r, .inl ⟨hk, by simp⟩⟩
      · rw [List.getElem?_set_ne (Ne.symm hj)] at e2
        obtain ⟨u', r', q⟩ := hl j y v' e1 e2 e3
        refine ⟨u', r', ?_⟩
        rcases q with ⟨k, e⟩ | ⟨k, c, e, z⟩
        · refine .inl ⟨k, ?_⟩
          have : y ≠ x := fun e => hj (nodup_ix hN e1 (e ▸ hi))
          simp [this, e]
        · exact .inr ⟨k, c, e, z.sameBut hs (cne y c e)⟩
    · obtain ⟨w', z⟩ := I.cell y c e
      exact ⟨w', z.sameBut hs (cne y c e)⟩
    · obtain ⟨e, n, ne, nf, d⟩ := I.pin p hp
      exact ⟨(hs.2 p.1 ne).trans e, n, ne, nf, d⟩
  · have hfn : X.fn x = true := by
      rcases hf with z | z
      · exact z
      · rw [z] at hk; cases hk
    obtain ⟨c, hc⟩ := I.ok.has x (.inl hk)
    obtain ⟨w', z⟩ := I.cell x c hc
    refine wpAny_storeName_cell I.ok.kind hk hc z (fun h' hc' hs => ?_)
    obtain ⟨oc, hoc, hocd⟩ := id z
    refine h { s with heap := h' } ⟨I.ok, I.os, I.bare, ⟨fun b o e n hb hx => ?_, fun b o e n hb hx => ?_, I.base.free, fun b o e hx => ?_, I.base.tups, I.base.frzs, I.base.tbls⟩, ⟨m, hn.sameBut hs (Ne.symm (cne x c hc)), fun j y v' e1 e2 e3 => ?_⟩, fun y c' e => ?_, I.free, I.freeC, fun p hp => ?_, tracked ⟨oc, hoc, I.freeC x c hc⟩ hs, by simpa using I.len⟩ ⟨c, hs, .inr hc⟩
    · exact (hs.2 b (Nat.ne_of_lt (Nat.lt_of_lt_of_le (Heap.lt_size e) (I.ok.cab x c hfn hc)))).trans (I.base.keep b o e n hb hx)
    · obtain ⟨sl, e1⟩ := I.base.slot b o e n hb hx
      exact ⟨sl, (hs.2 b (Nat.ne_of_lt (Nat.lt_of_lt_of_le (Heap.lt_size e) (I.ok.cab x c hfn hc)))).trans e1⟩
    · obtain ⟨o', e1⟩ := I.base.there b o e hx
      exact ⟨o', (hs.2 b (Nat.ne_of_lt (Nat.lt_of_lt_of_le (Heap.lt_size e) (I.ok.cab x c hfn hc)))).trans e1⟩
    · by_cases hj : j = i
      · subst hj
        rw [hi] at e1; cases e1
        rw [List.getElem?_set_self hiσ] at e2
        cases e2
        exact ⟨u, r, .inr ⟨.inl hk, c, hc, hc'⟩⟩
      · rw [List.getElem?_set_ne (Ne.symm hj)] at e2
        obtain ⟨u', r', q⟩ := hl j y v' e1 e2 e3
        refine ⟨u', r', ?_⟩
        rcases q with q | ⟨k, c', e, z'⟩
        · exact .inl q
        · refine .inr ⟨k, c', e, z'.sameBut hs ?_⟩
          rintro rfl
          exact hj (nodup_ix hN e1 (I.ok.inj _ _ _ e hc ▸ hi))
    · by_cases hcc : c' = c
      · subst hcc; exact ⟨_, hc'⟩
      · obtain ⟨w2, z2⟩ := I.cell y c' e
        exact ⟨w2, z2.sameBut hs hcc⟩
    · obtain ⟨e, n, ne, nf, d⟩ := I.pin p hp
      refine ⟨(hs.2 p.1 ?_).trans e, n, ne, nf, d⟩
      intro q
      rw [q, hoc] at e
      have q' : oc = p.2 := Option.some.inj e
      exact d w' (by rw [← q']; exact hocd)
theorem store_ok {M : Model} {A : Around} {E : Value → Shared → Prop} {i : Nat} {x : Str} {v : V} {u : Value} {Q : Unit → Shared → Prop} (I : Inv X pins σ H s) (hN : X.N.Nodup) (hi : X.N[i]? = some x) (hx : Loc X.env.scope x) (r : RelV v u)
    (h : ∀ s', Inv X pins (σ.set i (some v)) H s' → Q () s') (hf : X.fn x = true ∨ X.env.scope.names.lookup x = some .local := by first | exact .inl rfl | exact .inr rfl | assumption) : wpAny M A (storeName X.env x u) Q E s :=
  store_ok2 I hN hi hx r (fun s' I' _ => h s' I') hf
theorem Inv.call' {s' : Shared} {ch : List Addr} (I : Inv X pins σ H s) (ho : s'.os = s.os) (u : Un (frs X.stack) ch H H' s.heap s'.heap) (hok : HOk X.prog X.w H' s'.heap) (hg : AllBare s'.gens)
    (hch : ∀ b ∈ ch, (b ∈ X.ex ∨ X.s₀.heap.objs.size ≤ b) ∧ b ≠ X.env.locals ∧ (∀ x c, X.env.cells.lookup x = some c → c ≠ b) ∧ ∀ p ∈ X.pn ++ pins, p.1 ≠ b) : Inv X pins σ H' s' := by
  obtain ⟨h', g', d', t', o'⟩ := s'
  have e : o' = s.os := ho
  subst e
  exact I.call (g' := g') (t' := t') (d' := d') u hok hg hch
end
abbrev XK := Value → Option Addr → Hp → Prop
abbrev St := List (Option V)
abbrev VK := V → Hp → Prop
abbrev TE := St → Hp → VK → Prop
abbrev TT := St → Hp → (Bool → Hp → Prop) → Prop
abbrev TA := St → Hp → (List V → Hp → Prop) → Prop
structure Ends where
  nx : St → Hp → Prop
  rt : VK
  bk : St → Hp → Prop := fun _ _ => False
  ct : St → Hp → Prop := fun _ _ => False
abbrev TS := Ends → St → Hp → Prop
def EP (X : Cx) (pins : List (Addr × Obj)) (σ : St) (Q : VK) (u : Value) (s' : Shared) : Prop := ∃ v H', Inv X pins σ H' s' ∧ RelV v u ∧ Q v H'
def TP (X : Cx) (pins : List (Addr × Obj)) (σ : St) (Q : Bool → Hp → Prop) (b : Bool) (s' : Shared) : Prop := ∃ H', Inv X pins σ H' s' ∧ Q b H'
def AP (X : Cx) (pins : List (Addr × Obj)) (σ : St) (Q : List V → Hp → Prop) (us : List Value) (s' : Shared) : Prop := ∃ vs H', Inv X pins σ H' s' ∧ Vals vs us ∧ Q vs H'
def SP (X : Cx) (pins : List (Addr × Obj)) (D : Ends) (f : Flow) (s' : Shared) : Prop :=
  match f with
  | .next => ∃ σ' H', Inv X pins σ' H' s' ∧ D.nx σ' H'
  | .brk => ∃ σ' H', Inv X pins σ' H' s' ∧ D.bk σ' H'
  | .cont => ∃ σ' H', Inv X pins σ' H' s' ∧ D.ct σ' H'
  | .ret u => ∃ v σ' H', Inv X pins σ' H' s' ∧ RelV v u ∧ D.rt v H'
def PE (X : Cx) (e : Expr) (t : TE) : Prop :=
  ∀ (pins : List (Addr × Obj)) (s : Shared) (σ : St) (H : Hp) (Q : VK), Inv X pins σ H s → t σ H Q → wpAny (model X.prog X.w) X.A (eval e X.env) (EP X pins σ Q) X.xe s
def PT (X : Cx) (e : Expr) (t : TT) : Prop :=
  ∀ (pins : List (Addr × Obj)) (s : Shared) (σ : St) (H : Hp) (Q : Bool → Hp → Prop), Inv X pins σ H s → t σ H Q → wpAny (model X.prog X.w) X.A (isTrue e X.env (eval e X.env)) (TP X pins σ Q) X.xe s
def PW (X : Cx) (e : Expr) (t : TT) : Prop :=
  ∀ (whole : Sem Value) (pins : List (Addr × Obj)) (s : Shared) (σ : St) (H : Hp) (Q : Bool → Hp → Prop), Inv X pins σ H s → t σ H Q → wpAny (model X.prog X.w) X.A (isTrue e X.env whole) (TP X pins σ Q) X.xe s
theorem PW.pt {X : Cx} {e : Expr} {t : TT} (h : PW X e t) : PT X e t := h _
def PA (X : Cx) (es : List Expr) (t : TA) : Prop :=
  ∀ (pos : Pos) (pins : List (Addr × Obj)) (s : Shared) (σ : St) (H : Hp) (Q : List V → Hp → Prop), Inv X pins σ H s → t σ H Q → wpAny (model X.prog X.w) X.A (spliced (backTo pos (starEach es X.env))) (AP X pins σ Q) X.xe s
def PS (X : Cx) (st : Stmt) (t : TS) : Prop :=
  ∀ (pins : List (Addr × Obj)) (s : Shared) (σ : St) (H : Hp) (D : Ends), Inv X pins σ H s → t D σ H → wpAny (model X.prog X.w) X.A (exec st X.env) (SP X pins D) X.xe s
def PSs (X : Cx) (st : List Stmt) (t : TS) : Prop :=
  ∀ (pins : List (Addr × Obj)) (s : Shared) (σ : St) (H : Hp) (D : Ends), Inv X pins σ H s → t D σ H → wpAny (model X.prog X.w) X.A (execs st X.env) (SP X pins D) X.xe s
theorem thn {α : Type} {t : Sem α} {Q Q' : α → Shared → Prop} {M : Model} {A : Around} {E : Value → Shared → Prop} {s : Shared} (h : wpAny M A t Q E s) (hQ : ∀ a s, Q a s → Q' a s) : wpAny M A t Q' E s := wpAny_mono h hQ fun _ _ x => x
end L2
namespace L2
open PySem PySem.Spec PyProof.Rows
section
variable {X : Cx}
def tVar (i : Nat) : TE := fun σ H Q => ∃ v, σ[i]? = some (some v) ∧ Q v H
def tC (v : V) : TE := fun _ H Q => Q v H
theorem pe_var {i : Nat} {x : Str} {pos : Pos} (hN : X.N[i]? = some x) (hv : Vis X.env.scope x) (hd : (x == ("__debug__" : Str)) = false := by decide) (hcd : (x == ("__classdict__" : Str)) = false := by decide) : PE X (.Name x pos) (tVar i) := by
  intro pins s σ H Q I h
  obtain ⟨v, e, h⟩ := h
  obtain ⟨m, hn, hl⟩ := I.loc
  obtain ⟨u, r, l⟩ := hl i x v hN e hv
  have fin : EP X pins σ Q u s := ⟨v, H, I, r, h⟩
  rcases l with ⟨hk, hm⟩ | ⟨hk, c, hc, hcell⟩
  · exact wpAny_Name (wpAny_loadName_local I.ok.kind hk hn hm fin) hd
  · rcases hk with hk | hk
    · exact wpAny_Name (wpAny_loadName_cell I.ok.kind hk hc hcell fin) hd
    · exact wpAny_Name (wpAny_loadName_free I.ok.kind hk hc hcell fin hcd) hd
theorem pe_int {i j pos} : PE X (.Constant (.int i) j pos) (tC (.int i)) := fun _ _ _ H _ I h => wpAny_Constant_int ⟨.int i, H, I.tok _, ⟨_, rfl⟩, h⟩
theorem pe_bl {b j pos} : PE X (.Constant (.bool b) j pos) (tC (.bl b)) := fun _ _ _ H _ I h => Constant_bool ⟨.bl b, H, I, rfl, h⟩
def Gl (X : Cx) (x : Str) : Prop := X.env.kindOf x = some .globalImplicit
theorem ld_glob {E : Value → Shared → Prop} {pins : List (Addr × Obj)} {s : Shared} {σ : St} {H : Hp} {x : Str} {u : Value} {pos : Pos} {Q : Value → Shared → Prop} (I : Inv X pins σ H s) (hg : Gl X x) (hm : X.mg x = some u) (h : Q u s)
    (hd : (x == ("__debug__" : Str)) = false := by decide) : wpAny (model X.prog X.w) X.A (eval (.Name x pos) X.env) Q E s :=
  Calls.Name_function_global I.ok.kind hg (Calls.loadGlobal_global (by rw [I.ok.glob]; exact I.mod.glob.keeps I.bk) hm h) hd
theorem ld_blt {E : Value → Shared → Prop} {pins : List (Addr × Obj)} {s : Shared} {σ : St} {H : Hp} {x : Str} {u : Value} {pos : Pos} {Q : Value → Shared → Prop} (I : Inv X pins σ H s) (hg : Gl X x) (hm : X.mg x = none) (hv : bootBuiltins x = some u) (h : Q u s)
    (hn : x ≠ "__name__" := by decide) (hd : (x == ("__debug__" : Str)) = false := by decide) : wpAny (model X.prog X.w) X.A (eval (.Name x pos) X.env) Q E s := by
  obtain ⟨mb, h1, h2⟩ := I.mod.blt
  exact Calls.Name_function_global I.ok.kind hg (Calls.loadGlobal_builtin (by rw [I.ok.glob]; exact I.mod.glob.keeps I.bk) hm (by rw [I.ok.blt]; exact h1.keeps I.bk) ((h2 x hn).trans hv) h) hd
theorem pe_bltn {x : Str} {v : V} {u : Value} {pos : Pos} (hg : Gl X x) (hm : X.mg x = none) (hv : bootBuiltins x = some u) (r : RelV v u) (hn : x ≠ "__name__" := by decide) (hd : (x == ("__debug__" : Str)) = false := by decide) : PE X (.Name x pos) (tC v) :=
  fun _ _ _ H _ I h => ld_blt I hg hm hv ⟨v, H, I, r, h⟩ hn hd
variable {a b : Expr} {ta tb : TE} {pos : Pos}
def tB (t : TE) : TT := fun σ H Q => t σ H fun x H1 => ∃ c, x = .bl c ∧ Q c H1
theorem pt_val {e : Expr} {t : TE} (h : PE X e t) (he : ∀ whole, isTrue e X.env whole = (do let v ← whole; standAt e.pos; holding [v] (truthy v)) := by intro _; rfl) : PT X e (tB t) := by
  intro pins s σ H Q I hw
  refine isTrue_plain (thn (h pins s σ H _ I hw) fun v s1 ⟨x, H1, I1, r1, q1⟩ => ?_) (he _)
  obtain ⟨d, rfl, q⟩ := q1
  cases r1
  exact wpAny_truthy_bool ⟨H1, I1, q⟩
variable {tA tB' : TT} {rest : List Expr}
def tAnd (t u : TT) : TT := fun σ H Q => t σ H fun c H1 => if c = true then u σ H1 Q else Q false H1
def tOr (t u : TT) : TT := fun σ H Q => t σ H fun c H1 => if c = true then Q true H1 else u σ H1 Q
def tNot (t : TT) : TT := fun σ H Q => t σ H fun c H1 => Q (!c) H1
theorem pw_and1 (ha : PT X a tA) : PW X (.BoolOp .And [a] pos) tA := by
  intro wh pins s σ H Q I h
  refine isTrue_and (thn (ha pins s σ H Q I h) fun c s1 e => ?_)
  cases c with
  | true => exact isTrue_and_nil e
  | false => exact e
theorem pw_or1 (ha : PT X a tA) : PW X (.BoolOp .Or [a] pos) tA := by
  intro wh pins s σ H Q I h
  refine isTrue_or (thn (ha pins s σ H Q I h) fun c s1 e => ?_)
  cases c with
  | false => exact isTrue_or_nil e
  | true => exact e
theorem pw_and (ha : PT X a tA) (hb : PW X (.BoolOp .And (b :: rest) pos) tB') : PW X (.BoolOp .And (a :: b :: rest) pos) (tAnd tA tB') := by
  intro wh pins s σ H Q I h
  refine isTrue_and (thn (ha pins s σ H _ I h) fun c s1 ⟨H1, I1, q1⟩ => ?_)
  cases c with
  | true => exact hb wh pins s1 σ H1 Q I1 q1
  | false => exact ⟨H1, I1, q1⟩
theorem pw_or (ha : PT X a tA) (hb : PW X (.BoolOp .Or (b :: rest) pos) tB') : PW X (.BoolOp .Or (a :: b :: rest) pos) (tOr tA tB') := by
  intro wh pins s σ H Q I h
  refine isTrue_or (thn (ha pins s σ H _ I h) fun c s1 ⟨H1, I1, q1⟩ => ?_)
  cases c with
  | true => exact ⟨H1, I1, q1⟩
  | false => exact hb wh pins s1 σ H1 Q I1 q1
theorem pt_not (ha : PT X a tA) : PT X (.UnaryOp .Not a pos) (tNot tA) := by
  intro pins s σ H Q I h
  exact isTrue_not (ha pins s σ H (fun c H1 => Q (!c) H1) I h)
def tAndV (ta tb : TE) : TE := fun σ H Q => ta σ H fun x H1 => ∃ c, x = .bl c ∧ if c = true then tb σ H1 Q else Q (.bl false) H1
def tOrV (ta tb : TE) : TE := fun σ H Q => ta σ H fun x H1 => ∃ c, x = .bl c ∧ if c = true then Q (.bl true) H1 else tb σ H1 Q
def tNotV (ta : TE) : TE := fun σ H Q => ta σ H fun x H1 => ∃ c, x = .bl c ∧ Q (.bl (!c)) H1
theorem pe_one {op} {t : TE} (h : PE X a t) : PE X (.BoolOp op [a] pos) t := fun pins s σ H Q I hw => BoolOp_one (h pins s σ H Q I hw)
theorem pe_and (ha : PE X a ta) (hb : PE X (.BoolOp .And (b :: rest) pos) tb) : PE X (.BoolOp .And (a :: b :: rest) pos) (tAndV ta tb) := by
  intro pins s σ H Q I h
  refine BoolOp_and (thn (ha pins s σ H _ I h) fun v s1 ⟨x, H1, I1, r1, q1⟩ => ?_)
  obtain ⟨c, rfl, q1⟩ := q1
  cases r1
  refine wpAny_truthy_bool ?_
  cases c with
  | true => exact hb pins s1 σ H1 Q I1 q1
  | false => exact ⟨.bl false, H1, I1, rfl, q1⟩
theorem pe_not (ha : PE X a ta) : PE X (.UnaryOp .Not a pos) (tNotV ta) := by
  intro pins s σ H Q I h
  refine UnaryOp_ (thn (ha pins s σ H _ I h) fun v s1 ⟨x, H1, I1, r1, q1⟩ => ?_)
  obtain ⟨c, rfl, q1⟩ := q1
  cases r1
  exact not_of (wpAny_truthy_bool ⟨.bl (!c), H1, I1, rfl, q1⟩)
def tIf (t : TT) (ta tb : TE) : TE := fun σ H Q => t σ H fun c H1 => if c = true then ta σ H1 Q else tb σ H1 Q
end
end L2
namespace L2
open PySem PySem.Spec PyProof.Rows
def SqL (K : PySem.W.Frag) (H : Hp) (a : Addr) (xs : List V) : Prop :=
  Rd H a (.lst xs) ∨
    ∃ (o : Obj) (its : Array Value) (n : Nat), K.lookup a = some o ∧ o.cls = .type "list" ∧ o.dict = none ∧ o.data = .seq its n ∧ its.size ≤ sizeLine ∧ Vals xs its.toList
def SqT (K : PySem.W.Frag) (H : Hp) (a : Addr) (xs : List V) : Prop :=
  Rd H a (.tup xs) ∨
    ∃ (o : Obj) (its : Array Value) (n : Nat), K.lookup a = some o ∧ o.cls = .type "tuple" ∧ o.data = .seq its n ∧ its.size ≤ sizeLine ∧ Vals xs its.toList
def absV : Value → Option V
  | .none => some .non
  | .bool b => some (.bl b)
  | .int i _ => some (.int i)
  | .str x _ => some (.str x)
  | .bytes b _ => some (.byt b)
  | .float b _ => some (.flt b)
  | .ref a => some (.ref a)
  | .type n => some (.ty n)
  | _ => none
theorem RelV.abs {x : V} {u : Value} (r : RelV x u) : absV u = some x := by
  cases x with
  | non => cases r; rfl
  | bl _ => cases r; rfl
  | int _ => obtain ⟨t, rfl⟩ := r; rfl
  | str _ => obtain ⟨t, rfl⟩ := r; rfl
  | byt _ => obtain ⟨t, rfl⟩ := r; rfl
  | flt _ => obtain ⟨t, rfl⟩ := r; rfl
  | ref _ => cases r; rfl
  | ty _ => cases r; rfl
theorem RelV.inj {x y : V} {u : Value} (r : RelV x u) (q : RelV y u) : x = y := Option.some.inj (r.abs.symm.trans q.abs)
theorem Vals.inj : ∀ {xs ys : List V} {us : List Value}, Vals xs us → Vals ys us → xs = ys
  | _, _, _, .nil, .nil => rfl
  | _, _, _, .cons r t, .cons r' t' => by rw [r.inj r', Vals.inj t t']
section
variable {X : Cx} {pins : List (Addr × Obj)} {σ : St} {H : Hp} {s : Shared} {a : Addr} {xs ys : List V}
theorem SqL.of {K : PySem.W.Frag} (h : H a = some (.lst xs)) : SqL K H a xs := .inl (.inl h)
theorem SqT.of {K : PySem.W.Frag} (h : H a = some (.tup xs)) : SqT K H a xs := .inl (.inl h)
theorem Inv.list (I : Inv X pins σ H s) (h : SqL X.K H a xs) : ∃ its : List Value, Vals xs its ∧ PlainL s.heap a its.toArray ∧ xs.length ≤ sizeLine := by
  rcases h with h | ⟨o, its, n, hk, hc, hd, hs, hz, r⟩
  · obtain ⟨z, its, n, r, e⟩ := h.ok I.hok
    exact ⟨its, r, ⟨_, n, e, rfl, rfl, rfl⟩, z⟩
  · refine ⟨its.toList, r, ⟨o, n, I.kIn a o hk, hc, hd, by simpa using hs⟩, ?_⟩
    have e := r.length
    simp only [Array.length_toList] at e
    omega
theorem Inv.tuple (I : Inv X pins σ H s) (h : SqT X.K H a xs) : ∃ its : List Value, Vals xs its ∧ IsTup s.heap a its.toArray ∧ xs.length ≤ sizeLine := by
  rcases h with h | ⟨o, its, n, hk, hc, hs, hz, r⟩
  · obtain ⟨z, its, r, p⟩ := h.ok I.hok
    exact ⟨its, r, p, z⟩
  · refine ⟨its.toList, r, ⟨o, I.kIn a o hk, hc, n, by simpa using hs⟩, ?_⟩
    have e := r.length
    simp only [Array.length_toList] at e
    omega
theorem Inv.list_inj (I : Inv X pins σ H s) (h : SqL X.K H a xs) (h' : SqL X.K H a ys) : xs = ys := by
  obtain ⟨its, r, ⟨o, n, e, _, _, d⟩, _⟩ := I.list h
  obtain ⟨its', r', ⟨o', n', e', _, _, d'⟩, _⟩ := I.list h'
  rw [e] at e'; cases e'
  rw [d] at d'
  injection d' with d1 _
  have : its = its' := by simpa using congrArg Array.toList d1
  subst this
  exact r.inj r'
end
abbrev Cx.wish (X : Cx) (E : Value → Shared → Prop) : Cx := { X with xe := E }
abbrev Cx.nox (X : Cx) : Cx := X.wish fun _ _ => False
theorem Cx.Ok.wish {X : Cx} (ok : X.Ok) (E : Value → Shared → Prop) : (X.wish E).Ok :=
  ⟨ok.mod, ok.kind, ok.glob, ok.blt, ok.above, ok.inj, ok.has, ok.cab, ok.hd, ok.frames, ok.stk, ok.exf, ok.bs, ok.bsz, ok.noex, ok.exfs, ok.funs, ok.frf⟩
theorem Cx.Ok.unwish {X : Cx} {E : Value → Shared → Prop} (ok : (X.wish E).Ok) : X.Ok :=
  ⟨ok.mod, ok.kind, ok.glob, ok.blt, ok.above, ok.inj, ok.has, ok.cab, ok.hd, ok.frames, ok.stk, ok.exf, ok.bs, ok.bsz, ok.noex, ok.exfs, ok.funs, ok.frf⟩
section
variable {X : Cx} {pins : List (Addr × Obj)} {σ : St} {H : Hp} {s : Shared} {E : Value → Shared → Prop}
theorem Inv.wish (I : Inv X pins σ H s) (E : Value → Shared → Prop) : Inv (X.wish E) pins σ H s := ⟨I.ok.wish E, I.os, I.bare, I.base, I.loc, I.cell, I.free, I.freeC, I.pin, I.hok, I.len⟩
theorem Inv.unwish (I : Inv (X.wish E) pins σ H s) : Inv X pins σ H s := ⟨I.ok.unwish, I.os, I.bare, I.base, I.loc, I.cell, I.free, I.freeC, I.pin, I.hok, I.len⟩
theorem SP.unwish {D : Ends} {f : Flow} {s' : Shared} (h : SP (X.wish E) pins D f s') : SP X pins D f s' := by
  cases f with
  | next => obtain ⟨σ', H', I, q⟩ := h; exact ⟨σ', H', I.unwish, q⟩
  | brk => obtain ⟨σ', H', I, q⟩ := h; exact ⟨σ', H', I.unwish, q⟩
  | cont => obtain ⟨σ', H', I, q⟩ := h; exact ⟨σ', H', I.unwish, q⟩
  | ret u => obtain ⟨v, σ', H', I, r, q⟩ := h; exact ⟨v, σ', H', I.unwish, r, q⟩
theorem PE.nox {e : Expr} {t : TE} (h : PE X.nox e t) : PE X e t := fun pins s σ H Q I hw =>
  wpAny_mono (h pins s σ H Q (I.wish _) hw) (fun _ _ ⟨v, H', I', r, q⟩ => ⟨v, H', I'.unwish, r, q⟩) fun _ _ z => False.elim z
theorem PT.nox {e : Expr} {t : TT} (h : PT X.nox e t) : PT X e t := fun pins s σ H Q I hw =>
  wpAny_mono (h pins s σ H Q (I.wish _) hw) (fun _ _ ⟨H', I', q⟩ => ⟨H', I'.unwish, q⟩) fun _ _ z => False.elim z
theorem PSs.nox {st : List Stmt} {t : TS} (h : PSs X.nox st t) : PSs X st t := fun pins s σ H D I hw =>
  wpAny_mono (h pins s σ H D (I.wish _) hw) (fun _ _ q => q.unwish) fun _ _ z => False.elim z
end
section
variable {X : Cx} {st : Stmt} {rest : List Stmt} {t u : TS} {e : Expr} {te : TE} {pos : Pos}
def tNext : TS := fun D σ H => D.nx σ H
def tSeq (t u : TS) : TS := fun D σ H => t { D with nx := u D } σ H
theorem pss_nil : PSs X [] tNext := fun _ _ σ H _ I h => wpAny_execs_nil ⟨σ, H, I, h⟩
theorem pss_cons (h1 : PS X st t) (h2 : PSs X rest u) : PSs X (st :: rest) (tSeq t u) := by
  intro pins s σ H D I h
  refine wpAny_execs_cons (thn (h1 pins s σ H { D with nx := u D } I h) fun f s1 q => ?_)
  cases f with
  | next =>
    obtain ⟨σ', H', I', q⟩ := q
    exact h2 pins s1 σ' H' D I' q
  | ret v => exact q
  | brk => exact q
  | cont => exact q
theorem pss_one (h1 : PS X st t) : PSs X [st] t := by
  intro pins s σ H D I h
  refine wpAny_execs_cons (thn (h1 pins s σ H D I h) fun f s1 q => ?_)
  cases f with
  | next => exact wpAny_execs_nil q
  | ret v => exact q
  | brk => exact q
  | cont => exact q
theorem Inv.quiet {pins : List (Addr × Obj)} {σ : St} {H : Hp} {s : Shared} (I : Inv X pins σ H s) : interactive X.env = false := by simp [interactive, I.ok.kind]
def tDrop (te : TE) : TS := fun D σ H => te σ H fun _ H1 => D.nx σ H1
theorem ps_expr (he : PE X e te) (hs : swapsWith e none pos.line X.env = pure false := by rfl) : PS X (.Expr e pos) (tDrop te) := by
  intro pins s σ H D I h
  exact wpAny_Expr_any (thn (he pins s σ H _ I h) fun v s1 ⟨x, H1, I1, r1, q1⟩ => ⟨σ, H1, I1, q1⟩) I.quiet hs
def tRet (te : TE) : TS := fun D σ H => te σ H D.rt
theorem ps_ret (he : PE X e te) : PS X (.Return (some e) pos) (tRet te) := by
  intro pins s σ H D I h
  exact wpAny_Return_some (thn (he pins s σ H _ I h) fun v s1 ⟨x, H1, I1, r1, q1⟩ => ⟨x, σ, H1, I1, r1, q1⟩)
def tRetN : TS := fun D _ H => D.rt .non H
def tIfS (c : TT) (t u : TS) : TS := fun D σ H => c σ H fun b H1 => if b = true then t D σ H1 else u D σ H1
theorem ps_if {c : Expr} {a b : List Stmt} {tc : TT} (hc : PT X c tc) (ha : PSs X a t) (hb : PSs X b u) : PS X (.If c a b pos) (tIfS tc t u) := by
  intro pins s σ H D I h
  refine wpAny_If (thn (hc pins s σ H _ I h) fun d s1 ⟨H1, I1, q1⟩ => ?_)
  cases d with
  | true => exact ha pins s1 σ H1 D I1 q1
  | false => exact hb pins s1 σ H1 D I1 q1
end
abbrev TG := V → St → Hp → (St → Hp → Prop) → Prop
abbrev TGs := List V → St → Hp → (St → Hp → Prop) → Prop
def PG (X : Cx) (target : Expr) (t : TG) : Prop :=
  ∀ (pins : List (Addr × Obj)) (s : Shared) (σ : St) (H : Hp) (v : V) (u : Value) (Q : St → Hp → Prop), Inv X pins σ H s → RelV v u → t v σ H Q →
    wpAny (model X.prog X.w) X.A (assign target X.env u) (fun _ s' => ∃ σ' H', Inv X pins σ' H' s' ∧ Q σ' H') X.xe s
abbrev TSet := V → V → V → Hp → (Hp → Prop) → Prop
section
variable {X : Cx} {pos : Pos}
def gName (i : Nat) : TG := fun v σ H Q => Q (σ.set i (some v)) H
theorem pg_name {i : Nat} {x : Str} (hN : X.N.Nodup) (hi : X.N[i]? = some x) (hx : Loc X.env.scope x) (hf : X.fn x = true ∨ X.env.scope.names.lookup x = some .local := by first | exact .inl rfl | exact .inr rfl | assumption) : PG X (.Name x pos) (gName i) := by
  intro pins s σ H v u Q I r h
  exact wpAny_assign_Name (store_ok I hN hi hx r (fun s' I' => ⟨_, H, I', h⟩) hf)
def gNil : TGs := fun vs σ H Q => vs = [] ∧ Q σ H
def gCons (t : TG) (u : TGs) : TGs := fun vs σ H Q => ∃ v r, vs = v :: r ∧ t v σ H fun σ' H' => u r σ' H' Q
def gTup (K : PySem.W.Frag) (n : Nat) (t : TGs) : TG := fun v σ H Q => ∃ a xs, v = .ref a ∧ SqT K H a xs ∧ xs.length = n ∧ t xs σ H Q
def gSub (to ti : TE) (t : TSet) : TG := fun v σ H Q => to σ H fun o H1 => ti σ H1 fun i H2 => t o i v H2 fun H3 => Q σ H3
def tAsg (te : TE) (g : TG) : TS := fun D σ H => te σ H fun x H1 => g x σ H1 D.nx
theorem ps_set {i : Nat} {x : Str} {e : Expr} {te : TE} {pos' : Pos} (hN : X.N.Nodup) (hi : X.N[i]? = some x) (hx : Loc X.env.scope x) (he : PE X e te) (hs : swapsWith e (some (.Name x pos')) pos.line X.env = pure false := by rfl) (hf : X.fn x = true ∨ X.env.scope.names.lookup x = some .local := by first | exact .inl rfl | exact .inr rfl | assumption) :
    PS X (.Assign [.Name x pos'] e pos) (tAsg te (gName i)) := by
  intro pins s σ H D I h
  refine wpAny_Assign_Name (thn (he pins s σ H _ I h) fun v s1 ⟨y, H1, I1, r1, q1⟩ => ?_) hs
  exact store_ok I1 hN hi hx r1 (fun s2 I2 => ⟨_, H1, I2, q1⟩) hf
def tPar (i j : Nat) (ta : TA) : TS := fun D σ H => ta σ H fun vs H1 => ∃ v w, vs = [v, w] ∧ D.nx ((σ.set i (some v)).set j (some w)) H1
end
section
variable {X : Cx} {pos : Pos}
end
structure It where
  go : Nat → Hp → Prop
  yld : Nat → Hp → V → Hp → Prop
  stop : Nat → Hp → Prop
def FpOk (X : Cx) (pins : List (Addr × Obj)) (H : Hp) (b : Addr) : Prop :=
  H b = none ∧ b ≠ X.env.locals ∧ b ∉ X.fs ∧ (b ∈ X.ex ∨ X.s₀.heap.objs.size ≤ b) ∧ (∀ x c, X.env.cells.lookup x = some c → c ≠ b) ∧ ∀ p ∈ X.pn ++ pins, p.1 ≠ b
theorem Inv.fpOk {X : Cx} {pins : List (Addr × Obj)} {σ : St} {H H' : Hp} {s : Shared} {b : Addr} (I : Inv X pins σ H s) (hb : s.heap.objs.size ≤ b) (hn : H' b = none) : FpOk X pins H' b := by
  refine ⟨hn, Nat.ne_of_gt (Nat.lt_of_lt_of_le I.lt hb), I.nofs hb, .inr (Nat.le_trans I.sz hb), fun x c e z => ?_, fun p hp z => ?_⟩
  · obtain ⟨v, q⟩ := I.cell x c e
    exact absurd (Nat.lt_of_lt_of_le q.lt (by rw [z]; exact hb)) (Nat.lt_irrefl _)
  · exact absurd (Nat.lt_of_lt_of_le (Heap.lt_size (I.pin p hp).1) (by rw [z]; exact hb)) (Nat.lt_irrefl _)
structure Turn (P : Program) (w : World) (K : PySem.W.Frag) (tg : Expr) (J : It) (fp : List Addr) (it : Addr) (tn : Nat → Heap → Prop) : Prop where
  mem : it ∈ fp
  obj : ∀ i h, tn i h → ∀ b ∈ fp, ∃ o, h.get? b = some o ∧ ∀ v, o.data ≠ .cell v
  keep : ∀ i h h', tn i h → (∀ b ∈ fp, ∀ o, h.get? b = some o → h'.get? b = some o) → tn i h'
  item : ∀ (X : Cx), X.prog = P → X.w = w → X.K = K → X.calm = true → ∀ (i : Nat) (pins : List (Addr × Obj)) (s : Shared) (σ : St) (H : Hp) (E : Value → Shared → Prop), Inv X pins σ H s → (∀ b ∈ fp, FpOk X pins H b) → tn i s.heap → J.go i H →
    wpAny (model P w) X.A (pyNext (.ref it)) (fun r s1 => ∃ u, r = some u ∧
      wpAny (model P w) X.A (letOwnedTupleGo tg (.ref it) u) (fun _ s2 => ∃ x H', Inv X pins σ H' s2 ∧ RelV x u ∧ J.yld i H x H' ∧ tn (i + 1) s2.heap ∧ ∀ b ∈ fp, H' b = none) E s1) E s
  done : ∀ (X : Cx), X.prog = P → X.w = w → X.K = K → X.calm = true → ∀ (i : Nat) (pins : List (Addr × Obj)) (s : Shared) (σ : St) (H : Hp) (E : Value → Shared → Prop), Inv X pins σ H s → (∀ b ∈ fp, FpOk X pins H b) → tn i s.heap → J.stop i H →
    wpAny (model P w) X.A (pyNext (.ref it)) (fun r s1 => r = none ∧ Inv X pins σ H s1) E s
  self : ∀ (A : Around) (i : Nat) (s : Shared) (Q : Value → Shared → Prop) (E : Value → Shared → Prop), tn i s.heap → Q (.ref it) s → wpAny (model P w) A (pyIter (.ref it)) Q E s
abbrev TI := St → Hp → (It → Hp → Prop) → Prop
def PIE (X : Cx) (pins : List (Addr × Obj)) (σ : St) (tg : Expr) (R : It → Hp → Prop) (itv : Value) (s2 : Shared) : Prop :=
  ∃ (it : Addr) (fp : List Addr) (tn : Nat → Heap → Prop) (J : It) (H' : Hp), itv = .ref it ∧ Inv X pins σ H' s2 ∧ Turn X.prog X.w X.K tg J fp it tn ∧ tn 0 s2.heap ∧ (∀ b ∈ fp, FpOk X pins H' b) ∧ R J H'
def PI (X : Cx) (tg iter : Expr) (wi : TI) : Prop :=
  ∀ (pins : List (Addr × Obj)) (s : Shared) (σ : St) (H : Hp) (R : It → Hp → Prop), Inv X pins σ H s → wi σ H R →
    wpAny (model X.prog X.w) X.A (eval iter X.env) (fun v s1 => wpAny (model X.prog X.w) X.A (pyIter v) (PIE X pins σ tg R) X.xe s1) X.xe s
theorem go_of {M : Model} {A : Around} {E : Value → Shared → Prop} {s : Shared} {tg : Expr} {it : Addr} {u : Value} {o : Obj} {n : String} {vs : Array Value} {Q : Unit → Shared → Prop} (ho : s.heap.get? it = some o) (hc : o.cls = .type n) (hd : o.data = .fields vs)
    (hn : ["enumerate", "zip", "dict_itemiterator", "dict_reverseitemiterator", "odict_iterator", "itertools.zip_longest", "itertools.pairwise"].contains n = false) (hQ : Q () s) : wpAny M A (letOwnedTupleGo tg (.ref it) u) Q E s := by
  unfold letOwnedTupleGo
  cases tg <;> first
    | exact wpAny_pure hQ
    | (cases u <;> first
        | exact wpAny_pure hQ
        | (refine wpAny_bind (wpAny_load ho ?_)
           rw [hc, hd]
           show wpAny M A (if (["enumerate", "zip", "dict_itemiterator", "dict_reverseitemiterator", "odict_iterator", "itertools.zip_longest", "itertools.pairwise"].contains n && vs[0]? == some (rawInt _)) = true then _ else _) Q E s
           rw [if_neg (by intro h; rw [hn, Bool.false_and] at h; cases h)]
           exact wpAny_pure hQ))
def Itl (K : PySem.W.Frag) (a : Addr) : It :=
  ⟨fun i H => ∃ xs x, SqL K H a xs ∧ xs[i]? = some x, fun i H x H' => H' = H ∧ ∀ xs, SqL K H a xs → xs[i]? = some x, fun i H => ∃ xs, SqL K H a xs ∧ xs.length ≤ i⟩
def Itr (lo : Int) (n : Nat) : It := ⟨fun i _ => i < n, fun i H x H' => H' = H ∧ x = .int (lo + i), fun i _ => n ≤ i⟩
theorem turn_list {P : Program} {w : World} {K : PySem.W.Frag} {tg : Expr} (a it : Addr) : Turn P w K tg (Itl K a) [it] it (fun i h => h.IsListIter it a i) where
  mem := by simp
  obj := fun i h st b hb => by
    have e : b = it := by simpa using hb
    subst e
    obtain ⟨o, e, c, d⟩ := st
    exact ⟨o, e, fun v z => by rw [d] at z; cases z⟩
  keep := fun i h h' st k => st.at fun o e => k it (by simp) o e
  item := by
    intro X hP hw hK hc i pins s σ H E I hf st hg
    subst hP hw hK
    obtain ⟨xs, x, hq, hx⟩ := hg
    obtain ⟨its, rv, p, hz⟩ := I.list hq
    obtain ⟨u, hu, ru⟩ := rv.get hx
    obtain ⟨f0, f1, f2, f3, f4, f5⟩ := hf it (by simp)
    refine wpAny_pyNext_list_item st p.isList (x := u) (by simpa using hu) fun h' st' sb => ?_
    have I1 : Inv X pins σ H { s with heap := h' } := I.turned (t' := s.toks) (fun b o hb e => (sb.2 b hb).trans e) f0 f1 f3 f4 f5
    obtain ⟨o, e, c, d⟩ := id st'
    exact ⟨u, rfl, go_of (s := { s with heap := h' }) e c d (by decide) ⟨x, H, I1, ru, ⟨rfl, fun ys hy => by rw [I.list_inj hy hq]; exact hx⟩, st', fun b hb => (hf b hb).1⟩⟩
  done := by
    intro X hP hw hK hc i pins s σ H E I hf st hg
    subst hP hw hK
    obtain ⟨xs, hq, hx⟩ := hg
    obtain ⟨its, rv, p, hz⟩ := I.list hq
    obtain ⟨f0, f1, f2, f3, f4, f5⟩ := hf it (by simp)
    have hl := rv.length
    exact wpAny_pyNext_list_end (I.ok.hd hc) st p.isList (by simp; omega) fun h' eb => ⟨rfl, I.turned (t' := s.toks) (fun b o hb e => eb b o hb e) f0 f1 f3 f4 f5⟩
  self := fun _ _ _ _ _ st h => wpAny_pyIter_listiter st h
theorem turn_range {P : Program} {w : World} {K : PySem.W.Frag} {tg : Expr} (it : Addr) (lo : Int) (n : Nat) : Turn P w K tg (Itr lo n) [it] it (fun i h => IsRangeIter h it (lo + (i : Nat) * 1) ((n : Int) - (i : Nat)) 1) where
  mem := by simp
  obj := fun i h st b hb => by
    have e : b = it := by simpa using hb
    subst e
    exact ⟨_, st, fun v z => by
      have z' : Data.fields _ = Data.cell v := z
      cases z'⟩
  keep := fun i h h' st k => k it (by simp) _ st
  item := by
    intro X hP hw hK hc i pins s σ H E I hf st hg
    subst hP hw hK
    obtain ⟨f0, f1, f2, f3, f4, f5⟩ := hf it (by simp)
    have W := Walks.range (prog := X.prog) (w := X.w) (I.ok.hd hc) it lo 1 n
    refine W.item i s _ _ hg st fun v h' tk hv st' kk => ?_
    obtain ⟨t, rfl⟩ := hv
    have I1 : Inv X pins σ H { s with heap := h', toks := tk } := I.turned (fun b o hb e => kk b o (by simpa using hb) e) f0 f1 f3 f4 f5
    refine ⟨_, rfl, go_of (s := { s with heap := h', toks := tk }) (n := "range_iterator") st' rfl rfl (by decide) ⟨.int (lo + i), H, I1, ⟨t, ?_⟩, ⟨rfl, rfl⟩, st', fun b hb => (hf b hb).1⟩⟩
    rw [Int.mul_one]
  done := by
    intro X hP hw hK hc i pins s σ H E I hf st hg
    subst hP hw hK
    obtain ⟨f0, f1, f2, f3, f4, f5⟩ := hf it (by simp)
    exact wpAny_pyNext_range_end (I.ok.hd hc) st (by have : n ≤ i := hg; omega) fun h' eb => ⟨rfl, I.turned (t' := s.toks) (fun b o hb e => eb b o hb e) f0 f1 f3 f4 f5⟩
  self := fun _ _ _ _ _ st h => wpAny_pyIter_rangeiter st h
end L2
namespace L2
open PySem PySem.Spec PyProof.Rows
section
variable {X : Cx} {tg : Expr}
def iList (K : PySem.W.Frag) (tl : TE) : TI := fun σ H R => tl σ H fun x H1 => ∃ a, x = .ref a ∧ (∃ xs, SqL K H1 a xs) ∧ R (Itl K a) H1
theorem pi_list {l : Expr} {tl : TE} (hl : PE X l tl) : PI X tg l (iList X.K tl) := by
  intro pins s σ H R I h
  refine thn (hl pins s σ H _ I h) fun v s1 ⟨x, H1, I1, r1, q1⟩ => ?_
  obtain ⟨a, e, ⟨xs, hq⟩, q⟩ := q1
  subst e
  cases r1
  obtain ⟨its, rv, p, hz⟩ := I1.list hq
  refine wpAny_pyIter_list p.isList ?_
  refine ⟨s1.heap.objs.size, [s1.heap.objs.size], _, _, H1, rfl, I1.kept (t' := s1.toks) fun b o e => Heap.get?_push_of_some _ e, turn_list a _, ⟨_, Heap.get?_push_size _ rfl, rfl, rfl⟩, fun b hb => ?_, q⟩
  have e : b = s1.heap.objs.size := by simpa using hb
  subst e
  exact I1.fpOk (Nat.le_refl _) (I1.hok.fresh (Nat.le_refl _))
theorem range_it {pins : List (Addr × Obj)} {σ : St} {H : Hp} {s : Shared} {R : It → Hp → Prop} {E : Value → Shared → Prop} {lo hi : Int} {t u v : Tok} {tk : Nat} (I : Inv X pins σ H s) (h1 : -(2 ^ 62) ≤ lo) (h2 : lo < 2 ^ 62) (h3 : -(2 ^ 62) ≤ hi) (h4 : hi < 2 ^ 62)
    (q : R (Itr lo (hi - lo).toNat) H) : wpAny (model X.prog X.w) X.A (pyIter (.ref s.heap.objs.size)) (PIE X pins σ tg R) E { s with heap := s.heap.push { cls := .type "range", data := .fields #[.int lo t, .int hi u, .int 1 v] }, toks := tk } := by
  refine wpAny_pyIter_range (IsRange.new ..) (small_one h1 h2 h3 h4) ?_
  have I1 : Inv X pins σ H { s with heap := s.heap.push { cls := .type "range", data := .fields #[.int lo t, .int hi u, .int 1 v] }, toks := tk } := I.kept fun b o e => Heap.get?_push_of_some _ e
  refine ⟨(s.heap.push { cls := .type "range", data := .fields #[.int lo t, .int hi u, .int 1 v] }).objs.size, [(s.heap.push { cls := .type "range", data := .fields #[.int lo t, .int hi u, .int 1 v] }).objs.size], _, _, H, rfl,
    I1.kept (t' := tk) fun b o e => Heap.get?_push_of_some _ e, turn_range _ lo (hi - lo).toNat, ?_, fun b hb => ?_, q⟩
  · have e1 : lo + ((0 : Nat) : Int) * 1 = lo := by simp
    have e2 : (((hi - lo).toNat : Nat) : Int) - ((0 : Nat) : Int) = Builtin.Range.rangeSize lo hi 1 := by rw [rangeSize_one]; split <;> omega
    show IsRangeIter _ _ (lo + ((0 : Nat) : Int) * 1) ((((hi - lo).toNat : Nat) : Int) - ((0 : Nat) : Int)) 1
    rw [e1, e2]
    exact Heap.get?_push_size _ rfl
  · have e : b = (s.heap.push { cls := .type "range", data := .fields #[.int lo t, .int hi u, .int 1 v] }).objs.size := by simpa using hb
    subst e
    exact I1.fpOk (Nat.le_refl _) (I1.hok.fresh (Nat.le_refl _))
def iRng1 (ta : TA) : TI := fun σ H R => ta σ H fun vs H1 => ∃ j : Int, vs = [.int j] ∧ -(2 ^ 62) ≤ j ∧ j < 2 ^ 62 ∧ R (Itr 0 j.toNat) H1
def iRng2 (ta : TA) : TI := fun σ H R => ta σ H fun vs H1 => ∃ i j : Int, vs = [.int i, .int j] ∧ (-(2 ^ 62) ≤ i ∧ i < 2 ^ 62 ∧ -(2 ^ 62) ≤ j ∧ j < 2 ^ 62) ∧ R (Itr i (j - i).toNat) H1
theorem pi_range1 {a : Expr} {ta : TA} {p pos : Pos} (hg : Gl X "range") (hm : X.mg "range" = none) (ha : PA X [a] ta) (hs : starEach [a] X.env = [(false, eval a X.env)] := by rfl) : PI X tg (.Call (.Name "range" p) [a] [] pos) (iRng1 ta) := by
  intro pins s σ H R I h
  refine Call_ (ld_blt I hg hm boot_range (PyProof.Rows.callWith_type1 (thn (ha pos pins s σ H _ I h) fun us s1 ⟨vs, H1, I1, r1, q1⟩ => ?_) hs rfl))
  obtain ⟨j, e, q1, q2, q⟩ := q1
  subst e
  cases r1 with
  | cons r rr =>
    cases rr
    obtain ⟨t, rfl⟩ := r
    exact call_range_1 (range_it I1 (by omega) (by omega) q1 q2 (by simpa using q))
theorem pi_range2 {a b : Expr} {ta : TA} {p pos : Pos} (hg : Gl X "range") (hm : X.mg "range" = none) (ha : PA X [a, b] ta) (hs : starEach [a, b] X.env = [(false, eval a X.env), (false, eval b X.env)] := by rfl) (hs2 : starEach [b] X.env = [(false, eval b X.env)] := by rfl) :
    PI X tg (.Call (.Name "range" p) [a, b] [] pos) (iRng2 ta) := by
  intro pins s σ H R I h
  refine Call_ (ld_blt I hg hm boot_range (PyProof.Rows.callWith_type1 (thn (ha pos pins s σ H _ I h) fun us s1 ⟨vs, H1, I1, r1, q1⟩ => ?_) (by rw [hs, hs2]) (by rw [hs2]; rfl)))
  obtain ⟨i, j, e, ⟨q1, q2, q3, q4⟩, q⟩ := q1
  subst e
  cases r1 with
  | cons r rr =>
    cases rr with
    | cons r' rr =>
      cases rr
      obtain ⟨t, rfl⟩ := r
      obtain ⟨t', rfl⟩ := r'
      exact call_range_2 (range_it I1 q1 q2 q3 q4 q)
def tFor (wi : TI) (g : TG) (tb : TS) : TS := fun D σ H => wi σ H fun J H1 => ∃ W : Nat → Nat → St → Hp → Prop, (∃ m, W 0 m σ H1) ∧ ∀ i m σ H, W i m σ H →
  (J.stop i H ∧ D.nx σ H) ∨ (J.go i H ∧ ∃ N : St → Hp → Prop, (∀ σ' H', N σ' H' → ∃ m', m' < m ∧ W (i + 1) m' σ' H') ∧ ∀ x H', J.yld i H x H' → g x σ H' fun σ2 H2 => tb { D with nx := N, ct := N, bk := D.nx } σ2 H2)
def pinsAt (fp : List Addr) (h : Heap) : List (Addr × Obj) := fp.filterMap fun b => (h.get? b).map fun o => (b, o)
theorem mem_pinsAt {fp : List Addr} {h : Heap} {b : Addr} {o : Obj} (hb : b ∈ fp) (e : h.get? b = some o) : (b, o) ∈ pinsAt fp h := List.mem_filterMap.mpr ⟨b, hb, by rw [e]; rfl⟩
theorem of_pinsAt {fp : List Addr} {h : Heap} {p : Addr × Obj} (hp : p ∈ pinsAt fp h) : p.1 ∈ fp ∧ h.get? p.1 = some p.2 := by
  obtain ⟨b, hb, e⟩ := List.mem_filterMap.mp hp
  cases q : h.get? b with
  | none => rw [q] at e; cases e
  | some o =>
    rw [q] at e
    have e' : (b, o) = p := Option.some.inj e
    subst e'
    exact ⟨hb, q⟩
theorem Inv.pinned {pins : List (Addr × Obj)} {σ : St} {H : Hp} {s : Shared} {fp : List Addr} (I : Inv X pins σ H s) (hf : ∀ b ∈ fp, FpOk X pins H b) (ho : ∀ b ∈ fp, ∃ o, s.heap.get? b = some o ∧ ∀ v, o.data ≠ .cell v) : Inv X (pins ++ pinsAt fp s.heap) σ H s :=
  I.pins_of fun p hp => (List.mem_append.mp hp).elim (fun z => I.pin p (List.mem_append_right _ z)) fun z => by
    obtain ⟨hb, e⟩ := of_pinsAt z
    obtain ⟨f0, f1, f2, _⟩ := hf p.1 hb
    obtain ⟨o, e', d⟩ := ho p.1 hb
    rw [e] at e'; cases e'
    exact ⟨e, f0, f1, f2, d⟩
theorem Inv.unpinned {pins pl : List (Addr × Obj)} {σ : St} {H : Hp} {s : Shared} (I : Inv X (pins ++ pl) σ H s) : Inv X pins σ H s := I.pins_of fun p hp => I.pin p (List.mem_append_right _ (List.mem_append_left _ hp))
theorem ps_for {iter : Expr} {body : List Stmt} {wi : TI} {g : TG} {tb : TS} {pos : Pos} (hp : PassesOwn (model X.prog X.w) X.A X.env X.xe) (hc : X.calm = true) (hi : PI X tg iter wi) (hg : PG X tg g) (hb : PSs X body tb)
    (hs : ∀ x, foldedSetIterable iter X.env x = pure x := by intro _; rfl) : PS X (.For tg iter body [] pos) (tFor wi g tb) := by
  intro pins s σ H D I h
  refine wpAny_For (thn (hi pins s σ H _ I h) fun v s1 h1 => thn h1 fun itv s2 h2 => ?_) hs
  obtain ⟨it, fp, tn, J, H2, e, I2, T, st2, f2, W, ⟨m0, w0⟩, turn⟩ := h2
  subst e
  -- what stays true of the iterator's objects through the loop
  have stat : ∀ {H' : Hp}, (∀ b ∈ fp, H' b = none) → ∀ b ∈ fp, FpOk X pins H' b := fun hn b hb => ⟨hn b hb, (f2 b hb).2⟩
  refine codeAny_forLoop_any (fun n s' => ∃ i σ' H', Inv X pins σ' H' s' ∧ tn i s'.heap ∧ (∀ b ∈ fp, H' b = none) ∧ W i n σ' H') ?_ m0 ⟨0, σ, H2, I2, st2, fun b hb => (f2 b hb).1, w0⟩
  rintro n s3 ⟨i, σ3, H3, I3, st3, fr3, w3⟩
  rcases turn i n σ3 H3 w3 with ⟨stop, qn⟩ | ⟨go, N, hN, step⟩
  · refine wpAny_passesOwn hp (thn (T.done X rfl rfl rfl hc i pins s3 σ3 H3 X.xe I3 (stat fr3) st3 stop) fun r s4 ⟨hr, I4⟩ => ?_)
    subst hr
    exact wpAny_execs_nil ⟨σ3, H3, I4, qn⟩
  · refine wpAny_passesOwn hp (thn (T.item X rfl rfl rfl hc i pins s3 σ3 H3 X.xe I3 (stat fr3) st3 go) fun r s4 ⟨u, hr, h4⟩ => ?_)
    subst hr
    refine wpAny_passesOwn hp (thn h4 fun _ s5 ⟨x, H5, I5, r5, y5, st5, fr5⟩ => ?_)
    have I5' := I5.pinned (stat fr5) (T.obj _ _ st5)
    refine wpAny_passesOwn hp (thn (hg _ s5 σ3 H5 x u _ I5' r5 (step x H5 y5)) fun _ s6 ⟨σ6, H6, I6, q6⟩ => ?_)
    refine wpAny_passesOwn hp (thn (hb _ s6 σ6 H6 _ I6 q6) fun f s7 q7 => ?_)
    have again : ∀ {σ7 : St} {H7 : Hp}, Inv X (pins ++ pinsAt fp s5.heap) σ7 H7 s7 → N σ7 H7 → ∃ m, m < n ∧ ∃ i σ' H', Inv X pins σ' H' s7 ∧ tn i s7.heap ∧ (∀ b ∈ fp, H' b = none) ∧ W i m σ' H' := fun {σ7 H7} I7 n7 => by
      obtain ⟨m', hm, w7⟩ := hN σ7 H7 n7
      refine ⟨m', hm, i + 1, σ7, H7, I7.unpinned, T.keep _ _ _ st5 fun b hb o e => (I7.pin (b, o) (List.mem_append_right _ (List.mem_append_right _ (mem_pinsAt hb e)))).1, fun b hb => ?_, w7⟩
      obtain ⟨o, e, d⟩ := T.obj _ _ st5 b hb
      exact (I7.pin (b, o) (List.mem_append_right _ (List.mem_append_right _ (mem_pinsAt hb e)))).2.1
    cases f with
    | next => obtain ⟨σ7, H7, I7, n7⟩ := q7; exact again I7 n7
    | cont => obtain ⟨σ7, H7, I7, n7⟩ := q7; exact again I7 n7
    | brk => obtain ⟨σ7, H7, I7, q7⟩ := q7; exact ⟨σ7, H7, I7.unpinned, q7⟩
    | ret v => obtain ⟨x7, σ7, H7, I7, r7, q7⟩ := q7; exact ⟨x7, σ7, H7, I7.unpinned, r7, q7⟩
end
theorem for_list {K : PySem.W.Frag} {a : Addr} {xs : List V} {g : TG} {tb : TS} {D : Ends} {σ : St} {H : Hp} (Pv : Nat → St → Hp → Prop) (h0 : Pv 0 σ H) (hl : ∀ i σ H, i ≤ xs.length → Pv i σ H → SqL K H a xs)
    (hs : ∀ i x σ H, xs[i]? = some x → Pv i σ H → g x σ H fun σ2 H2 => tb { D with nx := Pv (i + 1), ct := Pv (i + 1), bk := D.nx } σ2 H2) (hd : ∀ σ H, Pv xs.length σ H → D.nx σ H) :
    ∃ W : Nat → Nat → St → Hp → Prop, (∃ m, W 0 m σ H) ∧ ∀ i m σ H, W i m σ H →
      ((Itl K a).stop i H ∧ D.nx σ H) ∨ ((Itl K a).go i H ∧ ∃ N : St → Hp → Prop, (∀ σ' H', N σ' H' → ∃ m', m' < m ∧ W (i + 1) m' σ' H') ∧ ∀ x H', (Itl K a).yld i H x H' → g x σ H' fun σ2 H2 => tb { D with nx := N, ct := N, bk := D.nx } σ2 H2) := by
  refine ⟨fun i m σ H => m = xs.length - i ∧ i ≤ xs.length ∧ Pv i σ H, ⟨xs.length, by simp, Nat.zero_le _, h0⟩, ?_⟩
  rintro i m σ H ⟨rfl, hi, p⟩
  have q := hl i σ H hi p
  by_cases hlt : i < xs.length
  · refine .inr ⟨⟨xs, xs[i], q, by simp [hlt]⟩, Pv (i + 1), fun σ' H' p' => ⟨xs.length - (i + 1), by omega, rfl, hlt, p'⟩, fun x H' y => ?_⟩
    obtain ⟨e, y⟩ := y
    subst e
    exact hs i x σ _ (y xs q) p
  · have e : i = xs.length := by omega
    subst e
    exact .inl ⟨⟨xs, q, Nat.le_refl _⟩, hd σ H p⟩
theorem for_range {lo : Int} {n : Nat} {g : TG} {tb : TS} {D : Ends} {σ : St} {H : Hp} (Pv : Nat → St → Hp → Prop) (h0 : Pv 0 σ H)
    (hs : ∀ i σ H, i < n → Pv i σ H → g (.int (lo + i)) σ H fun σ2 H2 => tb { D with nx := Pv (i + 1), ct := Pv (i + 1), bk := D.nx } σ2 H2) (hd : ∀ σ H, Pv n σ H → D.nx σ H) :
    ∃ W : Nat → Nat → St → Hp → Prop, (∃ m, W 0 m σ H) ∧ ∀ i m σ H, W i m σ H →
      ((Itr lo n).stop i H ∧ D.nx σ H) ∨ ((Itr lo n).go i H ∧ ∃ N : St → Hp → Prop, (∀ σ' H', N σ' H' → ∃ m', m' < m ∧ W (i + 1) m' σ' H') ∧ ∀ x H', (Itr lo n).yld i H x H' → g x σ H' fun σ2 H2 => tb { D with nx := N, ct := N, bk := D.nx } σ2 H2) := by
  refine ⟨fun i m σ H => m = n - i ∧ i ≤ n ∧ Pv i σ H, ⟨n, by simp, Nat.zero_le _, h0⟩, ?_⟩
  rintro i m σ H ⟨rfl, hi, p⟩
  by_cases hlt : i < n
  · refine .inr ⟨hlt, Pv (i + 1), fun σ' H' p' => ⟨n - (i + 1), by omega, rfl, hlt, p'⟩, fun x H' y => ?_⟩
    obtain ⟨e, y⟩ := y
    subst e y
    exact hs i σ _ hlt p
  · have e : i = n := by omega
    subst e
    exact .inl ⟨Nat.le_refl _, hd σ H p⟩
end L2
namespace L2
open PySem PySem.Spec PyProof.Rows
abbrev R2 := V → V → Hp → VK → Prop
def OpR (X : Cx) (f : Value → Value → Sem Value) (r : R2) : Prop :=
  ∀ (pins : List (Addr × Obj)) (s : Shared) (σ : St) (H : Hp) (x y : V) (v u : Value) (Q : VK), Inv X pins σ H s → RelV x v → RelV y u → r x y H Q →
    wpAny (model X.prog X.w) X.A (f v u) (EP X pins σ Q) X.xe s
def UnR (X : Cx) (f : Value → Sem Value) (r : V → Hp → VK → Prop) : Prop :=
  ∀ (pins : List (Addr × Obj)) (s : Shared) (σ : St) (H : Hp) (x : V) (v : Value) (Q : VK), Inv X pins σ H s → RelV x v → r x H Q →
    wpAny (model X.prog X.w) X.A (f v) (EP X pins σ Q) X.xe s
def CallR (X : Cx) (f : Value) (r : List V → Hp → VK → Prop) : Prop :=
  ∀ (pins : List (Addr × Obj)) (s : Shared) (σ : St) (H : Hp) (xs : List V) (us : List Value) (Q : VK), Inv X pins σ H s → Vals xs us → r xs H Q →
    wpAny (model X.prog X.w) X.A (call f us) (EP X pins σ Q) X.xe s
def tOp (r : R2) (ta tb : TE) : TE := fun σ H Q => ta σ H fun x H1 => tb σ H1 fun y H2 => r x y H2 Q
def tUn (r : V → Hp → VK → Prop) (ta : TE) : TE := fun σ H Q => ta σ H fun x H1 => r x H1 Q
def rI (C : Int → Int → Prop) (g : Int → Int → V) : R2 := fun x y H Q => ∃ i j, x = .int i ∧ y = .int j ∧ C i j ∧ Q (g i j) H
def rI0 (g : Int → Int → V) : R2 := fun x y H Q => ∃ i j, x = .int i ∧ y = .int j ∧ Q (g i j) H
def rU (g : Int → V) : V → Hp → VK → Prop := fun x H Q => ∃ i, x = .int i ∧ Q (g i) H
section
variable {X : Cx} {a b c : Expr} {ta tb tc : TE} {pos : Pos}
theorem binT (ha : PE X a ta) (hb : PE X b tb) {pins : List (Addr × Obj)} {s : Shared} {σ : St} {H : Hp} {R : V → V → Hp → Prop} (I : Inv X pins σ H s)
    (h : ta σ H fun x H1 => tb σ H1 fun y H2 => R x y H2) {Q : Value → Shared → Prop} {f : Value → Value → Sem Value}
    (hf : ∀ v u s2 x y H2, Inv X pins σ H2 s2 → RelV x v → RelV y u → R x y H2 → wpAny (model X.prog X.w) X.A (f v u) Q X.xe s2) :
    wpAny (model X.prog X.w) X.A (eval a X.env) (fun v s₁ => wpAny (model X.prog X.w) X.A (eval b X.env) (fun u s₂ => wpAny (model X.prog X.w) X.A (f v u) Q X.xe s₂) X.xe s₁) X.xe s := by
  refine thn (ha pins s σ H _ I h) fun v s1 ⟨x, H1, I1, r1, q1⟩ => ?_
  refine thn (hb pins s1 σ H1 _ I1 q1) fun u s2 ⟨y, H2, I2, r2, q2⟩ => ?_
  exact hf v u s2 x y H2 I2 r1 r2 q2
theorem pe_op {op : Operator} {r : R2} (ho : OpR X (binaryOp op) r) (ha : PE X a ta) (hb : PE X b tb) : PE X (.BinOp a op b pos) (tOp r ta tb) := by
  intro pins s σ H Q I h
  exact wpAny_BinOp (binT ha hb I h fun v u s2 x y H2 I2 rx ry q => ho pins s2 σ H2 x y v u Q I2 rx ry q)
theorem pe_un {op : UnaryOp} {r : V → Hp → VK → Prop} (ho : UnR X (unaryOp op) r) (ha : PE X a ta) : PE X (.UnaryOp op a pos) (tUn r ta) := by
  intro pins s σ H Q I h
  exact UnaryOp_ (thn (ha pins s σ H _ I h) fun v s1 ⟨x, H1, I1, r1, q1⟩ => ho pins s1 σ H1 x v Q I1 r1 q1)
theorem opI {f : Value → Value → Sem Value} {C : Int → Int → Prop} {g : Int → Int → Int}
    (rule : ∀ (i j : Int) (t u : Tok) (s : Shared) (Q : Value → Shared → Prop) (E : Value → Shared → Prop), C i j → Q (.int (g i j) s.toks) { s with toks := s.toks + 1 } → wpAny (model X.prog X.w) X.A (f (.int i t) (.int j u)) Q E s) :
    OpR X f (rI C fun i j => .int (g i j)) := by
  intro pins s σ H x y v u Q I rx ry h
  obtain ⟨i, j, rfl, rfl, hc, q⟩ := h
  obtain ⟨t, rfl⟩ := rx
  obtain ⟨t', rfl⟩ := ry
  exact rule i j t t' s _ _ hc ⟨.int (g i j), H, I.tok _, ⟨_, rfl⟩, q⟩
theorem opI0 {f : Value → Value → Sem Value} {g : Int → Int → Int}
    (rule : ∀ (i j : Int) (t u : Tok) (s : Shared) (Q : Value → Shared → Prop) (E : Value → Shared → Prop), Q (.int (g i j) s.toks) { s with toks := s.toks + 1 } → wpAny (model X.prog X.w) X.A (f (.int i t) (.int j u)) Q E s) :
    OpR X f (rI0 fun i j => .int (g i j)) := by
  intro pins s σ H x y v u Q I rx ry h
  obtain ⟨i, j, rfl, rfl, q⟩ := h
  obtain ⟨t, rfl⟩ := rx
  obtain ⟨t', rfl⟩ := ry
  exact rule i j t t' s _ _ ⟨.int (g i j), H, I.tok _, ⟨_, rfl⟩, q⟩
theorem opB0 {f : Value → Value → Sem Value} {g : Int → Int → Bool}
    (rule : ∀ (i j : Int) (t u : Tok) (s : Shared) (Q : Value → Shared → Prop) (E : Value → Shared → Prop), Q (.bool (g i j)) s → wpAny (model X.prog X.w) X.A (f (.int i t) (.int j u)) Q E s) :
    OpR X f (rI0 fun i j => .bl (g i j)) := by
  intro pins s σ H x y v u Q I rx ry h
  obtain ⟨i, j, rfl, rfl, q⟩ := h
  obtain ⟨t, rfl⟩ := rx
  obtain ⟨t', rfl⟩ := ry
  exact rule i j t t' s _ _ ⟨.bl (g i j), H, I, rfl, q⟩
def CPow (i j : Int) : Prop := 0 ≤ j ∧ j ≤ 1000000 ∧ i.natAbs < 2 ^ 64
def CMul (i j : Int) : Prop := (-(2 ^ 64) < i ∧ i < 2 ^ 64) ∨ (-(2 ^ 64) < j ∧ j < 2 ^ 64)
theorem CMul.ok {i j : Int} (h : CMul i j) : IntMulOk i j := by
  rcases h with ⟨h1, h2⟩ | ⟨h1, h2⟩
  · exact .of_left (intBits_le_64 h1 h2)
  · exact .of_right (intBits_le_64 h1 h2)
theorem op_add : OpR X (binaryOp .Add) (rI0 fun i j => .int (i + j)) := opI0 fun _ _ _ _ _ _ _ q => add_int q
theorem op_sub : OpR X (binaryOp .Sub) (rI0 fun i j => .int (i - j)) := opI0 fun _ _ _ _ _ _ _ q => sub_int q
theorem op_mul : OpR X (binaryOp .Mult) (rI CMul fun i j => .int (i * j)) := opI fun _ _ _ _ _ _ _ hc q => mul_int q hc.ok
theorem op_mod : OpR X (binaryOp .Mod) (rI (fun _ j => 0 < j) fun i j => .int (i % j)) := opI fun i j _ _ _ _ _ hc q => by
  have h1 : (0 : Int) < j := hc
  exact mod_int' (by omega) (by rw [Int.fmod_eq_emod_of_nonneg i (by omega)]; exact q)
theorem unI {f : Value → Sem Value} {g : Int → Int}
    (rule : ∀ (i : Int) (t : Tok) (s : Shared) (Q : Value → Shared → Prop) (E : Value → Shared → Prop), Q (.int (g i) s.toks) { s with toks := s.toks + 1 } → wpAny (model X.prog X.w) X.A (f (.int i t)) Q E s) :
    UnR X f (rU fun i => .int (g i)) := by
  intro pins s σ H x v Q I rx h
  obtain ⟨i, rfl, q⟩ := h
  obtain ⟨t, rfl⟩ := rx
  exact rule i t s _ _ ⟨.int (g i), H, I.tok _, ⟨_, rfl⟩, q⟩
theorem un_neg : UnR X (unaryOp .USub) (rU fun i => .int (-i)) := unI fun _ _ _ _ _ q => neg_int q
end
def scal : V → V → Bool
  | .non, .non => true | .non, .int _ => true | .int _, .non => true | .non, .bl _ => true | .bl _, .non => true | .non, .str _ => true | .str _, .non => true
  | .int _, .int _ => true | .bl _, .bl _ => true | .str _, .str _ => true | .byt _, .byt _ => true
  | .int _, .str _ => true | .str _, .int _ => true | .bl _, .str _ => true | .str _, .bl _ => true
  | _, _ => false
def rEq : R2 := fun x y H Q => scal x y = true ∧ Q (.bl (decide (x = y))) H
def rNe : R2 := fun x y H Q => scal x y = true ∧ Q (.bl (!decide (x = y))) H
theorem dec_int {i j : Int} : decide (V.int i = V.int j) = (i == j) := by
  rw [Bool.eq_iff_iff]
  simp
theorem dec_bl {i j : Bool} : decide (V.bl i = V.bl j) = (i == j) := by
  rw [Bool.eq_iff_iff]
  simp
theorem dec_str {i j : Str} : decide (V.str i = V.str j) = (i == j) := by
  rw [Bool.eq_iff_iff]
  simp
theorem dec_byt {i j : Array UInt8} : decide (V.byt i = V.byt j) = (i.toList == j.toList) := by
  rw [Bool.eq_iff_iff]
  cases i
  cases j
  simp
section
variable {X : Cx} {a b c : Expr} {ta tb tc : TE} {pos : Pos}
theorem fin_bl {pins : List (Addr × Obj)} {σ : St} {H : Hp} {s : Shared} {Q : VK} {k k' : Bool} (I : Inv X pins σ H s) (q : Q (.bl k) H) (e : k = k') : EP X pins σ Q (.bool k') s := by
  subst e
  exact ⟨.bl k, H, I, rfl, q⟩
theorem op_eq : OpR X (compareOp .Eq) rEq := by
  intro pins s σ H x y v u Q I rx ry h
  obtain ⟨hs, q⟩ := h
  cases x with
  | non =>
    cases rx
    cases y with
    | non => cases ry; exact PySem.EqNone.eq_none_none (fin_bl I q (by simp))
    | bl j => cases ry; exact PySem.EqNone.eq_none_bool (fin_bl I q (by simp))
    | int j => obtain ⟨t', rfl⟩ := ry; exact PySem.EqNone.eq_none_int (fin_bl I q (by simp))
    | str j => obtain ⟨t', rfl⟩ := ry; exact PySem.EqNone.eq_none_str (fin_bl I q (by simp))
    | _ => exact absurd (show false = true from hs) Bool.false_ne_true
  | bl i =>
    cases rx
    cases y with
    | non => cases ry; exact PySem.EqNone.eq_bool_none (fin_bl I q (by simp))
    | bl j => cases ry; exact eq_bool (fin_bl I q dec_bl)
    | str j => obtain ⟨t', rfl⟩ := ry; exact PySem.EqMixed.eq_bool_str (fin_bl I q (by simp))
    | _ => exact absurd (show false = true from hs) Bool.false_ne_true
  | int i =>
    obtain ⟨t, rfl⟩ := rx
    cases y with
    | non => cases ry; exact PySem.EqNone.eq_int_none (fin_bl I q (by simp))
    | int j => obtain ⟨t', rfl⟩ := ry; exact eq_int (fin_bl I q dec_int)
    | str j => obtain ⟨t', rfl⟩ := ry; exact PySem.EqMixed.eq_int_str (fin_bl I q (by simp))
    | _ => exact absurd (show false = true from hs) Bool.false_ne_true
  | str i =>
    obtain ⟨t, rfl⟩ := rx
    cases y with
    | non => cases ry; exact PySem.EqNone.eq_str_none (fin_bl I q (by simp))
    | bl j => cases ry; exact PySem.EqMixed.eq_str_bool (fin_bl I q (by simp))
    | int j => obtain ⟨t', rfl⟩ := ry; exact PySem.EqMixed.eq_str_int (fin_bl I q (by simp))
    | str j => obtain ⟨t', rfl⟩ := ry; exact eq_str (fin_bl I q dec_str)
    | _ => exact absurd (show false = true from hs) Bool.false_ne_true
  | byt i =>
    obtain ⟨t, rfl⟩ := rx
    cases y with
    | byt j => obtain ⟨t', rfl⟩ := ry; exact PySem.W.eq_bytes (fin_bl I q dec_byt)
    | _ => exact absurd (show false = true from hs) Bool.false_ne_true
  | _ => cases y <;> exact absurd (show false = true from hs) Bool.false_ne_true
theorem op_lt : OpR X (compareOp .Lt) (rI0 fun i j => .bl (decide (i < j))) := opB0 fun _ _ _ _ _ _ _ q => lt_int q
theorem OpR.or {f : Value → Value → Sem Value} {r r' : R2} (h : OpR X f r) (h' : OpR X f r') : OpR X f (fun x y H Q => r x y H Q ∨ r' x y H Q) := by
  intro pins s σ H x y v u Q I rx ry q
  rcases q with q | q
  · exact h pins s σ H x y v u Q I rx ry q
  · exact h' pins s σ H x y v u Q I rx ry q
theorem nomark (b : Expr) {op : CmpOp} (h : op ≠ .In := by decide) (h2 : op ≠ .NotIn := by decide) : behindInMarks op b = false := by
  have e1 : (op == CmpOp.In) = false := by cases op <;> first | rfl | exact absurd rfl h
  have e2 : (op == CmpOp.NotIn) = false := by cases op <;> first | rfl | exact absurd rfl h2
  cases b <;> simp [behindInMarks, e1, e2]
theorem pe_cmpR {op : CmpOp} {r : R2} (ho : OpR X (compareOp op) r) (ha : PE X a ta) (hb : PE X b tb) (hm : behindInMarks op b = false) : PE X (.Compare a [op] [b] pos) (tOp r ta tb) := by
  intro pins s σ H Q I h
  exact wpAny_Compare1 (binT ha hb I h fun v u s2 x y H2 I2 rx ry q => ho pins s2 σ H2 x y v u Q I2 rx ry q) hm
def tTest (t : TE) : TT := fun σ H Q => t σ H fun x H' => ∃ k, x = .bl k ∧ Q k H'
theorem pt_cmpR {op : CmpOp} {r : R2} (ho : OpR X (compareOp op) r) (ha : PE X a ta) (hb : PE X b tb) (hm : behindInMarks op b = false) : PT X (.Compare a [op] [b] pos) (tTest (tOp r ta tb)) := by
  intro pins s σ H Q I h
  refine wpAny_isTrue_Compare1 (thn (ha pins s σ H _ I h) fun v s1 ⟨x, H1, I1, r1, q1⟩ => thn (hb pins s1 σ H1 _ I1 q1) fun u s2 ⟨y, H2, I2, r2, q2⟩ =>
    thn (ho pins s2 σ H2 x y v u _ I2 r1 r2 q2) fun c s3 ⟨z, H3, I3, r3, k, e, q3⟩ => ?_) hm
  subst e
  cases r3
  exact wpAny_truthy_bool ⟨H3, I3, q3⟩
theorem line63 : (sizeLine : Nat) < 2 ^ 63 := by rw [sizeLine_eq]; decide
theorem vals1 {x : V} {us : List Value} (r : Vals [x] us) : ∃ u, us = [u] ∧ RelV x u := by
  cases r with
  | cons r1 r2 => cases r2; exact ⟨_, rfl, r1⟩
theorem vals2 {x y : V} {us : List Value} (r : Vals [x, y] us) : ∃ u w', us = [u, w'] ∧ RelV x u ∧ RelV y w' := by
  cases r with
  | cons r1 r2 =>
    cases r2 with
    | cons r3 r4 => cases r4; exact ⟨_, _, rfl, r1, r3⟩
end
end L2
namespace L2
open PySem PySem.Spec PyProof.Rows
structure ObjM (h : Heap) (x dx C : Addr) (mA : Str → Option Value) : Prop where
  obj : h.get? x = some (PySem.W.instObj C dx)
  ns : h.Ns1 dx mA
  ne : dx ≠ x
section
variable {prog : Program} {w : World} {A : Around} {E : Value → Shared → Prop} {s : Shared} {K : PySem.W.Frag} {x dx C f : Addr} {mA : Str → Option Value} {name : Str} {v : Value}
end
section
variable {P : Program} {w : World} {H H' : Hp} {h h' : Heap} {a C dx : Addr} {fs fs' : List (Str × V)}
end
structure Cls (K : PySem.W.Frag) (C : Addr) : Prop where
  pg : PySem.W.plainGet K C Str.empty = true
  hd : PySem.W.hasDictIn K C = true
  po : PySem.W.plainOver K C = true
  sa : PySem.W.findIn K (.ref C) "__setattr__" = some (some (.builtin "object.__setattr__"))
theorem Cls.get {K : PySem.W.Frag} {C : Addr} (c : Cls K C) (f : Str) : PySem.W.plainGet K C f = true := c.pg
structure Con (K : PySem.W.Frag) (C : Addr) (f : Str) (v : V) (u : Value) : Prop where
  at_ : PySem.W.findIn K (.ref C) f = some (some u)
  rel : RelV v u
  get : PySem.W.specialIn K u "__get__" = some none
  cp : PySem.W.copiedNames.contains f = false
structure Meth (K : PySem.W.Frag) (C : Addr) (m : Str) (f : Addr) : Prop where
  at_ : PySem.W.findIn K (.ref C) m = some (some (.ref f))
  fn : PySem.W.isFn K (.ref f) = true
  kp : PySem.W.keepIn K (.ref f) = true
section
variable {X : Cx} {pins : List (Addr × Obj)} {σ : St} {H : Hp} {s : Shared} {a C dx : Addr} {fs : List (Str × V)} {f : Str} {v : V} {A : Around} {E : Value → Shared → Prop}
end
section
variable {X : Cx} {o e value : Expr} {f : Str} {pos pos' tpos : Pos} {ta tv : TE}
end
section
variable {X : Cx} {pins : List (Addr × Obj)} {σ : St} {H : Hp} {s : Shared} {A : Around} {E : Value → Shared → Prop} {Q : Value → Shared → Prop} {c : Value} {b : Bool}
inductive TyOf (K : PySem.W.Frag) (H : Hp) : V → Value → Prop where
  | non : TyOf K H .non (.type "NoneType")
  | bl (x : Bool) : TyOf K H (.bl x) (.type "bool")
  | int (i : Int) : TyOf K H (.int i) (.type "int")
  | str (x : Str) : TyOf K H (.str x) (.type "str")
  | flt (x : UInt64) : TyOf K H (.flt x) (.type "float")
  | lst {a : Addr} {xs : List V} (e : H a = some (.lst xs)) : TyOf K H (.ref a) (.type "list")
  | frz {a : Addr} {o : Obj} {xs : List V} (e : H a = some (.frz o (.lst xs))) : TyOf K H (.ref a) (.type "list")
  | tup {a : Addr} {xs : List V} (e : H a = some (.tup xs)) : TyOf K H (.ref a) (.type "tuple")
  | dK {a : Addr} {kvs : List (Key × V)} (e : H a = some (.dK kvs)) : TyOf K H (.ref a) (.type "dict")
  | dT {a : Addr} {kvs : List (List Key × V)} (e : H a = some (.dT kvs)) : TyOf K H (.ref a) (.type "dict")
  | ins {a C dx : Addr} {fs : List (Str × V)} (e : H a = some (.ins C dx fs)) (cl : Cls K C) (ha : PySem.W.findIn K (.ref C) "__class__" = some (some (.builtin "object.__class__")))
      (hn : PySem.W.specialIn K (.builtin "object.__class__") "__get__" = some (some (.builtin "getset_descriptor.__get__"))) (htk : PySem.W.takesIn K (.builtin "object.__class__") = some true)
      (hm : PySem.W.mroIn K C (.type "object") = some true) : TyOf K H (.ref a) (.ref C)
end
end L2
namespace L2
open PySem PySem.Spec PyProof.Rows
structure Room (k : Nat) (A : Around) : Prop where
  hd : A.handled = none
  dp : A.depth + 3 * k + 5 < recursionLimit
  un : A.units + 16 * k + 200 < cLine
theorem Room.mono {j k : Nat} {A : Around} (r : Room k A) (h : j ≤ k) : Room j A := ⟨r.hd, by have := r.dp; omega, by have := r.un; omega⟩
theorem Room.deeper {k : Nat} {A : Around} (r : Room (k + 1) A) (env : Env) : Room k (A.deeper env) :=
  ⟨r.hd, by have := r.dp; show A.depth + 1 + 3 * k + 5 < _; omega, by have := r.un; show A.units + 3 + 16 * k + 200 < _; omega⟩
theorem Room.in1 {k : Nat} {A : Around} (r : Room (k + 1) A) : Room k A.in1 :=
  ⟨r.hd, by have := r.dp; show A.depth + 3 * k + 5 < _; omega, by have := r.un; show A.units + 1 + 16 * k + 200 < _; omega⟩
theorem Room.depth {k : Nat} {A : Around} (r : Room k A) : A.depth < recursionLimit := by have := r.dp; omega
theorem Room.units {k : Nat} {A : Around} (r : Room k A) : A.units + 64 < cLine := by have := r.un; omega
def tNil : TA := fun _ H Q => Q [] H
def tCons (ta : TE) (tr : TA) : TA := fun σ H Q => ta σ H fun x H1 => tr σ H1 fun xs H2 => Q (x :: xs) H2
section
variable {X : Cx} {e : Expr} {es : List Expr} {te : TE} {t : TA} {pos : Pos}
theorem pa_nil : PA X [] tNil := fun _ _ _ _ H Q I h => Calls.spliced_nil ⟨[], H, I, .nil, h⟩
theorem pa_cons (ha : PE X e te) (hr : PA X es t) (hs : starEach (e :: es) X.env = (false, eval e X.env) :: starEach es X.env := by rfl) : PA X (e :: es) (tCons te t) := by
  intro pos pins s σ H Q I h
  rw [hs]
  show wpAny _ _ (spliced ((false, eval e X.env) :: backTo pos (starEach es X.env))) _ _ s
  refine Calls.spliced_cons (thn (ha pins s σ H _ I h) fun u s1 ⟨x, H1, I1, r1, q1⟩ => ?_)
  exact thn (hr pos pins s1 σ H1 _ I1 q1) fun us s2 ⟨xs, H2, I2, r2, q2⟩ => ⟨x :: xs, H2, I2, .cons r1 r2, q2⟩
def tTup (t : TA) : TE := fun σ H Q => t σ H fun xs H1 => xs.length ≤ sizeLine ∧ ∀ p, H1 p = none → Q (.ref p) (upd H1 p (.tup xs))
def tLst (t : TA) : TE := fun σ H Q => t σ H fun xs H1 => xs.length ≤ sizeLine ∧ ∀ p, H1 p = none → Q (.ref p) (upd H1 p (.lst xs))
theorem pe_tup {x1} (h : PA X es t) : PE X (.Tuple es x1 pos) (tTup t) := by
  intro pins s σ H Q I hq
  refine wpAny_Tuple_spliced (thn (h pos pins s σ H _ I hq) fun us s1 ⟨xs, H1, I1, r, z, q⟩ => ⟨by rw [← r.length]; exact z, ?_⟩)
  have hf : H1 s1.heap.objs.size = none := I1.hok.fresh (Nat.le_refl _)
  refine ⟨.ref s1.heap.objs.size, upd H1 s1.heap.objs.size (.tup xs), I1.laid (t' := s1.toks) (fun b u e => Heap.get?_push_of_some _ e) (Nat.le_refl _) ?_, rfl, q _ hf⟩
  exact ⟨z, us, r, ⟨_, Heap.get?_push_size _ rfl, rfl, _, rfl⟩⟩
theorem pe_lst (h : PA X es t) : PE X (.List es pos) (tLst t) := by
  intro pins s σ H Q I hq
  refine wpAny_List_spliced (thn (h pos pins s σ H _ I hq) fun us s1 ⟨xs, H1, I1, r, z, q⟩ => ⟨by rw [← r.length]; exact z, ?_⟩)
  have hf : H1 s1.heap.objs.size = none := I1.hok.fresh (Nat.le_refl _)
  refine ⟨.ref s1.heap.objs.size, upd H1 s1.heap.objs.size (.lst xs), I1.laid (t' := s1.toks) (fun b u e => Heap.get?_push_of_some _ e) (Nat.le_refl _) ?_, rfl, q _ hf⟩
  exact ⟨z, us, 0, r, Heap.get?_push_size _ rfl⟩
end
abbrev Sp := List V → Hp → VK → XK → Prop
abbrev CXT := List Env → Hp → Shared → XK → Value → Shared → Prop
structure Env0 (P : Program) (w : World) (K : PySem.W.Frag) (mg : Str → Option Value) (base : Heap) (A : Around) (outer : List Env) (s : Shared) (H : Hp) : Prop where
  frames : A.frames = some outer
  mod : Mod K mg base
  bs : ∀ b o, base.get? b = some o → s.heap.get? b = some o ∧ H b = none
  bsz : base.objs.size ≤ s.heap.objs.size
  funs : s.heap.FunFrames base outer
  frf : ∀ b ∈ frs outer, H b = none
  hok : HOk P w H s.heap
  bare : AllBare s.gens
def CE (outer : List Env) (P : Program) (w : World) (H : Hp) (s : Shared) (Q : VK) (u : Value) (s' : Shared) : Prop :=
  ∃ v H', s'.os = s.os ∧ AllBare s'.gens ∧ Un (frs outer) [] H H' s.heap s'.heap ∧ HOk P w H' s'.heap ∧ RelV v u ∧ Q v H'
def CR (CX : CXT) (outer : List Env) (P : Program) (w : World) (H : Hp) (s : Shared) (Q : VK) (E : XK) (r : Result) (s' : Shared) : Prop :=
  match r with
  | .ok (.ret u) => CE outer P w H s Q u s'
  | .ok _ => False
  | .error e => CX outer H s E e s'
structure FnOk (P : Program) (w : World) (K : PySem.W.Frag) (mg : Str → Option Value) (base : Heap) (CX : CXT) (k : Nat) (f : Addr) (fd : FuncData) (ps : List Str) (sp : Sp) : Prop where
  len : ∀ vs H Q E, sp vs H Q E → vs.length = ps.length
  run : ∀ (A : Around) (outer : List Env) (s : Shared) (H : Hp) (args : Args) (us : List Value) (vs : List V) (Q : VK) (E : XK), Room k A → Env0 P w K mg base A outer s H → BindsTo s fd args (ps.zip us) → Vals vs us → sp vs H Q E →
    codeAny (model P w) A (.call (.ref f) args) (CR CX outer P w H s Q E) s
theorem FnOk.mono {P : Program} {w : World} {K : PySem.W.Frag} {mg : Str → Option Value} {base : Heap} {CX : CXT} {j k : Nat} {f : Addr} {fd : FuncData} {ps : List Str} {sp : Sp} (F : FnOk P w K mg base CX j f fd ps sp) (h : j ≤ k) :
    FnOk P w K mg base CX k f fd ps sp := ⟨F.len, fun A outer s H args us vs Q E hr => F.run A outer s H args us vs Q E (hr.mono h)⟩
theorem FnOk.imp {P : Program} {w : World} {K : PySem.W.Frag} {mg : Str → Option Value} {base : Heap} {CX : CXT} {k : Nat} {f : Addr} {fd : FuncData} {ps : List Str} {sp sp' : Sp} (F : FnOk P w K mg base CX k f fd ps sp)
    (h : ∀ vs H Q E, sp' vs H Q E → sp vs H Q E) : FnOk P w K mg base CX k f fd ps sp' :=
  ⟨fun vs H Q E q => F.len vs H Q E (h _ _ _ _ q), fun A outer s H args us vs Q E hr he hb hv hs => F.run A outer s H args us vs Q E hr he hb hv (h _ _ _ _ hs)⟩
theorem Env0.in1 {P : Program} {w : World} {K : PySem.W.Frag} {mg : Str → Option Value} {base : Heap} {A : Around} {outer : List Env} {s : Shared} {H : Hp} (e : Env0 P w K mg base A outer s H) :
    Env0 P w K mg base A.in1 outer s H := ⟨e.frames, e.mod, e.bs, e.bsz, e.funs, e.frf, e.hok, e.bare⟩
section
variable {X : Cx} {pins : List (Addr × Obj)} {σ : St} {H : Hp} {s s' : Shared}
theorem Inv.env0 (I : Inv X pins σ H s) : Env0 X.prog X.w X.K X.mg X.base X.A X.stack s H :=
  ⟨I.ok.frames, I.ok.mod, I.bs, Nat.le_trans I.ok.bsz I.sz, I.stack, I.stkFree, I.hok, I.bare⟩
theorem Inv.after {Q : VK} {u : Value} (I : Inv X pins σ H s) (h : CE X.stack X.prog X.w H s Q u s') : EP X pins σ Q u s' := by
  obtain ⟨v, H', os, bare, un, hok, r, q⟩ := h
  obtain ⟨hh, g, d, t, os'⟩ := s'
  obtain rfl : os' = s.os := os
  exact ⟨v, H', I.call (h' := hh) (g' := g) (d' := d) (t' := t) (ch := []) un hok bare (fun b z => absurd z (by simp)), r, q⟩
end
def tCall (sp : Sp) (dvs : List V) (E : XK) (t : TA) : TE := fun σ H Q => t σ H fun vs H1 => sp (vs ++ dvs) H1 Q E
def Binds (K : PySem.W.Frag) (fd : FuncData) (ps : List Str) (ds : List Value) : Prop :=
  ∀ (s : Shared) (us : List Value), K.In s.heap → (us ++ ds).length = ps.length → BindsTo s fd ⟨us, []⟩ (ps.zip (us ++ ds))
theorem Binds.all {K : PySem.W.Frag} {fd : FuncData} {ps : List Str} (h : ∀ us : List Value, us.length = ps.length → bindArgs fd ⟨us, []⟩ = pure (ps.zip us)) : Binds K fd ps [] := fun s us _ hl => by
  rw [List.append_nil] at hl ⊢
  exact .of_eq (h us hl)
def Passes (CX : CXT) (X : Cx) (E : XK) : Prop := ∀ (pins : List (Addr × Obj)) (σ : St) (H : Hp) (s : Shared) (e : Value) (s' : Shared), Inv X pins σ H s → CX X.stack H s E e s' → X.xe e s'
section
variable {X : Cx} {CX : CXT} {k : Nat} {f C : Addr} {fd : FuncData} {ps : List Str} {sp : Sp} {dvs : List V} {ds : List Value} {E : XK} {x m : Str} {p pos apos : Pos} {e o : Expr} {es : List Expr} {ta : TE} {t : TA}
theorem run_fn {pins : List (Addr × Obj)} {σ : St} {H : Hp} {s : Shared} {Q : VK} {us : List Value} {vs : List V} (F : FnOk X.prog X.w X.K X.mg X.base CX k f fd ps sp) (hr : Room k X.A) (hb : Binds X.K fd ps ds) (hd : Vals dvs ds) (hx : Passes CX X E)
    (I : Inv X pins σ H s) (r : Vals vs us) (h : sp (vs ++ dvs) H Q E) : wpAny (model X.prog X.w) X.A (call (.ref f) us) (EP X pins σ Q) X.xe s := by
  have r2 : Vals (vs ++ dvs) (us ++ ds) := r.append hd
  have hl : (us ++ ds).length = ps.length := by rw [← r2.length]; exact F.len _ _ _ _ h
  refine wpAny_call (codeAny_mono (F.run X.A X.stack s H ⟨us, []⟩ (us ++ ds) (vs ++ dvs) Q E hr I.env0 (hb s us I.kIn hl) r2 h) fun r s' hq => ?_)
  cases r with
  | error e => exact hx pins σ H s e s' I hq
  | ok fl =>
    cases fl with
    | ret u => exact I.after hq
    | next => exact False.elim hq
    | brk => exact False.elim hq
    | cont => exact False.elim hq
theorem pe_call (F : FnOk X.prog X.w X.K X.mg X.base CX k f fd ps sp) (hr : Room k X.A) (hg : Gl X x) (hm : X.mg x = some (.ref f)) (hk : PySem.W.keepIn X.K (.ref f) = true) (hb : Binds X.K fd ps ds) (hd : Vals dvs ds) (hx : Passes CX X E)
    (ha : PA X (e :: es) t) (hdb : (x == ("__debug__" : Str)) = false := by decide) (he : starEach (e :: es) X.env = (false, eval e X.env) :: starEach es X.env := by rfl) (hpl : (backTo pos (starEach es X.env)).any (·.1) = false := by rfl) :
    PE X (.Call (.Name x p) (e :: es) [] pos) (tCall sp dvs E t) := by
  intro pins s σ H Q I h
  refine wpAny_Call_Name_kw (ld_glob I hg hm ?_ hdb)
  refine PySem.W.callWith_K (h₀ := X.base) I.ok.mod.kin hk (thn (ha pos pins s σ H _ I h) fun us s1 ⟨vs, H1, I1, r, q⟩ => ⟨I1.kIn, ?_⟩) he hpl
  exact run_fn F hr hb hd hx I1 r q
structure Mk (K : PySem.W.Frag) (C f : Addr) : Prop where
  makes : PySem.W.makesIn K C = true
  init : PySem.W.findIn K (.ref C) "__init__" = some (some (.ref f))
  fn : PySem.W.isFn K (.ref f) = true
  kp : PySem.W.keepIn K (.ref C) = true
end
section
variable {X : Cx} {CX : CXT} {k : Nat} {f C : Addr} {fd : FuncData} {ps ks : List Str} {sp : Sp} {E : XK} {x m : Str} {p pos apos kpos : Pos} {e o : Expr} {es : List Expr} {kws : List Keyword} {te ta : TE} {t tk : TA} {nm : Option Str}
structure KBinds (K : PySem.W.Frag) (fd : FuncData) (ps ks : List Str) (g : List Value → List Value → List Value) (gV : List V → List V → List V) : Prop where
  to : ∀ (s : Shared) (us ws : List Value), K.In s.heap → (g us ws).length = ps.length → BindsTo s fd ⟨us, ks.zip ws⟩ (ps.zip (g us ws))
  rel : ∀ {vs : List V} {us : List Value} {zs : List V} {ws : List Value}, Vals vs us → Vals zs ws → Vals (gV vs zs) (g us ws)
variable {g : List Value → List Value → List Value} {gV : List V → List V → List V}
end
structure FnScope (N P : List Str) (sc : Scope) : Prop where
  kind : sc.kind = .function
  co : sc.isCoroutine = false
  gen : sc.isGenerator = false
  nd : N.Nodup
  pre : N.take P.length = P
  par : ∀ x ∈ P, sc.names.lookup x = some .local ∨ sc.names.lookup x = some .cell
  nofree : ∀ y ∈ sc.names, y.2 ≠ .free
theorem bindL_out {kindOf : Str → Option NameKind} {x : Str} : ∀ {binds : List (Str × Value)} {m : Str → Option Value}, (∀ v, (x, v) ∉ binds) → bindL kindOf binds m x = m x
  | [], _, _ => rfl
  | (n, v) :: r, m, h => by
    unfold bindL
    rw [bindL_out fun w hw => h w (List.mem_cons_of_mem _ hw)]
    split
    · have : x ≠ n := by rintro rfl; exact h v List.mem_cons_self
      simp [this]
    · rfl
theorem bindC_out {kindOf : Str → Option NameKind} {x : Str} : ∀ {binds : List (Str × Value)} {m : Str → Option Value}, (∀ v, (x, v) ∉ binds) → bindC kindOf binds m x = m x
  | [], _, _ => rfl
  | (n, v) :: r, m, h => by
    unfold bindC
    rw [bindC_out fun w hw => h w (List.mem_cons_of_mem _ hw)]
    split
    · rfl
    · have : x ≠ n := by rintro rfl; exact h v List.mem_cons_self
      simp [this]
theorem bindL_get {kindOf : Str → Option NameKind} {x : Str} {v : Value} : ∀ {P : List Str} {vs : List Value} {i : Nat} {m : Str → Option Value}, P.Nodup → P[i]? = some x → vs[i]? = some v → kindOf x = some .local →
    bindL kindOf (P.zip vs) m x = some v
  | [], _, _, _, _, h, _, _ => by simp at h
  | _ :: _, [], _, _, _, _, h, _ => by simp at h
  | p :: P, w :: vs, 0, m, nd, h1, h2, hk => by
    simp at h1 h2; subst h1; subst h2
    show bindL kindOf ((p, w) :: P.zip vs) m p = _
    unfold bindL
    rw [bindL_out fun v hv => (List.nodup_cons.mp nd).1 (List.of_mem_zip hv).1, if_pos hk]
    simp
  | p :: P, w :: vs, i + 1, m, nd, h1, h2, hk => by
    show bindL kindOf ((p, w) :: P.zip vs) m x = _
    unfold bindL
    exact bindL_get (i := i) (List.nodup_cons.mp nd).2 (by simpa using h1) (by simpa using h2) hk
theorem bindC_get {kindOf : Str → Option NameKind} {x : Str} {v : Value} : ∀ {P : List Str} {vs : List Value} {i : Nat} {m : Str → Option Value}, P.Nodup → P[i]? = some x → vs[i]? = some v → kindOf x ≠ some .local →
    bindC kindOf (P.zip vs) m x = some v
  | [], _, _, _, _, h, _, _ => by simp at h
  | _ :: _, [], _, _, _, _, h, _ => by simp at h
  | p :: P, w :: vs, 0, m, nd, h1, h2, hk => by
    simp at h1 h2; subst h1; subst h2
    show bindC kindOf ((p, w) :: P.zip vs) m p = _
    unfold bindC
    rw [bindC_out fun v hv => (List.nodup_cons.mp nd).1 (List.of_mem_zip hv).1, if_neg hk]
    simp
  | p :: P, w :: vs, i + 1, m, nd, h1, h2, hk => by
    show bindC kindOf ((p, w) :: P.zip vs) m x = _
    unfold bindC
    exact bindC_get (i := i) (List.nodup_cons.mp nd).2 (by simpa using h1) (by simpa using h2) hk
def start (N : List Str) (vs : List V) : St := vs.map some ++ List.replicate (N.length - vs.length) none
def cxOf (CX : CXT) (P : Program) (w : World) (K : PySem.W.Frag) (mg : Str → Option Value) (base : Heap) (N : List Str) (qual : Str) (scope : Scope) (f : Addr) (cd : Value) (A : Around) (outer : List Env) (s : Shared) (H : Hp) (E : XK) : Cx where
  prog := P
  w := w
  K := K
  mg := mg
  base := base
  A := A.deeper (envOfC qual scope s.heap.objs.size f cd)
  N := N
  s₀ := s
  H₀ := H
  env := envOfC qual scope s.heap.objs.size f cd
  outer := outer
  stack := envOfC qual scope s.heap.objs.size f cd :: outer
  ex := []
  calm := true
  fn := fun _ => true
  pn := []
  xe := fun e s' => wpAny (model P w) (A.deeper (envOfC qual scope s.heap.objs.size f cd)) (leaving (envOfC qual scope s.heap.objs.size f cd) e) (fun _ s'' => CX outer H s E e s'') (fun e' s'' => CX outer H s E e' s'') s'
theorem cell_has {sc : Scope} {n : Nat} {x : Str} (h : sc.names.lookup x = some .cell) : ∃ c, (cellsFrom n sc.names []).lookup x = some c := by
  have q := PySem.W.cellsFrom_some sc.names n [] (.inl h)
  exact Option.isSome_iff_exists.mp q
theorem inv_start {CX : CXT} {P : Program} {w : World} {K : PySem.W.Frag} {mg : Str → Option Value} {base : Heap} {N ps : List Str} {qual : Str} {scope : Scope} {f : Addr} {cd : Value} {A : Around} {outer : List Env} {s s1 : Shared} {H : Hp} {E : XK} {us : List Value} {vs : List V}
    (S : FnScope N ps scope) (hd : A.handled = none) (e0 : Env0 P w K mg base A outer s H) (hl : vs.length = ps.length) (r : Vals vs us)
    (x : InCallC s s.heap.objs.size (bindL (envOfC qual scope s.heap.objs.size f cd).kindOf (ps.zip us) fun _ => none) (cellsFrom (s.heap.objs.size + 1) scope.names []) (bindC (envOfC qual scope s.heap.objs.size f cd).kindOf (ps.zip us) fun _ => none) s1) :
    Inv (cxOf CX P w K mg base N qual scope f cd A outer s H E) [] (start N vs) H s1 := by
  have hpl : ps.length ≤ N.length := by have := congrArg List.length S.pre; rw [List.length_take] at this; omega
  obtain ⟨h1, tk, rfl, hk⟩ := x.done
  have noA : ∀ b : Addr, b ∉ (cxOf CX P w K mg base N qual scope f cd A outer s H E).ex := fun b z => absurd (show b ∈ ([] : List Addr) from z) (by simp)
  refine ⟨⟨e0.mod, S.kind, rfl, rfl, Nat.le_refl _, fun y z c h1 h2 => ?_, fun y hy => ?_, fun y c _ h => ?_, fun _ => hd, Around.frames_deeper e0.frames, .inr ⟨rfl, rfl⟩, fun b z => absurd z (noA b), e0.bs, e0.bsz, fun b _ _ => noA b, fun b z => absurd z (noA b), e0.funs, e0.frf⟩,
    rfl, e0.bare, Un.kept hk, ⟨_, x.toInCall.ns, fun i y v h1 h2 h3 => ?_⟩, fun y c h => ⟨_, x.cell y c h⟩, e0.hok.fresh (Nat.le_refl _), fun y c h => ?_, fun p hp => absurd (show p ∈ ([] : List (Addr × Obj)) from hp) (by simp), e0.hok.kept hk, ?_⟩
  · exact name_of_addr x.apart (PySem.mem_of_lookup h1) (PySem.mem_of_lookup h2)
  · have hy : scope.names.lookup y = some .cell ∨ scope.names.lookup y = some .free := hy
    rcases hy with hy | hy
    · exact cell_has hy
    · exact absurd rfl (S.nofree _ (PySem.mem_of_lookup hy))
  · exact Nat.le_of_lt (x.above y c (PySem.mem_of_lookup h))
  · have hi : i < vs.length := by
      unfold start at h2
      by_cases hi : i < vs.length
      · exact hi
      · rw [List.getElem?_append_right (by simpa using hi)] at h2
        rw [List.getElem?_replicate] at h2
        split at h2 <;> cases h2
    have ha : vs[i]? = some v := by
      unfold start at h2
      rw [List.getElem?_append_left (by simpa using hi), List.getElem?_map] at h2
      cases e : vs[i]? with
      | none => rw [e] at h2; cases h2
      | some a => rw [e] at h2; cases h2; rfl
    obtain ⟨u, hu, rv⟩ := r.get ha
    have hp : ps[i]? = some y := by
      rw [← S.pre, List.getElem?_take_of_lt (by omega)]; exact h1
    have ndP : ps.Nodup := by rw [← S.pre]; exact S.nd.sublist (List.take_sublist _ _)
    refine ⟨u, rv, ?_⟩
    rcases S.par y (List.mem_of_getElem? hp) with k | k
    · exact .inl ⟨k, bindL_get ndP hp hu k⟩
    · obtain ⟨c, e⟩ := cell_has (n := s.heap.objs.size + 1) k
      refine .inr ⟨.inl k, c, e, ?_⟩
      have q := x.cell y c e
      rw [bindC_get ndP hp hu (by show scope.names.lookup y ≠ _; rw [k]; decide)] at q
      exact q
  · exact e0.hok.fresh (Nat.le_of_lt (x.above y c (PySem.mem_of_lookup h)))
  · unfold start
    show _ = N.length
    rw [List.length_append, List.length_map, List.length_replicate]
    omega
theorem fn_of {CX : CXT} {P : Program} {w : World} {K : PySem.W.Frag} {mg : Str → Option Value} {base : Heap} {k : Nat} {f : Addr} {name qual : Str} {params : Arguments} {body : List Stmt} {scope : Scope} {dV kV doc pm cdv ct oc : Value} {an od : Option Addr}
    {osl : Array (Option Value)} {N ps : List Str} {sp : Sp} (lk : K.lookup f = some ⟨oc, od, .func (PySem.W.fnOf name qual params body scope dV kV doc pm an cdv ct), osl⟩) (hcd : PySem.W.codeIn K cdv qual = true) (S : FnScope N ps scope)
    (len : ∀ vs H Q E, sp vs H Q E → vs.length = ps.length)
    (hbody : ∀ (A : Around) (outer : List Env) (s : Shared) (H : Hp) (vs : List V) (Q : VK) (E : XK), Room k (A.deeper (envOfC qual scope s.heap.objs.size f cdv)) → sp vs H Q E →
      ∃ t, PSs (cxOf CX P w K mg base N qual scope f cdv A outer s H E) body t ∧ t { nx := fun _ H' => Q .non H', rt := Q } (start N vs) H) :
    FnOk P w K mg base CX (k + 1) f (PySem.W.fnOf name qual params body scope dV kV doc pm an cdv ct) ps sp := by
  refine ⟨len, fun A outer s H args us vs Q E hr e0 hb r hsp => ?_⟩
  have hl := len _ _ _ _ hsp
  have KX : K.In s.heap := e0.mod.kin.keeps fun b o e => (e0.bs b o e).1
  have lim : s.heap.NoLimit := e0.mod.nolimit.keeps fun b o e => (e0.bs b o e).1
  have hkind : ∀ y ∈ ps.zip us, scope.names.lookup y.1 = some .local ∨ (scope.names.lookup y.1 = some .cell ∧ ((cellsFrom (s.heap.objs.size + 1) scope.names []).lookup y.1).isSome = true) := fun ⟨n, v⟩ hy => by
    rcases S.par n (List.of_mem_zip hy).1 with q | q
    · exact .inl q
    · exact .inr ⟨q, PySem.W.cellsFrom_some _ _ _ (.inl q)⟩
  refine codeAny_call_function hr.depth (KX _ _ lk) rfl S.co S.gen rfl (PySem.W.codeRec_of KX hcd) (hb _ _ _ _ ?_)
  refine wpAny_newFunctionEnv_cells S.kind hkind fun env he s1 x => ?_
  subst he
  refine ⟨lim.keeps x.toInCall.keep, codeAny_func ?_⟩
  obtain ⟨t, ht, hq⟩ := hbody A outer s H vs Q E (hr.deeper _) hsp
  have I : Inv (cxOf CX P w K mg base N qual scope f cdv A outer s H E) [] (start N vs) H s1 := inv_start S hr.hd e0 hl r x
  refine wpAny_mono (ht [] s1 (start N vs) H _ I hq) (fun fl s' hs => ?_) fun e s' hs => hs
  have fin : ∀ {σ' : St} {H' : Hp} {v : V} {u : Value}, Inv (cxOf CX P w K mg base N qual scope f cdv A outer s H E) [] σ' H' s' → RelV v u → Q v H' → CE outer P w H s Q u s' :=
    fun {σ' H' v u} J rv q => ⟨v, H', J.os, J.bare, J.base, J.hok, rv, q⟩
  cases fl with
  | ret u =>
    obtain ⟨v, σ', H', J, rv, q⟩ := hs
    exact fin J rv q
  | next =>
    obtain ⟨σ', H', J, q⟩ := hs
    exact fin (v := V.non) (u := Value.none) J rfl q
  | brk =>
    obtain ⟨_, _, _, q⟩ := hs
    exact False.elim q
  | cont =>
    obtain ⟨_, _, _, q⟩ := hs
    exact False.elim q
end L2
namespace L2
open PySem PySem.Spec PyProof.Rows
section
variable {X : Cx} {x : Str} {p pos : Pos} {e : Expr} {es : List Expr} {t : TA} {id T : String} {r : List V → Hp → VK → Prop}
def tCB (r : List V → Hp → VK → Prop) (t : TA) : TE := fun σ H Q => t σ H fun vs H1 => r vs H1 Q
theorem pe_callB (hc : CallR X (.builtin id) r) (hg : Gl X x) (hm : X.mg x = none) (hv : bootBuiltins x = some (.builtin id)) (ha : PA X (e :: es) t) (hn : x ≠ "__name__" := by decide) (hdb : (x == ("__debug__" : Str)) = false := by decide)
    (he : starEach (e :: es) X.env = (false, eval e X.env) :: starEach es X.env := by rfl) (hpl : (backTo pos (starEach es X.env)).any (·.1) = false := by rfl) : PE X (.Call (.Name x p) (e :: es) [] pos) (tCB r t) := by
  intro pins s σ H Q I h
  refine wpAny_Call_Name_kw (ld_blt I hg hm hv ?_ hn hdb)
  exact PyProof.Rows.callWith_builtin1 (thn (ha pos pins s σ H _ I h) fun us s1 ⟨vs, H1, I1, r1, q1⟩ => hc pins s1 σ H1 vs us Q I1 r1 q1) he hpl
end
end L2
namespace HT
open PySem PyProof.Rows
def lexLt : List Int → List Int → Bool
  | [], [] => false
  | [], _ :: _ => true
  | _ :: _, [] => false
  | x :: xs, y :: ys => if x = y then lexLt xs ys else decide (x < y)
theorem lexLt_cons (x y : Int) (xs ys : List Int) : lexLt (x :: xs) (y :: ys) = if x = y then lexLt xs ys else decide (x < y) := rfl
theorem lexLt_nil_nil : lexLt [] [] = false := rfl
theorem lexLt_nil_cons (y : Int) (ys : List Int) : lexLt [] (y :: ys) = true := rfl
theorem lexLt_cons_nil (x : Int) (xs : List Int) : lexLt (x :: xs) [] = false := rfl
theorem eqAt_int (A : Around) (s : Shared) (a : Int) (t : Tok) (c : Int) (u : Tok) : ∃ e, SeqAt.EqAt A s (.int a t) (.int c u) e ∧ (e = true ↔ a = c) :=
  ⟨(a == c), SeqAt.EqAt.int_int a t c u, by simp⟩
theorem rcLt_int (A : Around) (s : Shared) (a : Int) (t : Tok) (c : Int) (u : Tok) (prog : Program) (w : World) (E : Value → Shared → Prop) (Q : Value → Shared → Prop) (h : Q (.bool (decide (a < c))) s) :
    wpAny (model prog w) A (richCompare .Lt (.int a t) (.int c u)) Q E s :=
  (PyProof.Rows.lt_int h : wpAny (model prog w) A (compareOp .Lt (.int a t) (.int c u)) Q E s)
section
open PySem.SeqAt
open PySem.AutoSeq1 (wpAny_loadPart')
open PySem.MeetsSeq PySem.MeetsSeq2 PySem.MeetsSeq3
end
section
variable {prog : Program} {w : World} {A : Around} {E : Value → Shared → Prop} {s : Shared}
def sIx (n d : Nat) : Option Int → Nat
  | none => d
  | some v => if v < 0 then (v + (n : Int)).toNat else min v.toNat n
theorem sIx_none (n d : Nat) : sIx n d none = d := rfl
theorem sIx_nat (n d k : Nat) : sIx n d (some (k : Int)) = min k n := by
  show (if (k : Int) < 0 then ((k : Int) + (n : Int)).toNat else min (k : Int).toNat n) = min k n
  rw [if_neg (by omega), Int.toNat_natCast]
end
end HT
namespace L2
open PySem PySem.Spec PyProof.Rows
abbrev TO := St → Hp → (Option Int → Hp → Prop) → Prop
def PO (X : Cx) (e : Option Expr) (t : TO) : Prop :=
  ∀ (pins : List (Addr × Obj)) (s : Shared) (σ : St) (H : Hp) (Q : Option Int → Hp → Prop), Inv X pins σ H s → t σ H Q →
    wpAny (model X.prog X.w) X.A (evalPart e X.env) (fun u s' => ∃ o H', Inv X pins σ H' s' ∧ IsPart u o ∧ Q o H') X.xe s
def tNoPart : TO := fun _ H Q => Q none H
def tPart (t : TE) : TO := fun σ H Q => t σ H fun x H1 => ∃ i, x = .int i ∧ Q (some i) H1
theorem intsAre_of {ns : List Int} : ∀ {us : List Value}, Vals (ns.map V.int) us → IntsAre us ns := by
  induction ns with
  | nil => intro us r; rw [List.map_nil] at r; cases r; exact .nil
  | cons n ns ih =>
    intro us r
    rw [List.map_cons] at r
    cases r with
    | cons r1 r2 =>
      obtain ⟨t, e⟩ := r1
      subst e
      exact .cons n t (ih r2)
section
variable {X : Cx} {e : Expr} {te : TE} {lo hi : Option Expr} {tl th : TO} {pos p2 : Pos}
theorem po_none : PO X none tNoPart := by
  intro pins s σ H Q I h
  rw [evalPart_none]
  exact wpAny_pure ⟨none, H, I, .none, h⟩
theorem po_some (h : PE X e te) : PO X (some e) (tPart te) := by
  intro pins s σ H Q I hw
  rw [evalPart_some]
  refine thn (h pins s σ H _ I hw) fun u s1 ⟨x, H1, I1, r1, q1⟩ => ?_
  obtain ⟨i, rfl, q⟩ := q1
  obtain ⟨t, rfl⟩ := r1
  exact ⟨some i, H1, I1, .int i t, q⟩
def SlR (X : Cx) (r : V → Option Int → Option Int → Hp → VK → Prop) : Prop :=
  ∀ (pins : List (Addr × Obj)) (s : Shared) (σ : St) (H : Hp) (x : V) (v vl vu : Value) (lo hi : Option Int) (sl : Addr) (Q : VK), Inv X pins σ H s → RelV x v → s.heap.IsSliceOf sl vl vu .none → IsPart vl lo → IsPart vu hi → r x lo hi H Q →
    ∃ T id, typeLookup (.type T) "__getitem__" = pure (some (.builtin id)) ∧ s.TypeIs v T ∧ wpAny (model X.prog X.w) X.A (getItem v (.ref sl)) (EP X pins σ Q) X.xe s
theorem SlR.or {r r' : V → Option Int → Option Int → Hp → VK → Prop} (h : SlR X r) (h' : SlR X r') : SlR X (fun x lo hi H Q => r x lo hi H Q ∨ r' x lo hi H Q) := by
  intro pins s σ H x v vl vu lo hi sl Q I rx hs pl pu q
  rcases q with q | q
  · exact h pins s σ H x v vl vu lo hi sl Q I rx hs pl pu q
  · exact h' pins s σ H x v vl vu lo hi sl Q I rx hs pl pu q
def tSl (r : V → Option Int → Option Int → Hp → VK → Prop) (te : TE) (tl th : TO) : TE := fun σ H Q => te σ H fun x H1 => tl σ H1 fun l H2 => th σ H2 fun u H3 => r x l u H3 Q
theorem pe_slice {r : V → Option Int → Option Int → Hp → VK → Prop} (hr : SlR X r) (he : PE X e te) (hl : PO X lo tl) (hu : PO X hi th) : PE X (.Subscript e (.Slice lo hi none p2) pos) (tSl r te tl th) := by
  intro pins s σ H Q I h
  refine Subscript_ (thn (he pins s σ H _ I h) fun v s1 ⟨x, H1, I1, r1, q1⟩ => ?_)
  refine wpAny_Slice (thn (hl pins s1 σ H1 _ I1 q1) fun vl s2 ⟨l, H2, I2, pl, q2⟩ => thn (hu pins s2 σ H2 _ I2 q2) fun vu s3 ⟨u, H3, I3, pu, q3⟩ => ?_)
  rw [evalPart_none]
  refine wpAny_pure ?_
  have I4 : Inv X pins σ H3 { s3 with heap := s3.heap.push { cls := .type "slice", data := .fields #[vl, vu, .none] } } := I3.kept (t' := s3.toks) fun b ob q => Heap.get?_push_of_some _ q
  obtain ⟨T, id, hT, ht, hg⟩ := hr pins { s3 with heap := s3.heap.push { cls := .type "slice", data := .fields #[vl, vu, .none] } } σ H3 x v vl vu l u s3.heap.objs.size Q I4 r1 (Heap.IsSliceOf.new ..) pl pu q3
  show wpAny (model X.prog X.w) X.A (subscriptTail e (.Slice lo hi none p2) v (.ref s3.heap.objs.size)) (EP X pins σ Q) X.xe { s3 with heap := s3.heap.push { cls := .type "slice", data := .fields #[vl, vu, .none] } }
  exact tail_any (ops := [.ref s3.heap.objs.size, v]) ht hT hg (by with_unfolding_all rfl)
def cutV (xs : List V) (lo hi : Option Int) : List V := (xs.drop (HT.sIx xs.length 0 lo)).take (HT.sIx xs.length xs.length hi - HT.sIx xs.length 0 lo)
theorem cutV_length (xs : List V) (lo hi : Option Int) : (cutV xs lo hi).length ≤ xs.length := by
  unfold cutV
  rw [List.length_take, List.length_drop]
  omega
end
end L2
namespace L2
open PySem PySem.Spec PyProof.Rows
def ixN (n : Nat) (i : Int) : Option Nat := if 0 ≤ i then (if i < n then some i.toNat else none) else if -(n : Int) ≤ i then some (i + n).toNat else none
def atI {α : Type} (xs : List α) (i : Int) : Option α := (ixN xs.length i).bind fun j => xs[j]?
theorem ixN_seq {n : Nat} {i : Int} {j : Nat} (h : ixN n i = some j) : seqIndex? i n = some j ∧ j < n ∧ -(n : Int) ≤ i ∧ i < n := by
  unfold ixN at h
  by_cases h0 : 0 ≤ i
  · rw [if_pos h0] at h
    by_cases h1 : i < n
    · rw [if_pos h1] at h
      have e : i.toNat = j := Option.some.inj h
      exact ⟨by rw [seqIndex_of h0 h1, e], by omega, by omega, h1⟩
    · rw [if_neg h1] at h; cases h
  · rw [if_neg h0] at h
    by_cases h1 : -(n : Int) ≤ i
    · rw [if_pos h1] at h
      have e : (i + n).toNat = j := Option.some.inj h
      exact ⟨by rw [seqIndex_neg (by omega) h1, e], by omega, h1, by omega⟩
    · rw [if_neg h1] at h; cases h
theorem atI_get {α : Type} {xs : List α} {i : Int} {v : α} (h : atI xs i = some v) : ∃ j, seqIndex? i xs.length = some j ∧ xs[j]? = some v ∧ j < xs.length ∧ -(xs.length : Int) ≤ i ∧ i < xs.length := by
  unfold atI at h
  cases e : ixN xs.length i with
  | none => rw [e] at h; cases h
  | some j =>
    rw [e] at h
    obtain ⟨h1, h2, h3, h4⟩ := ixN_seq e
    exact ⟨j, h1, h, h2, h3, h4⟩
def PlainIx (b : Expr) : Prop := ∀ o i, subscripted b false o i = operate [o, i] (getItem o i)
def IxR (X : Cx) (r : R2) : Prop :=
  ∀ (value slice : Expr) (pins : List (Addr × Obj)) (s : Shared) (σ : St) (H : Hp) (x y : V) (v u : Value) (Q : VK), Inv X pins σ H s → RelV x v → RelV y u → r x y H Q →
    subscripted slice false v u = operate [v, u] (getItem v u) → wpAny (model X.prog X.w) X.A (subscriptTail value slice v u) (EP X pins σ Q) X.xe s
def MtR (X : Cx) (id : String) (r : V → List V → Hp → VK → Prop) : Prop :=
  ∀ (pins : List (Addr × Obj)) (s : Shared) (σ : St) (H : Hp) (x : V) (xs : List V) (v : Value) (us : List Value) (Q : VK), Inv X pins σ H s → RelV x v → Vals xs us → r x xs H Q →
    wpAny (model X.prog X.w) X.A (call (.builtin id) (v :: us)) (EP X pins σ Q) X.xe s
section
variable {X : Cx} {a b : Expr} {ta tb : TE} {pos : Pos}
theorem IxR.or {r r' : R2} (h : IxR X r) (h' : IxR X r') : IxR X (fun x y H Q => r x y H Q ∨ r' x y H Q) := by
  intro value slice pins s σ H x y v u Q I rx ry q hs
  rcases q with q | q
  · exact h value slice pins s σ H x y v u Q I rx ry q hs
  · exact h' value slice pins s σ H x y v u Q I rx ry q hs
theorem MtR.or {id : String} {r r' : V → List V → Hp → VK → Prop} (h : MtR X id r) (h' : MtR X id r') : MtR X id (fun x xs H Q => r x xs H Q ∨ r' x xs H Q) := by
  intro pins s σ H x xs v us Q I rx rs q
  rcases q with q | q
  · exact h pins s σ H x xs v us Q I rx rs q
  · exact h' pins s σ H x xs v us Q I rx rs q
theorem pe_ix {r : R2} (hr : IxR X r) (ha : PE X a ta) (hb : PE X b tb) (hs : PlainIx b) : PE X (.Subscript a b pos) (tOp r ta tb) := by
  intro pins s σ H Q I h
  exact Subscript_ (binT ha hb I h fun v u s2 x y H2 I2 rx ry q => hr a b pins s2 σ H2 x y v u Q I2 rx ry q (hs _ _))
def rIxL (K : PySem.W.Frag) : R2 := fun x y H Q => ∃ p xs i v, x = .ref p ∧ y = .int i ∧ SqL K H p xs ∧ atI xs i = some v ∧ Q v H
def rIxT (K : PySem.W.Frag) : R2 := fun x y H Q => ∃ p xs i v, x = .ref p ∧ y = .int i ∧ SqT K H p xs ∧ atI xs i = some v ∧ Q v H
theorem ix_list : IxR X (rIxL X.K) := by
  intro value slice pins s σ H x y v u Q I rx ry h hs
  obtain ⟨p, xs, i, z, rfl, rfl, hq, he, q⟩ := h
  cases rx
  obtain ⟨t, rfl⟩ := ry
  obtain ⟨its, r, pl, hz⟩ := I.list hq
  obtain ⟨j, h1, h2, h3, h4, h5⟩ := atI_get he
  obtain ⟨w, ew, rw'⟩ := r.get h2
  have hl := r.length
  have hn := line63
  have fin : EP X pins σ Q w s := ⟨z, H, I, rw', q⟩
  by_cases h0 : 0 ≤ i
  · have hj : i.toNat = j := by
      rw [seqIndex_of h0 h5] at h1
      exact Option.some.inj h1
    exact item_listR pl.isList h0 (by omega) (by rw [hj]; simpa using ew) fin hs
  · have hj : (i + (its.toArray.size : Int)).toNat = j := by
      rw [seqIndex_neg (by omega) h4] at h1
      rw [List.size_toArray, ← hl]
      exact Option.some.inj h1
    exact subscriptTail_builtinR (x := w) pl.isList.typeIs slot_list_getitem.lookup
      (wpAny_getItem_list_neg (Q := fun r s' => r = w ∧ EP X pins σ Q r s') pl.isList (by omega) (by rw [List.size_toArray] <;> omega) (by omega) (by rw [hj]; simpa using ew) ⟨rfl, fin⟩) hs
theorem ix_tup : IxR X (rIxT X.K) := by
  intro value slice pins s σ H x y v u Q I rx ry h hs
  obtain ⟨p, xs, i, z, rfl, rfl, hq, he, q⟩ := h
  cases rx
  obtain ⟨t, rfl⟩ := ry
  obtain ⟨its, r, pl, hz⟩ := I.tuple hq
  obtain ⟨j, h1, h2, h3, h4, h5⟩ := atI_get he
  obtain ⟨w, ew, rw'⟩ := r.get h2
  have hl := r.length
  have hn := line63
  have fin : EP X pins σ Q w s := ⟨z, H, I, rw', q⟩
  exact subscriptTail_builtinR (x := w) pl.typeIs slot_tuple_getitem.lookup
    (getItem_tuple (j := j) (Q := fun r s' => r = w ∧ EP X pins σ Q r s') pl (by omega) (by omega) (by rw [List.size_toArray, ← hl]; exact h1) (by simpa using ew) ⟨rfl, fin⟩) hs
theorem Inv.lst {pins : List (Addr × Obj)} {σ : St} {H : Hp} {s : Shared} {p : Addr} {xs : List V} (I : Inv X pins σ H s) (h : H p = some (.lst xs)) :
    ∃ (its : List Value) (n : Nat), Vals xs its ∧ s.heap.get? p = some { cls := .type "list", data := .seq its.toArray n } ∧ xs.length ≤ sizeLine := by
  obtain ⟨z, its, n, r, e⟩ := I.hok p _ h
  exact ⟨its, n, r, e, z⟩
def rSetL : V → V → V → Hp → (Hp → Prop) → Prop := fun o i v H Q => ∃ p xs k j, o = .ref p ∧ i = .int k ∧ H p = some (.lst xs) ∧ ixN xs.length k = some j ∧ Q (upd H p (.lst (xs.set j v)))
theorem slice_bounds (lo hi : Option Int) (n : Nat) : (sliceBounds lo hi none n).1 = ((HT.sIx n 0 lo : Nat) : Int) ∧ (sliceBounds lo hi none n).2.1 = ((HT.sIx n n hi : Nat) : Int) ∧ (sliceBounds lo hi none n).2.2 = 1 := by
  refine ⟨?_, ?_, rfl⟩
  · cases lo with
    | none => simp [sliceBounds, HT.sIx]
    | some i =>
      simp only [sliceBounds, HT.sIx, Option.getD_none, show (1 : Int) > 0 by decide, if_true]
      by_cases h : i < 0
      · simp only [h, if_true] <;> omega
      · simp only [h, if_false] <;> omega
  · cases hi with
    | none => simp [sliceBounds, HT.sIx]
    | some i =>
      simp only [sliceBounds, HT.sIx, Option.getD_none, show (1 : Int) > 0 by decide, if_true]
      by_cases h : i < 0
      · simp only [h, if_true] <;> omega
      · simp only [h, if_false] <;> omega
theorem slicePick_cut (its : List Value) (lo hi : Option Int) : slicePick its.toArray lo hi none = ((its.drop (HT.sIx its.length 0 lo)).take (HT.sIx its.length its.length hi - HT.sIx its.length 0 lo)).toArray := by
  obtain ⟨h1, h2, h3⟩ := slice_bounds lo hi its.toArray.size
  unfold slicePick
  rw [h1, h2, h3]
  simp only [sliceRange_one, pick_run, List.size_toArray] <;> rfl
def rSlL (K : PySem.W.Frag) : V → Option Int → Option Int → Hp → VK → Prop := fun x lo hi H Q => ∃ a xs, x = .ref a ∧ SqL K H a xs ∧ ∀ p, H p = none → Q (.ref p) (upd H p (.lst (cutV xs lo hi)))
theorem sl_list : SlR X (rSlL X.K) := by
  intro pins s σ H x v vl vu lo hi sl Q I rx hs pl pu h
  obtain ⟨a, xs, rfl, hx, q⟩ := h
  cases rx
  obtain ⟨its, r, ht, hz⟩ := I.list hx
  have hlen := r.length
  refine ⟨"list", _, slot_list_getitem.lookup, ht.isList.typeIs, ?_⟩
  refine wpAny_getItem_list_slice ht.isList hs pl pu .none (by simp) ?_ (by rw [List.size_toArray] <;> omega)
  rw [slicePick_cut, ← hlen]
  refine ⟨.ref s.heap.objs.size, _, I.laid (t' := s.toks) (o := .lst (cutV xs lo hi)) (fun b ob q => Heap.get?_push_of_some _ q) (Nat.le_refl _) ?_, rfl, q _ (I.hok.fresh (Nat.le_refl _))⟩
  exact ⟨Nat.le_trans (cutV_length xs lo hi) hz, _, 0, (r.drop (HT.sIx xs.length 0 lo)).take (HT.sIx xs.length xs.length hi - HT.sIx xs.length 0 lo), Heap.get?_push_size _ rfl⟩
def flatV : V → Bool
  | .non => true
  | .bl _ => true
  | .int _ => true
  | .str _ => true
  | _ => false
def eqV : V → V → Bool
  | .non, .non => true
  | .bl a, .bl b => a == b
  | .bl a, .int b => (if a then 1 else 0) == b
  | .int a, .bl b => a == (if b then 1 else 0)
  | .int a, .int b => a == b
  | .str a, .str b => a == b
  | _, _ => false
theorem eqAt_V {A : Around} {s : Shared} {y x : V} {u v : Value} (ry : RelV y u) (rx : RelV x v) (fy : flatV y = true) (fx : flatV x = true) : SeqAt.EqAt A s u v (eqV y x) := by
  cases y with
  | non =>
    cases ry
    cases x with
    | non => cases rx; exact SeqAt.EqAt.same _
    | bl b => cases rx; exact SeqAt.EqAt.none_bool b
    | int b => obtain ⟨t, rfl⟩ := rx; exact SeqAt.EqAt.none_int b t
    | str b => obtain ⟨t, rfl⟩ := rx; exact SeqAt.EqAt.none_str b t
    | _ => exact absurd (show false = true from fx) Bool.false_ne_true
  | bl a =>
    cases ry
    cases x with
    | non => cases rx; exact SeqAt.EqAt.bool_none a
    | bl b => cases rx; exact SeqAt.EqAt.bool_bool a b
    | int b => obtain ⟨t, rfl⟩ := rx; exact SeqAt.EqAt.bool_int a b t
    | str b => obtain ⟨t, rfl⟩ := rx; exact SeqAt.EqAt.bool_str a b t
    | _ => exact absurd (show false = true from fx) Bool.false_ne_true
  | int a =>
    obtain ⟨t', rfl⟩ := ry
    cases x with
    | non => cases rx; exact SeqAt.EqAt.int_none a t'
    | bl b => cases rx; exact SeqAt.EqAt.int_bool a t' b
    | int b => obtain ⟨t, rfl⟩ := rx; exact SeqAt.EqAt.int_int a t' b t
    | str b => obtain ⟨t, rfl⟩ := rx; exact SeqAt.EqAt.int_str a t' b t
    | _ => exact absurd (show false = true from fx) Bool.false_ne_true
  | str a =>
    obtain ⟨t', rfl⟩ := ry
    cases x with
    | non => cases rx; exact SeqAt.EqAt.str_none a t'
    | bl b => cases rx; exact SeqAt.EqAt.str_bool a t' b
    | int b => obtain ⟨t, rfl⟩ := rx; exact SeqAt.EqAt.str_int a t' b t
    | str b => obtain ⟨t, rfl⟩ := rx; exact SeqAt.EqAt.str_str a t' b t
    | _ => exact absurd (show false = true from fx) Bool.false_ne_true
  | _ => exact absurd (show false = true from fy) Bool.false_ne_true
def eqU (x : V) (u : Value) : Bool := match u with
  | .none => eqV .non x
  | .bool b => eqV (.bl b) x
  | .int i _ => eqV (.int i) x
  | .str z _ => eqV (.str z) x
  | _ => false
theorem eqU_of {x y : V} {u : Value} (r : RelV y u) (f : flatV y = true) : eqU x u = eqV y x := by
  cases y with
  | non => cases r; rfl
  | bl b => cases r; rfl
  | int i => obtain ⟨t, rfl⟩ := r; rfl
  | str z => obtain ⟨t, rfl⟩ := r; rfl
  | _ => exact absurd (show false = true from f) Bool.false_ne_true
theorem any_eqU {x : V} : ∀ {xs : List V} {us : List Value}, Vals xs us → xs.all flatV = true → us.any (eqU x) = xs.any fun y => eqV y x
  | _, _, .nil, _ => rfl
  | y :: xs, u :: us, .cons r t, f => by
    rw [List.all_cons, Bool.and_eq_true] at f
    rw [List.any_cons, List.any_cons, eqU_of r f.1, any_eqU t f.2]
theorem mem_eqAt {A : Around} {s : Shared} {x : V} {v : Value} (rx : RelV x v) (fx : flatV x = true) : ∀ {xs : List V} {us : List Value}, Vals xs us → xs.all flatV = true → ∀ u ∈ us, SeqAt.EqAt A s u v (eqU x u)
  | _, _, .nil, _ => fun u hu => by cases hu
  | y :: xs, u :: us, .cons r t, f => fun u' hu => by
    rw [List.all_cons, Bool.and_eq_true] at f
    rcases List.mem_cons.mp hu with rfl | hu
    · rw [eqU_of r f.1]; exact eqAt_V r rx f.1 fx
    · exact mem_eqAt rx fx t f.2 u' hu
def inV (x : V) (xs : List V) : Bool := xs.any fun y => eqV y x
def rIn (K : PySem.W.Frag) (neg : Bool) : R2 := fun x y H Q => ∃ p xs, y = .ref p ∧ (SqL K H p xs ∨ SqT K H p xs) ∧ flatV x = true ∧ xs.all flatV = true ∧ Q (.bl (if neg then !inV x xs else inV x xs)) H
theorem op_in_seq : OpR X (compareOp .In) (rIn X.K false) := by
  intro pins s σ H x y v u Q I rx ry h
  obtain ⟨p, xs, rfl, hq, fx, fs, q⟩ := h
  cases ry
  rcases hq with hq | hq
  · obtain ⟨its, r, pl, hz⟩ := I.list hq
    refine SeqAt.in_listAt (eqU x) pl.isList (fun w hw => mem_eqAt rx fx r fs w (by simpa using hw)) ⟨.bl _, H, I, rfl, ?_⟩
    rw [show its.toArray.any (eqU x) = its.any (eqU x) by simp, any_eqU r fs]
    exact q
  · obtain ⟨its, r, pl, hz⟩ := I.tuple hq
    refine SeqAt.in_tupleAt (eqU x) pl (fun w hw => mem_eqAt rx fx r fs w (by simpa using hw)) ⟨.bl _, H, I, rfl, ?_⟩
    rw [show its.toArray.any (eqU x) = its.any (eqU x) by simp, any_eqU r fs]
    exact q
theorem op_notIn_seq : OpR X (compareOp .NotIn) (rIn X.K true) := by
  intro pins s σ H x y v u Q I rx ry h
  obtain ⟨p, xs, rfl, hq, fx, fs, q⟩ := h
  cases ry
  rcases hq with hq | hq
  · obtain ⟨its, r, pl, hz⟩ := I.list hq
    refine SeqAt.notIn_listAt (eqU x) pl.isList (fun w hw => mem_eqAt rx fx r fs w (by simpa using hw)) ⟨.bl _, H, I, rfl, ?_⟩
    rw [show its.toArray.any (eqU x) = its.any (eqU x) by simp, any_eqU r fs]
    exact q
  · obtain ⟨its, r, pl, hz⟩ := I.tuple hq
    refine SeqAt.notIn_tupleAt (eqU x) pl (fun w hw => mem_eqAt rx fx r fs w (by simpa using hw)) ⟨.bl _, H, I, rfl, ?_⟩
    rw [show its.toArray.any (eqU x) = its.any (eqU x) by simp, any_eqU r fs]
    exact q
theorem call_len_seq : CallR X (.builtin "len") (fun xs H Q => ∃ p ys, xs = [.ref p] ∧ (SqL X.K H p ys ∨ SqT X.K H p ys) ∧ Q (.int ys.length) H) := by
  intro pins s σ H xs us Q I r h
  obtain ⟨p, ys, rfl, hq, q⟩ := h
  obtain ⟨u, rfl, rx⟩ := vals1 r
  cases rx
  have hn := line63
  rcases hq with hq | hq
  · obtain ⟨its, r', pl, hz⟩ := I.list hq
    have hlen := r'.length
    exact Calls.call_len_list pl.isList (by simp only [List.size_toArray] <;> omega) ⟨.int ys.length, H, I.tok _, ⟨s.toks + 1, by rw [List.size_toArray, hlen]⟩, q⟩
  · obtain ⟨its, r', pl, hz⟩ := I.tuple hq
    have hlen := r'.length
    exact len_tuple pl (by simp only [List.size_toArray] <;> omega) ⟨.int ys.length, H, I.tok _, ⟨s.toks + 1, by rw [List.size_toArray, hlen]⟩, q⟩
theorem CallR.or {f : Value} {r r' : List V → Hp → VK → Prop} (h : CallR X f r) (h' : CallR X f r') : CallR X f (fun xs H Q => r xs H Q ∨ r' xs H Q) := by
  intro pins s σ H xs us Q I rs q
  rcases q with q | q
  · exact h pins s σ H xs us Q I rs q
  · exact h' pins s σ H xs us Q I rs q
def tyV (K : PySem.W.Frag) (T : String) (x : V) (H : Hp) : Prop := match x with
  | .str _ => T = "str"
  | .int _ => T = "int"
  | .ref p => (T = "list" ∧ ∃ xs, SqL K H p xs) ∨ (T = "tuple" ∧ ∃ o, K.lookup p = some o ∧ o.cls = .type "tuple" ∧ o.dict = none) ∨
      (T = "dict" ∧ ((∃ kvs, H p = some (.dK kvs)) ∨ ∃ kvs, H p = some (.dT kvs))) ∨ (T = "set" ∧ ∃ S n, H p = some (.set S n))
  | _ => False
theorem tyV_is {pins : List (Addr × Obj)} {σ : St} {H : Hp} {s : Shared} {T : String} {x : V} {v : Value} (I : Inv X pins σ H s) (r : RelV x v) (ty : tyV X.K T x H) :
    s.TypeIs v T ∧ ∀ a, v = .ref a → ∃ ob, s.heap.get? a = some ob ∧ ob.dict = none := by
  cases x with
  | str z =>
    obtain ⟨t, rfl⟩ := r
    cases (show T = "str" from ty)
    exact ⟨typeIs_str s z t, fun _ e => nomatch e⟩
  | int i =>
    obtain ⟨t, rfl⟩ := r
    cases (show T = "int" from ty)
    exact ⟨typeIs_int s i t, fun _ e => nomatch e⟩
  | ref p =>
    cases r
    rcases ty with ⟨rfl, xs, hq⟩ | ⟨rfl, o, hk, hc, hd⟩ | ⟨rfl, hk⟩ | ⟨rfl, S, n, hk⟩
    · obtain ⟨its, _, pl, _⟩ := I.list hq
      refine ⟨pl.isList.typeIs, fun a e => ?_⟩
      cases e
      obtain ⟨o, n, e, c, hd, _⟩ := pl
      exact ⟨o, e, hd⟩
    · refine ⟨⟨o, I.kIn p o hk, hc⟩, fun a e => ?_⟩
      cases e
      exact ⟨o, I.kIn _ o hk, hd⟩
    · have z : ∃ o, s.heap.get? p = some o ∧ o.ExactDict := by
        rcases hk with ⟨kvs, hk⟩ | ⟨kvs, hk⟩
        · obtain ⟨_, _, _, _, o, _, _, e, ex, _⟩ := I.hok p _ hk
          exact ⟨o, e, ex⟩
        · obtain ⟨_, _, _, _, o, _, _, e, ex, _⟩ := I.hok p _ hk
          exact ⟨o, e, ex⟩
      obtain ⟨o, e, ex⟩ := z
      refine ⟨⟨o, e, ex.1⟩, fun a e2 => ?_⟩
      cases e2
      exact ⟨o, e, ex.2.1⟩
    · obtain ⟨o, _, _, _, e, ex, _⟩ := I.hok p _ hk
      refine ⟨⟨o, e, ex.1⟩, fun a e2 => ?_⟩
      cases e2
      exact ⟨o, e, ex.2.1⟩
  | _ => exact False.elim ty
def tBM0 (K : PySem.W.Frag) (T : String) (r : V → List V → Hp → VK → Prop) (to : TE) : TE := fun σ H Q => to σ H fun x H1 => tyV K T x H1 ∧ r x [] H1 Q
def tBM (K : PySem.W.Frag) (T : String) (r : V → List V → Hp → VK → Prop) (to : TE) (t : TA) : TE := fun σ H Q => to σ H fun x H1 => tyV K T x H1 ∧ t σ H1 fun xs H2 => r x xs H2 Q
variable {o e : Expr} {es : List Expr} {to : TE} {t : TA} {name : Str} {apos cpos : Pos} {T id : String} {r : V → List V → Hp → VK → Prop}
theorem pe_bm0 (pa : PlainAttrs T) (slot : Slot T name id) (hty : typeOf (.builtin id) = pure (.type "method_descriptor")) (hm : MtR X id r) (ho : PE X o to)
    (hbase : attributeBase o name X.env (eval o X.env) = eval o X.env := by rfl) (hline : (apos.endLine == cpos.line) = true := by rfl) : PE X (.Call (.Attribute o name apos) [] [] cpos) (tBM0 X.K T r to) := by
  intro pins s σ H Q I h
  refine wpAny_Call_method0_late hbase hline (thn (ho pins s σ H _ I h) fun v s1 ⟨x, H1, I1, r1, ty, q1⟩ => ?_)
  obtain ⟨h1, h2⟩ := tyV_is I1 r1 ty
  exact ⟨T, id, pa, slot, hty, h1, h2, Calls.callWith_builtin rfl (PySem.evalArgs_none (hm pins s1 σ H1 x [] v [] Q I1 r1 .nil q1))⟩
theorem pe_bm (pa : PlainAttrs T) (slot : Slot T name id) (hty : typeOf (.builtin id) = pure (.type "method_descriptor")) (hm : MtR X id r) (ho : PE X o to) (ha : PA X (e :: es) t)
    (hbase : attributeBase o name X.env (eval o X.env) = eval o X.env := by rfl)
    (hfew : ((backTo cpos (starEach (e :: es) X.env)).all (fun x => !x.1) && (backToKw cpos (keywordEach [] X.env)).all (fun x => x.1.isSome)
      && decide ((e :: es).length + ([] : List Keyword).length + (if ([] : List Keyword).isEmpty then 0 else 1) < 30)) = true := by rfl)
    (hline : (apos.endLine == cpos.line) = true := by rfl) (hs : starEach (e :: es) X.env = (false, eval e X.env) :: starEach es X.env := by rfl) (hplain : (backTo cpos (starEach es X.env)).any (·.1) = false := by rfl) :
    PE X (.Call (.Attribute o name apos) (e :: es) [] cpos) (tBM X.K T r to t) := by
  intro pins s σ H Q I h
  refine wpAny_Call_method_late hbase hfew hline rfl (thn (ho pins s σ H _ I h) fun v s1 ⟨x, H1, I1, r1, ty, q1⟩ => ?_)
  obtain ⟨h1, h2⟩ := tyV_is I1 r1 ty
  refine ⟨T, id, pa, slot, hty, h1, h2, ?_⟩
  have hA := ha cpos pins s1 σ H1 _ I1 q1
  rw [hs] at hA ⊢
  refine Calls.callWith_builtin (by show (false || (backTo cpos (starEach es X.env)).any (·.1)) = false; rw [hplain] <;> rfl) (Calls.evalArgs_plain ?_)
  exact thn hA fun us s2 ⟨vs, H2, I2, r2, q2⟩ => hm pins s2 σ H2 x vs v us Q I2 r1 r2 q2
end
end L2
namespace L2
open PySem PySem.Spec PyProof.Rows
def MtM (X : Cx) (id : String) (r : V → List V → Hp → VK → Prop) : Prop :=
  ∀ (pins : List (Addr × Obj)) (s : Shared) (σ : St) (H : Hp) (x : V) (xs : List V) (v : Value) (us : List Value) (Q : VK), Inv X pins σ H s → RelV x v → Vals xs us → r x xs H Q →
    wpAny (model X.prog X.w) X.A (call (.builtin id) (v :: us)) (EP X pins σ Q) X.xe s
theorem Vals.one : ∀ {x : V} {us : List Value}, Vals [x] us → ∃ u, us = [u] ∧ RelV x u
  | _, _, .cons r .nil => ⟨_, rfl, r⟩
theorem Vals.zero : ∀ {us : List Value}, Vals [] us → us = []
  | _, .nil => rfl
theorem Vals.eraseIdx : ∀ {xs : List V} {us : List Value} (i : Nat), Vals xs us → Vals (xs.eraseIdx i) (us.eraseIdx i)
  | _, _, _, .nil => .nil
  | _, _, 0, .cons _ t => t
  | _, _, i + 1, .cons r t => .cons r (Vals.eraseIdx i t)
theorem Vals.reverse {xs : List V} {us : List Value} (h : Vals xs us) : Vals xs.reverse us.reverse := by
  induction h with
  | nil => exact .nil
  | cons r t ih => rw [List.reverse_cons, List.reverse_cons]; exact Vals.append ih (.cons r .nil)
theorem Vals.rep {xs : List V} {us : List Value} (h : Vals xs us) : ∀ k : Nat, Vals (List.replicate k xs).flatten (List.replicate k us).flatten
  | 0 => .nil
  | k + 1 => by
    rw [List.replicate_succ, List.replicate_succ, List.flatten_cons, List.flatten_cons]
    exact Vals.append h (Vals.rep h k)
section
variable {X : Cx} {pins : List (Addr × Obj)} {σ : St} {H : Hp} {s : Shared} {l b : Addr} {xs ys zs : List V}
theorem Inv.lset {its its' : List Value} {n : Nat} {f : Array Value → Array Value} {t' : Nat} (I : Inv X pins σ H s) (hH : H l = some (.lst xs))
    (e : s.heap.get? l = some { cls := .type "list", data := .seq its.toArray n }) (hf : f its.toArray = its'.toArray) (hv : Vals ys its') (hz : ys.length ≤ sizeLine) :
    Inv X pins σ (upd H l (.lst ys)) { s with heap := s.heap.update l (Obj.mapSeq f), toks := t' } := by
  have q := PySem.IsL.update e f
  rw [hf] at q
  refine I.write (x := l) (e := l) (by rw [hH]; exact trivial) (.inl rfl) (fun b' u hb hu => (Heap.get?_update_other s.heap (Obj.mapSeq f) (Ne.symm hb)).trans hu) ⟨_, q⟩ ?_
  exact ⟨hz, its', _, hv, q⟩
theorem Inv.lnew {its : List Value} {t' : Nat} (I : Inv X pins σ H s) (hv : Vals ys its) (hz : ys.length ≤ sizeLine) :
    Inv X pins σ (upd H s.heap.objs.size (.lst ys)) { s with heap := s.heap.push { cls := .type "list", data := .seq its.toArray }, toks := t' } :=
  I.laid (fun _ _ q => Heap.get?_push_of_some _ q) (Nat.le_refl _) ⟨hz, its, 0, hv, Heap.get?_push_size _ rfl⟩
theorem Inv.fresh (I : Inv X pins σ H s) : H s.heap.objs.size = none := I.hok.fresh (Nat.le_refl _)
theorem Inv.lstM (I : Inv X pins σ H s) (hH : H l = some (.lst xs)) : xs.length ≤ sizeLine ∧ ∃ (its : List Value) (n : Nat), Vals xs its ∧ xs.length = its.length ∧ s.heap.get? l = some { cls := .type "list", data := .seq its.toArray n } := by
  obtain ⟨z, its, n, r, e⟩ := I.hok l _ hH
  exact ⟨z, its, n, r, r.length, e⟩
theorem notLongL {n : Nat} (h : n ≤ sizeLine) : Builtin.List.listTooLong n = false := by
  unfold Builtin.List.listTooLong
  exact decide_eq_false (by omega)
end
section
variable {X : Cx}
def rAppend : V → List V → Hp → VK → Prop := fun x vs H Q => ∃ l xs y, x = .ref l ∧ vs = [y] ∧ H l = some (.lst xs) ∧ xs.length < sizeLine ∧ Q .non (upd H l (.lst (xs ++ [y])))
theorem mt_append : MtM X "list.append" rAppend := by
  intro pins s σ H x vs v us Q I rx rv h
  obtain ⟨l, xs, y, rfl, rfl, hH, hz, q⟩ := h
  cases rx
  obtain ⟨u, rfl, ru⟩ := rv.one
  obtain ⟨z, its, n, r, hl, e⟩ := I.lstM hH
  refine call_meets F.slot_list_append ⟨_, e, rfl⟩ F.entry_list_append (F.args_list_append_2 _ _) (PySem.list_append l its.toArray n u (by rw [List.size_toArray]; omega)) ⟨e, ?_⟩
  refine ⟨.non, _, I.lset (its' := its ++ [u]) hH e (by simp) (r.append (.cons ru .nil)) ?_, rfl, q⟩
  rw [List.length_append, List.length_singleton]
  omega
def rExtend : V → List V → Hp → VK → Prop := fun x vs H Q => ∃ l b xs zs, x = .ref l ∧ vs = [.ref b] ∧ H l = some (.lst xs) ∧ H b = some (.lst zs) ∧ xs.length + zs.length ≤ sizeLine ∧ Q .non (upd H l (.lst (xs ++ zs)))
theorem mt_extend : MtM X "list.extend" rExtend := by
  intro pins s σ H x vs v us Q I rx rv h
  obtain ⟨l, b, xs, zs, rfl, rfl, hH, hB, hz, q⟩ := h
  cases rx
  obtain ⟨u, rfl, ru⟩ := rv.one
  cases ru
  obtain ⟨z, its, n, r, hl, e⟩ := I.lstM hH
  obtain ⟨z2, its2, n2, r2, hl2, e2⟩ := I.lstM hB
  have hsz : its.toArray.size + its2.toArray.size ≤ sizeLine := by rw [List.size_toArray, List.size_toArray]; omega
  have hlong : ¬ (!its.toArray.isEmpty && Builtin.List.listTooLong (its.toArray.size + its2.toArray.size)) = true := by
    rw [notLongL hsz, Bool.and_false]
    exact Bool.false_ne_true
  refine call_meets F.slot_list_extend ⟨_, e, rfl⟩ F.entry_list_extend (F.args_list_extend_2 _ _)
    (AutoSeq1.list_extend_list_list_0 l its.toArray n b its2.toArray n2 hlong (by rw [List.size_toArray]; omega) (by omega)) ⟨e, e2, ?_⟩
  refine ⟨.non, _, I.lset (its' := its ++ its2) hH e (by simp) (r.append r2) ?_, rfl, q⟩
  rw [List.length_append]
  omega
def rPopAt : V → List V → Hp → VK → Prop := fun x vs H Q => ∃ l xs i k y, x = .ref l ∧ vs = [.int i] ∧ H l = some (.lst xs) ∧ -(2 ^ 63) ≤ i ∧ i < 2 ^ 63 ∧ seqIndex? i xs.length = some k ∧ xs[k]? = some y ∧ Q y (upd H l (.lst (xs.eraseIdx k)))
def rClear : V → List V → Hp → VK → Prop := fun x vs H Q => ∃ l xs, x = .ref l ∧ vs = [] ∧ H l = some (.lst xs) ∧ Q .non (upd H l (.lst []))
theorem mt_clear : MtM X "list.clear" rClear := by
  intro pins s σ H x vs v us Q I rx rv h
  obtain ⟨l, xs, rfl, rfl, hH, q⟩ := h
  cases rx
  have hus := rv.zero
  subst hus
  obtain ⟨z, its, n, r, hl, e⟩ := I.lstM hH
  refine call_meets F.slot_list_clear ⟨_, e, rfl⟩ F.entry_list_clear (F.args_list_clear_1 _) (AutoSeq1.list_clear_list_0 l its.toArray n (by rw [List.size_toArray]; omega)) ⟨e, ?_⟩
  exact ⟨.non, _, I.lset (its' := []) (ys := []) hH e rfl .nil (Nat.zero_le _), rfl, q⟩
def rCat : R2 := fun x y H Q => ∃ l b xs zs, x = .ref l ∧ y = .ref b ∧ H l = some (.lst xs) ∧ H b = some (.lst zs) ∧ xs.length + zs.length ≤ sizeLine ∧ ∀ p, H p = none → Q (.ref p) (upd H p (.lst (xs ++ zs)))
theorem op_cat : OpR X (binaryOp .Add) rCat := by
  intro pins s σ H x y v u Q I rx ry h
  obtain ⟨l, b, xs, zs, rfl, rfl, hH, hB, hz, q⟩ := h
  cases rx
  cases ry
  obtain ⟨z, its, n, r, hl, e⟩ := I.lstM hH
  obtain ⟨z2, its2, n2, r2, hl2, e2⟩ := I.lstM hB
  refine PySem.P.add_list e e2 ?_ (by rw [List.size_toArray, List.size_toArray]; omega)
  have ea : its.toArray ++ its2.toArray = (its ++ its2).toArray := by simp
  rw [ea]
  exact ⟨.ref _, _, I.lnew (t' := s.toks) (r.append r2) (by rw [List.length_append]; omega), rfl, q _ I.fresh⟩
end
section
variable {prog : Program} {w : World} {A : Around} {E : Value → Shared → Prop} {s : Shared}
theorem bounds_run {a c n : Nat} (hac : a ≤ c) (hc : c ≤ n) : sliceBounds (some (a : Int)) (some (c : Int)) none n = ((a : Int), (c : Int), 1) := by
  simp only [sliceBounds, Option.getD_none]
  have h1 : ¬ ((a : Int) < 0) := by omega
  have h2 : ¬ ((c : Int) < 0) := by omega
  simp only [h1, h2, if_false, show (1 : Int) > 0 by decide, if_true]
  congr 1
  · omega
  · congr 1; omega
set_option maxRecDepth 100000 in
theorem setItem_slice {l b sl : Addr} {items new : Array Value} {n n2 : Nat} {vl vu : Value} {a c : Nat} {Q : Unit → Shared → Prop}
    (e : s.heap.get? l = some { cls := .type "list", data := .seq items n }) (e2 : s.heap.get? b = some { cls := .type "list", data := .seq new n2 }) (hne : l ≠ b)
    (hs : s.heap.IsSliceOf sl vl vu .none) (pl : IsPart vl (some (a : Int))) (pu : IsPart vu (some (c : Int))) (hac : a ≤ c) (hc : c ≤ items.size)
    (hsz : items.size + new.size ≤ sizeLine) (h : Q () { s with heap := s.heap.update l (Obj.mapSeq fun xs => xs.extract 0 a ++ new ++ xs.extract c xs.size) }) :
    wpAny (model prog w) A (setItem (.ref l) (.ref sl) (.ref b)) Q E s := by
  have hl : s.heap.IsList l items := PySem.IsL.isList e
  have hb : s.heap.IsList b new := PySem.IsL.isList e2
  obtain ⟨os, hos, hcs, hds⟩ := id hs
  have hTs : s.TypeIs (.ref sl) "slice" := ⟨os, hos, hcs⟩
  have hstep : ¬ ((rawPart none == rawInt 0) = true) := Bool.false_ne_true
  have hsame : Builtin.List.listSameRef (.ref l) (.ref b) = false := by
    unfold Builtin.List.listSameRef
    exact beq_eq_false_iff_ne.mpr hne
  have hmax : (max (a : Int) (c : Int)).toNat = c := by omega
  have hz' : ((fun xs : Array Value => xs.extract 0 a ++ new ++ xs.extract c xs.size) items).size ≤ sizeLine + 1 := by
    simp only [Array.size_append, Array.size_extract]
    omega
  unfold setItem
  try with_reducible refine wpAny_holding ?_
  first | refine wpAny_bind (wpAny_pure ?_) | skip
  refine wpAny_bind (wpAny_sequenceKey hl.typeIs (by decide) ?_)
  refine wpAny_bind (wpAny_callSpecial?_slot (name := Str.ofString "__setitem__") hl.typeIs slot_list_setitem
    (wpAny_call_entry slot_list_setitem hl.typeIs entry_list_setitem ?_ (args_list_setitem _ _ _)))
  show wpAny _ _ (Builtin.List.listSubscript? (.ref sl) >>= _) _ _ s
  refine wpAny_bind ?_
  unfold Builtin.List.listSubscript?
  refine wpAny_bind (wpAny_specialOf hTs slice_no_index ?_)
  simp only [Option.isNone_none, if_true]
  refine wpAny_pure ?_
  show wpAny _ _ (typeOf (.ref sl) >>= _) _ _ s
  refine wpAny_bind (wpAny_typeOf hTs ?_)
  first
    | rw [if_neg (by decide)]
    | refine PySem.W.KFB.if_not (by decide) ?_
  rw [listSliceParts_eq]
  refine wpAny_bind (wpAny_bind (wpAny_field hos hds (x := .none) rfl (wpAny_bind (wpAny_listPart .none ?_))))
  rw [if_neg hstep]
  refine wpAny_bind (wpAny_field hos hds (x := vl) rfl (wpAny_bind (wpAny_listPart pl ?_)))
  refine wpAny_bind (wpAny_field hos hds (x := vu) rfl (wpAny_bind (wpAny_listPart pu (wpAny_pure ?_))))
  first
    | simp only [hsame, Bool.false_eq_true, if_false]
    | refine PySem.W.KFB.if_not hsame ?_
    | (dsimp only
       rw [if_neg (by rw [hsame]; exact Bool.false_ne_true)])
  refine wpAny_bind (m := Builtin.List.listAllItems (.ref b) "must assign iterable to extended slice") ?_
  unfold Builtin.List.listAllItems
  refine wpAny_bind (wpAny_typeOf hb.typeIs ?_)
  first
    | refine PySem.W.KFB.if_so (by decide) ?_
    | rw [if_pos (by decide)]
    | simp only [beq_self_eq_true, Bool.true_or, if_true]
  unfold Builtin.List.listItems
  refine wpAny_bind (wpAny_seqItems e2 rfl (wpAny_pure ?_))
  refine wpAny_bind (wpAny_bind (wpAny_seqItems e rfl (wpAny_pure ?_)))
  refine wpAny_bind (wpAny_of_eq ((sliceIndices_raw (some (a : Int)) (some (c : Int)) none items.size (by simp)).trans (congrArg (pure : Int × Int × Int → Sem (Int × Int × Int)) (bounds_run hac hc))) ?_)
  show wpAny _ _ (if ((1 : Int) == 1) = true then _ else _) _ _ s
  rw [if_pos (by decide)]
  refine wpAny_bind (wpAny_rule ?_)
  first
    | simp only [notLongL hsz, Bool.false_eq_true, if_false]
    | refine PySem.W.KFB.if_not (notLongL hsz) ?_
  first | refine wpAny_bind (wpAny_pure ?_) | skip
  show wpAny _ _ (updateSeq l (fun xs => xs.extract 0 ((a : Int)).toNat ++ new ++ xs.extract (max (a : Int) (c : Int)).toNat xs.size) >>= _) _ _ s
  rw [hmax, Int.toNat_natCast]
  refine wpAny_bind (wpAny_updateSeq (hz := Nat.le_trans (Nat.le_add_right _ _) hsz) (_hz' := hz') e rfl ?_)
  refine wpAny_bind (wpAny_letGo ?_)
  first
    | exact wpAny_bind (wpAny_pure (wpAny_pure ⟨.none, rfl, wpAny_pure h⟩))
    | exact wpAny_pure ⟨.none, rfl, wpAny_pure h⟩
end
section
variable {X : Cx}
end
end L2
namespace Att
open PySem PySem.W PySem.Calls PyProof.Rows
theorem ints_of_wellAll {P : Params} {h : Heap} : ∀ (ns : List Int) (vs : List Value), WellAll P h vs (ns.map WData.int) → IntsAre vs ns := by
  intro ns
  induction ns with
  | nil =>
    intro vs w
    rw [List.map_nil] at w
    cases w
    exact .nil
  | cons n ns ih =>
    intro vs w
    rw [List.map_cons] at w
    cases w with
    | cons a b =>
      cases a
      exact .cons _ _ (ih _ b)
theorem script_of {l : OpenLaw} {n : Nat} (hn : l.most = some n) {P : Params} {h : Heap} {args : List WData} {vals : List Value}
    (hpre : l.row.toRowW.claim.pre args = true) (hwl : WellAll P h vals args) :
    ∃ a vs ns, vals = [Value.ref a] ∧ args = [WData.list (ns.map WData.int)] ∧ h.get? a = some { cls := .type "list", data := .seq vs.toArray } ∧ IntsAre vs ns ∧ ns.length ≤ n := by
  have hsh : WShape.hasAll [] args [.list .int] = true := (pre_splitW hpre).1
  have hc : l.pre.holds [] { args := args } = true := (pre_splitW hpre).2
  obtain ⟨d, r, rfl, h1, h2⟩ := hasAllW_cons hsh
  obtain rfl := hasAllW_nil h2
  obtain ⟨xs, rfl, h3⟩ := hasW_list h1
  obtain ⟨ns, rfl⟩ := items_int h3
  have hlen : ns.length ≤ n := by
    unfold OpenLaw.pre at hc
    have h4 : (WTm.not (.lt (.lit (.int (n : Int))) (.len (.arg 0)))).holds [] { args := [.list (ns.map .int)] } = true := by
      have h4 := (holds_andW hc).1
      rw [hn] at h4
      exact h4
    have h5 := condW_of h4 (w_not (w_lt w_lit (w_len_list (w_arg rfl))))
    rw [List.length_map] at h5
    refine Nat.le_of_not_lt fun q => ?_
    have q' : (n : Int) < ((ns.length : Nat) : Int) := by omega
    first
      | (rw [decide_eq_true q'] at h5; exact absurd h5 (by decide))
      | (simp at h5; omega)
  cases hwl with
  | cons w1 w2 =>
    cases w2
    cases w1 with
    | list ho hall => exact ⟨_, _, ns, rfl, rfl, ho, ints_of_wellAll ns _ hall, hlen⟩
theorem post_true (l : OpenLaw) (args : List WData) : l.row.toRowW.claim.post args (.bool true) args = true :=
  postW_of (r := l.row.toRowW) (X := (true == true))
    (show WShape.has [] (.bool true) .bool = true by first | rfl | decide | simp [WShape.has, WShape.arms, WShape.armsAll])
    (show (WTm.eq .res (.lit (.bool true))).value [] { args := args, res := some (.bool true), after := args } = some (.bool (true == true)) from w_eq_bool (w_res rfl) w_lit) rfl
theorem attach_call {l : OpenLaw} {n : Nat} {q : Program} {loose : List Str} {XP : (Str → Option Value) → Heap → Prop} {YP : World → Heap → Prop} {d : DefRec}
    (hn : l.most = some n) (hdf : d.params.defaults = [])
    (call : ∀ (w : World) (s₀ s₁ : Shared) (mg mb : Str → Option Value) (fa : Addr) (o : Obj) (pm cd doc : Value) (a : Addr) (vs : List Value) (ns : List Int),
      Ground q loose [] XP w s₀ mg mb s₁.heap → YP w s₁.heap →
      s₁.heap.get? fa = some o → o.data = .func (docDef d.name d.params d.body d.scope pm cd doc) → s₁.heap.CodeRec cd d.name → mg d.name = some (.ref fa) →
      s₁.heap.get? a = some { cls := .type "list", data := .seq vs.toArray } → IntsAre vs ns → ns.length ≤ n → s₁.gens = #[] →
      codeAny (model l.prog w) callerA (.call (.ref fa) ⟨[.ref a], []⟩) (fun r s' => r = .ok (.ret (.bool true)) ∧ OldK s₁.heap s'.heap ∧ s'.os = s₁.os ∧ AllBare s'.gens) s₁) :
    WalkO q loose XP YP l.row.toRowW d [] (fun f vs => PySem.call f vs) := by
  intro w s₀ s₁ mg mb G Y fa o pm cd doc dV kV ho hd hcd hD hmg hg args vals as hpre hlay hrd hwl hlo
  obtain rfl : dV = .none := Dflts.none hD hdf
  obtain rfl : kV = .none := Dflts.noKw hD
  obtain ⟨a, vs, ns, rfl, rfl, hobj, hints, hlen⟩ := script_of hn hpre hwl
  refine enter_call (codeAny_mono (call w s₀ s₁ mg mb fa o pm cd doc a vs ns G Y ho (fd_plain hd) hcd hmg hobj hints hlen hg) fun r s' hq => ?_)
  obtain ⟨rfl, h2, h3, h4⟩ := hq
  exact ⟨.inl ⟨.bool true, .bool true, [], rfl, fun _ => rfl, .bool true, post_true l _, fun _ => ⟨List.Pairwise.nil, fun _ hm => (nomatch hm)⟩⟩, h2, h3, h4⟩
section
variable {prog : Program} {w : World} {A : Around} {E : Value → Shared → Prop} {s : Shared} {K : Frag}
end
end Att
namespace L2
open PySem PySem.Spec PyProof.Rows
theorem vals_ints : ∀ {vs : List Value} {ns : List Int}, IntsAre vs ns → Vals (ns.map V.int) vs
  | _, _, .nil => .nil
  | _, _, .cons n t h => .cons ⟨t, rfl⟩ (vals_ints h)
def Only (H : Hp) : Prop := ∀ b, H b = none ∨ ∃ o xs, H b = some (.frz o (.lst xs))
theorem law_call {P : Program} {w : World} {K : PySem.W.Frag} {mg mb : Str → Option Value} {CX : CXT} {k : Nat} {fa a : Addr} {fd : FuncData} {x : Str} {sp : Sp} {s₁ : Shared} {vs : List Value} {ns : List Int}
    (KX : K.In s₁.heap) (hns : s₁.heap.Ns mainGlobals mg) (hb : s₁.heap.Ns builtinsNs mb) (hbb : ∀ x : Str, x ≠ "__name__" → mb x = bootBuiltins x) (hlim : s₁.heap.NoLimit) (hg : s₁.gens = #[])
    (ha : s₁.heap.get? a = some { cls := .type "list", data := .seq vs.toArray }) (hi : IntsAre vs ns) (hl : ns.length ≤ sizeLine) (hr : Room k callerA)
    (F : ∀ base : Heap, K.In base → base.Ns mainGlobals mg → FnOk P w K mg base CX k fa fd [x] sp) (hbind : ∀ (s : Shared) (u : Value), BindsTo s fd ⟨[u], []⟩ [(x, u)])
    (hsp : ∀ H : Hp, Only H → SqL K H a (ns.map V.int) → sp [.ref a] H (fun v _ => v = .bl true) fun _ _ _ => False)
    (hCX : ∀ H e s', CX [] H s₁ (fun _ _ _ => False) e s' → False) :
    codeAny (model P w) callerA (.call (.ref fa) ⟨[.ref a], []⟩) (fun r s' => r = .ok (.ret (.bool true)) ∧ OldK s₁.heap s'.heap ∧ s'.os = s₁.os ∧ AllBare s'.gens) s₁ := by
  have rv := vals_ints hi
  have lenV := hi.length
  -- from an abstract heap in which nothing but the script may be tracked
  have core : ∀ H : Hp, Only H → SqL K H a (ns.map V.int) → HOk P w H s₁.heap → (∀ b, H b ≠ none → b = a) → (H a ≠ none → K.lookup a = none) →
      codeAny (model P w) callerA (.call (.ref fa) ⟨[.ref a], []⟩) (fun r s' => r = .ok (.ret (.bool true)) ∧ OldK s₁.heap s'.heap ∧ s'.os = s₁.os ∧ AllBare s'.gens) s₁ := by
    intro H hO hS hok hA hK
    have base_of : ∀ {b : Addr} {o : Obj}, s₁.heap.get? b = some o → H b = none → (hidT s₁.heap H).get? b = some o := fun e n => hidT_get e n
    have noA : ∀ {b : Addr} {o : Obj} {es : Array DictEntry} {ep : Nat}, s₁.heap.get? b = some o → o.data = .dict es ep → H b = none := fun {b o es ep} e d => by
      cases q : H b with
      | none => rfl
      | some u =>
        have e' : b = a := hA b (by rw [q]; simp)
        subst e'
        rw [ha] at e; cases e
        have d' : Data.seq vs.toArray _ = Data.dict es ep := d
        cases d'
    have nsK : ∀ {b : Addr} {m : Str → Option Value}, s₁.heap.Ns b m → (hidT s₁.heap H).Ns b m := fun {b m} ⟨o, es, ep, e, d, r⟩ => ⟨o, es, ep, base_of e (noA e d), d, r⟩
    have hKb : K.In (hidT s₁.heap H) := fun b o e => base_of (KX b o e) (by
      cases q : H b with
      | none => rfl
      | some u =>
        have e' : b = a := hA b (by rw [q]; simp)
        subst e'
        rw [hK (by rw [q]; simp)] at e; cases e)
    have hM : Mod K mg (hidT s₁.heap H) := ⟨hKb, nsK hns, ⟨mb, nsK hb, hbb⟩, let ⟨mc, h1, h2⟩ := hlim; ⟨mc, nsK h1, h2⟩⟩
    have e0 : Env0 P w K mg (hidT s₁.heap H) callerA [] s₁ H := ⟨rfl, hM, fun b o e => of_hidT e, Nat.le_of_eq (hidT_size _ _), trivial, fun b hb => absurd (show b ∈ ([] : List Addr) from hb) (by simp), hok, .of_eq hg⟩
    refine codeAny_mono ((F _ hKb (nsK hns)).run callerA [] s₁ H ⟨[.ref a], []⟩ [.ref a] [.ref a] _ _ hr e0 (hbind s₁ (.ref a)) (.cons rfl .nil) (hsp H hO hS)) fun r s' h => ?_
    cases r with
    | error e => exact (hCX H e s' h).elim
    | ok fl =>
      cases fl with
      | next => exact False.elim h
      | brk => exact False.elim h
      | cont => exact False.elim h
      | ret u =>
        obtain ⟨v, H', os, bare, un, hok', r', q⟩ := h
        have q' : v = .bl true := q
        subst q'
        obtain rfl : u = Value.bool true := r'
        refine ⟨rfl, OldK.of_keep fun b o e => ?_, os, bare⟩
        cases q : H b with
        | none => exact un.keep b o e q (by intro z; exact absurd (show b ∈ ([] : List Addr) from z) (by simp)) (by simp)
        | some u =>
          rcases hO b with z | ⟨ob, xs, z⟩
          · rw [q] at z; cases z
          · have z2 := un.frzs b ob _ z
            obtain ⟨e1, _⟩ := hok b _ z
            obtain ⟨e2, _⟩ := hok' b _ z2
            rw [e] at e1; cases e1
            exact e2
  cases hk : K.lookup a with
  | some o =>
    -- the script is one of the module's own objects
    have e := KX a o hk
    rw [ha] at e
    cases e
    refine core (fun _ => none) (fun _ => .inl rfl) (.inr ⟨_, vs.toArray, _, hk, rfl, rfl, rfl, by rw [List.size_toArray, lenV]; exact hl, by simpa using rv⟩) (fun b u z => by have z' : (none : Option HO) = some u := z; cases z') (fun b z => absurd rfl z) fun z => absurd rfl z
  | none =>
    refine core (fun b => if b = a then some (.frz { cls := .type "list", data := .seq vs.toArray } (.lst (ns.map V.int))) else none) (fun b => ?_) (.inl (.inr ⟨{ cls := .type "list", data := .seq vs.toArray }, if_pos rfl⟩)) (fun b u z => ?_) (fun b z => ?_) fun _ => hk
    · by_cases hb : b = a
      · exact .inr ⟨_, _, if_pos hb⟩
      · exact .inl (if_neg hb)
    · by_cases hb : b = a
      · have z' := (if_pos hb).symm.trans z
        cases z'
        subst hb
        exact ⟨ha, by rw [List.length_map]; exact hl, vs, _, rv, ha⟩
      · have z' := (if_neg hb).symm.trans z
        cases z'
    · by_cases hb : b = a
      · exact hb
      · exact absurd (if_neg hb) z
end L2
namespace L2
open PySem PySem.Spec PyProof.Rows
theorem walk_of {l : PySem.W.OpenLaw} {n k : Nat} {q : Program} {loose : List Str} {XP : (Str → Option Value) → Heap → Prop} {YP : World → Heap → Prop} {d : DefRec} {K : Params → PySem.W.Frag} {CX : World → CXT} {sp : World → Sp} {x : Str}
    (hn : l.most = some n) (hn2 : n ≤ sizeLine) (hdf : d.params.defaults = []) (hr : Room k callerA)
    (hY : ∀ (w : World) (h : Heap), YP w h → (K w.params).In h)
    (F : ∀ (w : World) (mg : Str → Option Value) (fa : Addr) (h : Heap), (K w.params).In h → h.Ns mainGlobals mg → mg d.name = some (.ref fa) →
      ∃ fd : FuncData, (∀ (s : Shared) (u : Value), BindsTo s fd ⟨[u], []⟩ [(x, u)]) ∧
        ∀ base : Heap, (K w.params).In base → base.Ns mainGlobals mg → FnOk l.prog w (K w.params) mg base (CX w) k fa fd [x] (sp w))
    (hsp : ∀ (w : World) (H : Hp) (a : Addr) (ns : List Int), ns.length ≤ n → Only H → SqL (K w.params) H a (ns.map V.int) → sp w [.ref a] H (fun v _ => v = .bl true) fun _ _ _ => False)
    (hCX : ∀ (w : World) (H : Hp) (s : Shared) (e : Value) (s' : Shared), CX w [] H s (fun _ _ _ => False) e s' → False) :
    PySem.W.WalkO q loose XP YP l.row.toRowW d [] (fun f vs => PySem.call f vs) := by
  refine Att.attach_call hn hdf fun w s₀ s₁ mg mb fa o pm cd doc a vs ns G Y ho hd hcd hmg hobj hints hlen hg => ?_
  have KX := hY w _ Y
  obtain ⟨fd, hb, hF⟩ := F w mg fa _ KX G.T.g hmg
  exact law_call KX G.T.g G.T.b G.T.builtins G.T.nolimit hg hobj hints (Nat.le_trans hlen hn2) hr hF hb (fun H hO hS => hsp w H a ns hlen hO hS) fun H e s' => hCX w H s₁ e s'
end L2
namespace L2
open PySem PySem.Spec PyProof.Rows
def defArgs (s : Stmt) : Arguments := match s with
  | .FunctionDef _ a _ _ _ _ _ _ _ _ => a
  | _ => { posonlyargs := [], args := [], vararg := none, kwonlyargs := [], kw_defaults := [], kwarg := none, defaults := [] }
def defBody (s : Stmt) : List Stmt := match s with
  | .FunctionDef _ _ b _ _ _ _ _ _ _ => b
  | _ => []
def defScope (s : Stmt) : Scope := match s with
  | .FunctionDef _ _ _ _ _ _ sc _ _ _ => sc
  | _ => { kind := .function, names := [], isGenerator := false, isCoroutine := false }
abbrev CX0 : CXT := fun _ _ _ _ _ _ => False
abbrev E0 : XK := fun _ _ _ => False
theorem pass0 {X : Cx} : Passes CX0 X E0 := fun _ _ _ _ _ _ _ h => h.elim
structure Fun (K : PySem.W.Frag) (x qual : Str) (st : Stmt) (f : Addr) (fd : FuncData) : Prop where
  ex : ∃ (oc : Value) (od : Option Addr) (kV doc pm : Value) (an : Option Addr) (cdv ct : Value) (osl : Array (Option Value)),
    fd = PySem.W.fnOf x qual (defArgs st) (defBody st) (defScope st) .none kV doc pm an cdv ct ∧ K.lookup f = some ⟨oc, od, .func fd, osl⟩ ∧ PySem.W.codeIn K cdv qual = true
  kp : PySem.W.keepIn K (.ref f) = true
section
variable {P : Program} {w : World} {K : PySem.W.Frag} {mg : Str → Option Value} {base : Heap}
theorem Fun.ok {x qual : Str} {st : Stmt} {f : Addr} {fd : FuncData} {N ps : List Str} {k : Nat} {sp : Sp} (F : Fun K x qual st f fd) (S : FnScope N ps (defScope st)) (len : ∀ vs H Q E, sp vs H Q E → vs.length = ps.length)
    (hbody : ∀ (cdv : Value) (A : Around) (outer : List Env) (s : Shared) (H : Hp) (vs : List V) (Q : VK) (E : XK), Room k (A.deeper (envOfC qual (defScope st) s.heap.objs.size f cdv)) → sp vs H Q E →
      ∃ t, PSs (cxOf CX0 P w K mg base N qual (defScope st) f cdv A outer s H E).nox (defBody st) t ∧ t { nx := fun _ H' => Q .non H', rt := Q } (start N vs) H) : FnOk P w K mg base CX0 (k + 1) f fd ps sp := by
  obtain ⟨oc, od, kV, doc, pm, an, cdv, ct, osl, rfl, lk, hcd⟩ := F.ex
  refine fn_of lk hcd S len fun A outer s H vs Q E hr hsp => ?_
  obtain ⟨t, h, q⟩ := hbody cdv A outer s H vs Q E hr hsp
  exact ⟨t, h.nox, q⟩
theorem Fun.binds {x qual : Str} {st : Stmt} {f : Addr} {fd : FuncData} {ps : List Str} (F : Fun K x qual st f fd)
    (h : ∀ (kV doc pm : Value) (an : Option Addr) (cdv ct : Value) (us : List Value), us.length = ps.length → bindArgs (PySem.W.fnOf x qual (defArgs st) (defBody st) (defScope st) .none kV doc pm an cdv ct) ⟨us, []⟩ = pure (ps.zip us)) : Binds K fd ps [] := by
  obtain ⟨oc, od, kV, doc, pm, an, cdv, ct, osl, rfl, lk, hcd⟩ := F.ex
  exact .all (h kV doc pm an cdv ct)
theorem fun_mk {x qual : Str} {st : Stmt} {f : Addr} {oc : Value} {od an : Option Addr} {osl : Array (Option Value)} {kV doc pm cdv ct : Value} (l : K.lookup f = some ⟨oc, od, .func (PySem.W.fnOf x qual (defArgs st) (defBody st) (defScope st) .none kV doc pm an cdv ct), osl⟩)
    (c : PySem.W.codeIn K cdv qual = true) (k : PySem.W.keepIn K (.ref f) = true) : Fun K x qual st f (PySem.W.fnOf x qual (defArgs st) (defBody st) (defScope st) .none kV doc pm an cdv ct) := ⟨⟨oc, od, kV, doc, pm, an, cdv, ct, osl, rfl, l, c⟩, k⟩
end
theorem small1000 {n : Nat} (h : n ≤ 1000) : n < sizeLine := Nat.lt_of_le_of_lt h (by decide)
section
variable {X : Cx}
end
theorem ite2 {c A B : Prop} [Decidable c] (h1 : c → A) (h2 : ¬ c → B) : if c then A else B := by
  by_cases h : c
  · rw [if_pos h]
    exact h1 h
  · rw [if_neg h]
    exact h2 h
def Same (H H' : Hp) : Prop := ∀ b o, H b = some o → H' b = some o
theorem Same.refl (H : Hp) : Same H H := fun _ _ h => h
theorem Same.trans {H H1 H2 : Hp} (a : Same H H1) (b : Same H1 H2) : Same H H2 := fun c o h => b c o (a c o h)
theorem Same.free {H H' : Hp} (e : Same H H') {l : Addr} (h : H' l = Option.none) : H l = Option.none := by
  cases q : H l with
  | none => rfl
  | some o =>
    rw [e l o q] at h
    cases h
theorem Same.seq {K : PySem.W.Frag} {H H' : Hp} {a : Addr} {xs : List V} (e : Same H H') (h : SqL K H a xs) : SqL K H' a xs := by
  rcases h with (h | ⟨o, h⟩) | h
  · exact .inl (.inl (e _ _ h))
  · exact .inl (.inr ⟨o, e _ _ h⟩)
  · exact .inr h
end L2
set_option Elab.async false
set_option linter.all false
set_option maxRecDepth 100000
namespace L2
open PySem PySem.Spec PyProof.Rows
def kindV (H : Hp) : V → Option String
  | .non => some "NoneType"
  | .bl _ => some "bool"
  | .int _ => some "int"
  | .str _ => some "str"
  | .ref p => match H p with
    | some (.lst _) => some "list"
    | some (.tup _) => some "tuple"
    | _ => none
  | _ => none
def subT (a b : String) : Bool := a == b || (a == "bool" && b == "int")
def plainT (T : String) : Prop := T = "int" ∨ T = "bool" ∨ T = "tuple" ∨ T = "list" ∨ T = "str"
section
variable {X : Cx}
theorem call_isi : CallR X (.builtin "isinstance") (fun xs H Q => ∃ x T k, xs = [x, .ty T] ∧ plainT T ∧ kindV H x = some k ∧ Q (.bl (subT k T)) H) := by
  intro pins s σ H xs us Q I r h
  obtain ⟨x, T, k, rfl, hT, hk, q⟩ := h
  obtain ⟨u, w', rfl, rx, ry⟩ := vals2 r
  cases (show w' = Value.type T from ry)
  have fin : ∀ {b : Bool} {s' : Shared}, b = subT k T → Inv X pins σ H s' → EP X pins σ Q (.bool b) s' := fun {b s'} e J => ⟨.bl b, H, J, rfl, by rw [e]; exact q⟩
  cases x with
  | non =>
    cases (show u = Value.none from rx)
    cases hk
    rcases hT with rfl | rfl | rfl | rfl | rfl
    · exact IsiPair.NoneType_int (fin (by decide) (I.tok _))
    · exact IsiPair.NoneType_bool (fin (by decide) (I.tok _))
    · exact IsiPair.NoneType_tuple (fin (by decide) (I.tok _))
    · exact IsiPair.NoneType_list (fin (by decide) (I.tok _))
    · exact IsiPair.NoneType_str (fin (by decide) (I.tok _))
  | bl b =>
    cases (show u = Value.bool b from rx)
    cases hk
    rcases hT with rfl | rfl | rfl | rfl | rfl
    · exact IsiPair.bool_int (fin (by decide) I)
    · exact IsiPair.bool_bool (fin (by decide) I)
    · exact IsiPair.bool_tuple (fin (by decide) (I.tok _))
    · exact IsiPair.bool_list (fin (by decide) (I.tok _))
    · exact IsiPair.bool_str (fin (by decide) (I.tok _))
  | int i =>
    obtain ⟨t, rfl⟩ := (show ∃ t, u = Value.int i t from rx)
    cases hk
    rcases hT with rfl | rfl | rfl | rfl | rfl
    · exact IsiPair.int_int (fin (by decide) I)
    · exact IsiPair.int_bool (fin (by decide) (I.tok _))
    · exact IsiPair.int_tuple (fin (by decide) (I.tok _))
    · exact IsiPair.int_list (fin (by decide) (I.tok _))
    · exact IsiPair.int_str (fin (by decide) (I.tok _))
  | str z =>
    obtain ⟨t, rfl⟩ := (show ∃ t, u = Value.str z t from rx)
    cases hk
    rcases hT with rfl | rfl | rfl | rfl | rfl
    · exact IsiPair.str_int (fin (by decide) (I.tok _))
    · exact IsiPair.str_bool (fin (by decide) (I.tok _))
    · exact IsiPair.str_tuple (fin (by decide) (I.tok _))
    · exact IsiPair.str_list (fin (by decide) (I.tok _))
    · exact IsiPair.str_str (fin (by decide) I)
  | ref p =>
    cases (show u = Value.ref p from rx)
    cases e : H p with
    | none => simp [kindV, e] at hk
    | some o =>
      cases o with
      | lst ys =>
        have hk' : k = "list" := by simp [kindV, e] at hk; exact hk.symm
        subst hk'
        obtain ⟨its, n, rr, ho, hz⟩ := I.lst e
        rcases hT with rfl | rfl | rfl | rfl | rfl
        · exact IsiPair.list_int ho rfl (fin (by decide) (I.tok _))
        · exact IsiPair.list_bool ho rfl (fin (by decide) (I.tok _))
        · exact IsiPair.list_tuple ho rfl (fin (by decide) (I.tok _))
        · exact IsiPair.list_list ho rfl (fin (by decide) I)
        · exact IsiPair.list_str ho rfl (fin (by decide) (I.tok _))
      | tup ys =>
        have hk' : k = "tuple" := by simp [kindV, e] at hk; exact hk.symm
        subst hk'
        obtain ⟨its, rr, ⟨ob, ho, hc, _⟩, hz⟩ := I.tuple (xs := ys) (.inl (.inl e))
        rcases hT with rfl | rfl | rfl | rfl | rfl
        · exact IsiPair.tuple_int ho hc (fin (by decide) (I.tok _))
        · exact IsiPair.tuple_bool ho hc (fin (by decide) (I.tok _))
        · exact IsiPair.tuple_tuple ho hc (fin (by decide) I)
        · exact IsiPair.tuple_list ho hc (fin (by decide) (I.tok _))
        · exact IsiPair.tuple_str ho hc (fin (by decide) (I.tok _))
      | _ => simp [kindV, e] at hk
  | _ => cases hk
def rBits : V → List V → Hp → VK → Prop := fun x xs H Q => ∃ i, x = .int i ∧ xs = [] ∧ Q (.int (Builtin.Int.intBits i : Nat)) H
def CMulB (i j : Int) : Prop := Builtin.Int.intBits i + Builtin.Int.intBits j ≤ 134217728
def CDivB (i j : Int) : Prop := 0 < j ∧ j.natAbs.log2 < 9000
theorem op_fdivB : OpR X (binaryOp .FloorDiv) (rI CDivB fun i j => .int (i / j)) := opI fun i j _ _ _ _ _ hc q => by
  have h1 : (0 : Int) < j := hc.1
  exact floordiv_int (by omega) (by rw [Int.fdiv_eq_ediv_of_nonneg i (by omega)]; exact q) (.inl (PyProof.noPylong_of_log2 hc.2))
def CDivF (i j : Int) : Prop := j ≠ 0 ∧ j.natAbs.log2 < 9000
def eqVs : List V → List V → Bool
  | [], [] => true
  | x :: xs, y :: ys => eqV x y && eqVs xs ys
  | _, _ => false
end
end L2
namespace L2
open PySem PySem.Spec PyProof.Rows
def Fn0 (K : PySem.W.Frag) (mg : Str → Option Value) (x : Str) (st : Stmt) : Prop := ∃ f fd, Fun K x x st f fd ∧ mg x = some (.ref f)
theorem fn0_mk {K : PySem.W.Frag} {mg : Str → Option Value} {h : Heap} (X : K.In h) (G : h.Ns mainGlobals mg) {x : Str} {st : Stmt} {f : Addr} {oc : Value} {od an : Option Addr} {osl : Array (Option Value)} {kV doc pm cdv ct : Value}
    (a : PySem.W.nsIn K mainGlobals x = some (some (.ref f))) (l : K.lookup f = some ⟨oc, od, .func (PySem.W.fnOf x x (defArgs st) (defBody st) (defScope st) .none kV doc pm an cdv ct), osl⟩) (c : PySem.W.codeIn K cdv x = true) (k : PySem.W.keepIn K (.ref f) = true) : Fn0 K mg x st :=
  ⟨f, _, fun_mk l c k, PySem.W.mg_of X G a⟩
def Cal (P : Program) (w : World) (K : PySem.W.Frag) (mg : Str → Option Value) (base : Heap) (x : Str) (ps : List Str) (k : Nat) (sp : Sp) : Prop :=
  ∃ f fd, mg x = some (.ref f) ∧ PySem.W.keepIn K (.ref f) = true ∧ Binds K fd ps [] ∧ FnOk P w K mg base CX0 k f fd ps sp
theorem cal_of {P : Program} {w : World} {K : PySem.W.Frag} {mg : Str → Option Value} {base : Heap} {x : Str} {st : Stmt} {N ps : List Str} {k : Nat} {sp : Sp} (F : Fn0 K mg x st) (S : FnScope N ps (defScope st))
    (hb : ∀ (kV doc pm : Value) (an : Option Addr) (cdv ct : Value) (us : List Value), us.length = ps.length → bindArgs (PySem.W.fnOf x x (defArgs st) (defBody st) (defScope st) .none kV doc pm an cdv ct) ⟨us, []⟩ = pure (ps.zip us))
    (len : ∀ vs H Q E, sp vs H Q E → vs.length = ps.length)
    (hbody : ∀ (f : Addr) (cdv : Value) (A : Around) (outer : List Env) (s : Shared) (H : Hp) (vs : List V) (Q : VK) (E : XK), Room k (A.deeper (envOfC x (defScope st) s.heap.objs.size f cdv)) → sp vs H Q E →
      ∃ t, PSs (cxOf CX0 P w K mg base N x (defScope st) f cdv A outer s H E).nox (defBody st) t ∧ t { nx := fun _ H' => Q .non H', rt := Q } (start N vs) H) : Cal P w K mg base x ps (k + 1) sp := by
  obtain ⟨f, fd, F, m⟩ := F
  exact ⟨f, fd, m, F.kp, F.binds hb, F.ok S len fun cdv A outer s H vs Q E => hbody f cdv A outer s H vs Q E⟩
section
variable {X : Cx} {x : Str} {ps : List Str} {k : Nat} {sp : Sp} {e : Expr} {es : List Expr} {t : TA} {p pos : Pos}
theorem pe_callC (C : Cal X.prog X.w X.K X.mg X.base x ps k sp) (hr : Room k X.A) (hg : Gl X x) (ha : PA X (e :: es) t) (hdb : (x == ("__debug__" : Str)) = false := by decide)
    (he : starEach (e :: es) X.env = (false, eval e X.env) :: starEach es X.env := by rfl) (hpl : (backTo pos (starEach es X.env)).any (·.1) = false := by rfl) : PE X (.Call (.Name x p) (e :: es) [] pos) (tCall sp [] E0 t) := by
  obtain ⟨f, fd, m, kp, b, F⟩ := C
  exact pe_call F hr hg m kp b .nil pass0 ha hdb he hpl
end
theorem Same.upd {H H' : Hp} {a : Addr} {o : HO} (e : Same H H') (h : H a = none) : Same H (upd H' a o) := fun b o' q => by
  rw [upd_ne (ne_of_none q h)]
  exact e b o' q
theorem Same.new {H : Hp} {a : Addr} {o : HO} (h : H a = none) : Same H (L2.upd H a o) := (Same.refl H).upd h
end L2
set_option Elab.async false
set_option linter.all false
set_option maxRecDepth 100000
namespace L2
open PySem PySem.Spec PyProof.Rows
def rIxTH : R2 := fun x y H Q => ∃ p xs i v, x = .ref p ∧ y = .int i ∧ H p = some (.tup xs) ∧ atI xs i = some v ∧ Q v H
def rIxLH : R2 := fun x y H Q => ∃ p xs i v, x = .ref p ∧ y = .int i ∧ H p = some (.lst xs) ∧ atI xs i = some v ∧ Q v H
theorem ix_tupH {X : Cx} : IxR X rIxTH := by
  intro value slice pins s σ H x y v u Q I rx ry h hs
  obtain ⟨p, xs, i, z, e1, e2, hp, ha, q⟩ := h
  exact ix_tup value slice pins s σ H x y v u Q I rx ry ⟨p, xs, i, z, e1, e2, .inl (.inl hp), ha, q⟩ hs
theorem ix_listH {X : Cx} : IxR X rIxLH := by
  intro value slice pins s σ H x y v u Q I rx ry h hs
  obtain ⟨p, xs, i, z, e1, e2, hp, ha, q⟩ := h
  exact ix_list value slice pins s σ H x y v u Q I rx ry ⟨p, xs, i, z, e1, e2, .inl (.inl hp), ha, q⟩ hs
def rEqTH : R2 := fun x y H Q => ∃ a b xs ys, x = .ref a ∧ y = .ref b ∧ H a = some (.tup xs) ∧ H b = some (.tup ys) ∧ xs.all flatV = true ∧ ys.all flatV = true ∧ Q (.bl (eqVs xs ys)) H
def rLenH : List V → Hp → VK → Prop := fun xs H Q => ∃ p ys, xs = [V.ref p] ∧ (H p = some (.lst ys) ∨ H p = some (.tup ys)) ∧ Q (.int ys.length) H
theorem call_lenH {X : Cx} : CallR X (.builtin "len") rLenH := by
  intro pins s σ H xs us Q I r h
  obtain ⟨p, ys, e, hp, q⟩ := h
  exact call_len_seq pins s σ H xs us Q I r ⟨p, ys, e, hp.imp (fun z => .inl (.inl z)) (fun z => .inl (.inl z)), q⟩
theorem pe_bty {X : Cx} {x : Str} {n : String} {pos : Pos} (hg : Gl X x) (hm : X.mg x = none) (hv : bootBuiltins x = some (.type n)) (hn : x ≠ "__name__" := by decide) (hd : (x == ("__debug__" : Str)) = false := by decide) : PE X (.Name x pos) (tC (.ty n)) :=
  pe_bltn hg hm hv rfl hn hd
theorem atI_0 {α : Type} {x : α} {xs : List α} : atI (x :: xs) 0 = some x := by simp [atI, ixN]
theorem atI_1 {α : Type} {x y : α} {xs : List α} : atI (x :: y :: xs) 1 = some y := by
  have h : (1 : Int) < (xs.length : Int) + 1 + 1 := by omega
  simp [atI, ixN, h]
theorem atI_2 {α : Type} {x y z : α} {xs : List α} : atI (x :: y :: z :: xs) 2 = some z := by
  have h : (2 : Int) < (xs.length : Int) + 1 + 1 + 1 := by omega
  simp [atI, ixN, h]
theorem atI_nn {α : Type} {xs : List α} {i : Int} {v : α} (h0 : 0 ≤ i) (h : xs[i.toNat]? = some v) : atI xs i = some v := by
  have hl : i.toNat < xs.length := (List.getElem?_eq_some_iff.mp h).1
  have hl' : i < xs.length := by omega
  unfold atI ixN
  rw [if_pos h0, if_pos hl']
  exact h
theorem ixN_00 (n : Nat) : ixN (n + 1) 0 = some 0 := by
  have : (0 : Int) < (n : Int) + 1 := by omega
  simp [ixN, this]
def ForGo (J : It) (g : TG) (tb : TS) (D : Ends) (σ : St) (H : Hp) : Prop := ∃ W : Nat → Nat → St → Hp → Prop, (∃ m, W 0 m σ H) ∧ ∀ i m σ H, W i m σ H →
  (J.stop i H ∧ D.nx σ H) ∨ (J.go i H ∧ ∃ N : St → Hp → Prop, (∀ σ' H', N σ' H' → ∃ m', m' < m ∧ W (i + 1) m' σ' H') ∧ ∀ x H', J.yld i H x H' → g x σ H' fun σ2 H2 => tb { D with nx := N, ct := N, bk := D.nx } σ2 H2)
theorem tFor_eq {wi : TI} {g : TG} {tb : TS} {D : Ends} {σ : St} {H : Hp} : tFor wi g tb D σ H = wi σ H fun J H1 => ForGo J g tb D σ H1 := rfl
theorem go_range {lo : Int} {n : Nat} {g : TG} {tb : TS} {D : Ends} {σ : St} {H : Hp} (Pv : Nat → St → Hp → Prop) (h0 : Pv 0 σ H)
    (hs : ∀ i σ H, i < n → Pv i σ H → g (.int (lo + i)) σ H fun σ2 H2 => tb { D with nx := Pv (i + 1), ct := Pv (i + 1), bk := D.nx } σ2 H2) (hd : ∀ σ H, Pv n σ H → D.nx σ H) : ForGo (Itr lo n) g tb D σ H := for_range Pv h0 hs hd
theorem go_list {K : PySem.W.Frag} {a : Addr} {xs : List V} {g : TG} {tb : TS} {D : Ends} {σ : St} {H : Hp} (Pv : Nat → St → Hp → Prop) (h0 : Pv 0 σ H) (hl : ∀ i σ H, i ≤ xs.length → Pv i σ H → SqL K H a xs)
    (hs : ∀ i x σ H, xs[i]? = some x → Pv i σ H → g x σ H fun σ2 H2 => tb { D with nx := Pv (i + 1), ct := Pv (i + 1), bk := D.nx } σ2 H2) (hd : ∀ σ H, Pv xs.length σ H → D.nx σ H) : ForGo (Itl K a) g tb D σ H := for_list Pv h0 hl hs hd
def notStar : Expr → Bool
  | .Starred .. => false
  | _ => true
theorem starEach_plain {e : Expr} {es : List Expr} {env : Env} (h : notStar e = true) : starEach (e :: es) env = (false, eval e env) :: starEach es env := by
  cases e <;> first | rfl | exact absurd (show false = true from h) Bool.false_ne_true
def plainArgs : List Expr → Bool
  | [] => true
  | e :: es => notStar e && plainArgs es
theorem backTo_plain {pos : Pos} {env : Env} : ∀ {es : List Expr}, plainArgs es = true → (backTo pos (starEach es env)).any (·.1) = false
  | [], _ => rfl
  | e :: es, h => by
    have h' : notStar e = true ∧ plainArgs es = true := by simpa [plainArgs] using h
    rw [starEach_plain h'.1]
    show (false || (backTo pos (starEach es env)).any (·.1)) = false
    rw [backTo_plain h'.2]
    rfl
def isComp : Expr → Bool
  | .ListComp .. => true
  | .SetComp .. => true
  | .DictComp .. => true
  | _ => false
theorem swaps_plain {e : Expr} {t : Option Expr} {n : Nat} {env : Env} (h : isComp e = false) : swapsWith e t n env = pure false := by
  cases e <;> first | rfl | exact absurd (show true = false from h) Bool.noConfusion
section
variable {X : Cx} {x : Str} {ps : List Str} {k : Nat} {sp : Sp} {e : Expr} {es : List Expr} {te : TE} {t : TA} {p pos : Pos} {id : String} {r : List V → Hp → VK → Prop}
theorem pa_c (ha : PE X e te) (hr : PA X es t) (hs : notStar e = true := by rfl) : PA X (e :: es) (tCons te t) := pa_cons ha hr (starEach_plain hs)
theorem pe_callD (C : Cal X.prog X.w X.K X.mg X.base x ps k sp) (hr : Room k X.A) (hg : Gl X x) (ha : PA X (e :: es) t) (hs : plainArgs (e :: es) = true := by rfl) (hdb : (x == ("__debug__" : Str)) = false := by decide) :
    PE X (.Call (.Name x p) (e :: es) [] pos) (tCall sp [] E0 t) :=
  have h' : notStar e = true ∧ plainArgs es = true := by simpa [plainArgs] using hs
  pe_callC C hr hg ha hdb (starEach_plain h'.1) (backTo_plain h'.2)
theorem pe_callE (hc : CallR X (.builtin id) r) (hg : Gl X x) (hm : X.mg x = none) (hv : bootBuiltins x = some (.builtin id)) (ha : PA X (e :: es) t) (hs : plainArgs (e :: es) = true := by rfl) (hn : x ≠ "__name__" := by decide) (hdb : (x == ("__debug__" : Str)) = false := by decide) :
    PE X (.Call (.Name x p) (e :: es) [] pos) (tCB r t) :=
  have h' : notStar e = true ∧ plainArgs es = true := by simpa [plainArgs] using hs
  pe_callB hc hg hm hv ha hn hdb (starEach_plain h'.1) (backTo_plain h'.2)
theorem ps_set1 {i : Nat} {pos' : Pos} (hN : X.N.Nodup) (hi : X.N[i]? = some x) (hx : X.env.scope.names.lookup x = some .local) (he : PE X e te) (hs : isComp e = false := by rfl) : PS X (.Assign [.Name x pos'] e pos) (tAsg te (gName i)) :=
  ps_set hN hi (.inl hx) he (swaps_plain hs) (.inr hx)
theorem pg_name1 {i : Nat} (hN : X.N.Nodup) (hi : X.N[i]? = some x) (hx : X.env.scope.names.lookup x = some .local) : PG X (.Name x pos) (gName i) := pg_name hN hi (.inl hx) (.inr hx)
theorem ps_expr1 (he : PE X e te) (hs : isComp e = false := by rfl) : PS X (.Expr e pos) (tDrop te) := ps_expr he (swaps_plain hs)
theorem pv1 (i : Nat) (hN : X.N[i]? = some x := by rfl) (hv : X.env.scope.names.lookup x = some .local := by rfl) (hd : (x == ("__debug__" : Str)) = false := by decide) (hcd : (x == ("__classdict__" : Str)) = false := by decide) : PE X (.Name x pos) (tVar i) := pe_var hN (.inl hv) hd hcd
end
theorem bt_len : bootBuiltins "len" = some (.builtin "len") := by decide +kernel
theorem bt_min : bootBuiltins "min" = some (.builtin "min") := by decide +kernel
theorem bt_isinstance : bootBuiltins "isinstance" = some (.builtin "isinstance") := by decide +kernel
theorem bt_sorted : bootBuiltins "sorted" = some (.builtin "sorted") := by decide +kernel
theorem bt_int : bootBuiltins "int" = some (.type "int") := by decide +kernel
theorem bt_bool : bootBuiltins "bool" = some (.type "bool") := by decide +kernel
theorem bt_tuple : bootBuiltins "tuple" = some (.type "tuple") := by decide +kernel
theorem bt_list : bootBuiltins "list" = some (.type "list") := by decide +kernel
end L2
set_option Elab.async false
set_option linter.all false
set_option maxRecDepth 100000
set_option maxHeartbeats 1000000
namespace L2
open PySem PySem.Spec PyProof.Rows
def clOf (cells : List (Str × Addr)) : List (Str × NameKind) → List (Str × Addr) → List (Str × Addr)
  | [], acc => acc
  | (n, k) :: r, acc => if k == .free then clOf cells r ((n, (cells.lookup n).getD 0) :: acc) else clOf cells r acc
theorem closure_go {env : Env} : ∀ (names : List (Str × NameKind)) (acc : List (Str × Addr)), (∀ p ∈ names, p.2 = .free → ∃ c, env.cells.lookup p.1 = some c) →
    (forIn (m := Sem) names acc fun x r => (match x with | (name, kind) => if (kind == NameKind.free) = true then do let a ← cellOf env name; pure (ForInStep.yield ((name, a) :: r)) else pure (ForInStep.yield r))) = pure (clOf env.cells names acc) := by
  intro names
  induction names with
  | nil => intro acc _; rfl
  | cons p r ih =>
    intro acc h
    obtain ⟨n, k⟩ := p
    rw [List.forIn_cons]
    by_cases hk : (k == NameKind.free) = true
    · obtain ⟨c, hc⟩ := h (n, k) List.mem_cons_self (by simpa using hk)
      have e1 : cellOf env n = pure c := by unfold cellOf; rw [hc]
      simp only [hk, if_true, e1]
      have := ih ((n, c) :: acc) fun p hp => h p (List.mem_cons_of_mem _ hp)
      show _ = pure (clOf env.cells ((n, k) :: r) acc)
      rw [clOf, if_pos hk, hc]
      exact this
    · simp only [hk]
      have := ih acc fun p hp => h p (List.mem_cons_of_mem _ hp)
      show _ = pure (clOf env.cells ((n, k) :: r) acc)
      rw [clOf, if_neg hk]
      exact this
theorem closure_is {scope : Scope} {env : Env} (h : ∀ p ∈ scope.names, p.2 = .free → ∃ c, env.cells.lookup p.1 = some c) : closureFor scope env = pure (clOf env.cells scope.names []) := by
  unfold closureFor
  exact Eq.trans (congrArg (fun z => z >>= fun s => pure s) (closure_go (env := env) scope.names [] h)) rfl
theorem clOf_mem {cells : List (Str × Addr)} : ∀ (names : List (Str × NameKind)) (acc : List (Str × Addr)), (∀ p ∈ names, p.2 = .free → ∃ c, cells.lookup p.1 = some c) → (∀ q ∈ acc, cells.lookup q.1 = some q.2) → ∀ q ∈ clOf cells names acc, cells.lookup q.1 = some q.2
  | [], acc, _, h => h
  | (n, k) :: r, acc, h1, h2 => by
    rw [clOf]
    by_cases hk : (k == NameKind.free) = true
    · rw [if_pos hk]
      refine clOf_mem r _ (fun p hp => h1 p (List.mem_cons_of_mem _ hp)) fun q hq => ?_
      rcases List.mem_cons.mp hq with rfl | hq
      · obtain ⟨c, hc⟩ := h1 (n, k) List.mem_cons_self (by simpa using hk)
        rw [hc]
        rfl
      · exact h2 q hq
    · rw [if_neg hk]
      exact clOf_mem r _ (fun p hp => h1 p (List.mem_cons_of_mem _ hp)) h2
theorem clOf_has {cells : List (Str × Addr)} {x : Str} : ∀ (names : List (Str × NameKind)) (acc : List (Str × Addr)), ((x, NameKind.free) ∈ names ∨ ∃ c, (x, c) ∈ acc) → ∃ c, (x, c) ∈ clOf cells names acc
  | [], acc, h => h.elim (fun z => absurd z (by simp)) id
  | (n, k) :: r, acc, h => by
    rw [clOf]
    by_cases hk : (k == NameKind.free) = true
    · rw [if_pos hk]
      refine clOf_has r _ ?_
      rcases h with h | ⟨c, hc⟩
      · rcases List.mem_cons.mp h with e | h
        · cases e
          exact .inr ⟨_, List.mem_cons_self⟩
        · exact .inl h
      · exact .inr ⟨c, List.mem_cons_of_mem _ hc⟩
    · rw [if_neg hk]
      refine clOf_has r _ ?_
      rcases h with h | h
      · rcases List.mem_cons.mp h with e | h
        · cases e
          exact absurd rfl hk
        · exact .inl h
      · exact .inr h
theorem lookup_some_of_mem {x : Str} {c : Addr} : ∀ {l : List (Str × Addr)}, (x, c) ∈ l → ∃ c', l.lookup x = some c'
  | (n, d) :: r, h => by
    rw [List.lookup_cons]
    cases e : x == n with
    | true => exact ⟨d, rfl⟩
    | false =>
      rcases List.mem_cons.mp h with z | h
      · cases z
        simp at e
      · exact lookup_some_of_mem h
theorem clOf_from {cells : List (Str × Addr)} {q : Str × Addr} : ∀ (names : List (Str × NameKind)) (acc : List (Str × Addr)), q ∈ clOf cells names acc → (q.1, NameKind.free) ∈ names ∨ q ∈ acc
  | [], acc, h => .inr h
  | (n, k) :: r, acc, h => by
    rw [clOf] at h
    by_cases hk : (k == NameKind.free) = true
    · rw [if_pos hk] at h
      have hk' : k = .free := by simpa using hk
      rcases clOf_from r _ h with h | h
      · exact .inl (List.mem_cons_of_mem _ h)
      · rcases List.mem_cons.mp h with rfl | h
        · exact .inl (by rw [hk']; exact List.mem_cons_self)
        · exact .inr h
    · rw [if_neg hk] at h
      exact (clOf_from r _ h).imp (List.mem_cons_of_mem _) id
theorem cellsFrom_spec {x : Str} {c : Addr} : ∀ (names : List (Str × NameKind)) (h : Heap) (acc : List (Str × Addr)), (x, c) ∈ cellsFrom h.objs.size names acc → (x, c) ∈ acc ∨ (h.objs.size ≤ c ∧ (pushCells h names).IsCell c none ∧ (x, NameKind.cell) ∈ names)
  | [], _, _, h => .inl h
  | (n, k) :: r, hp, acc, h => by
    unfold cellsFrom at h
    unfold pushCells
    by_cases hk : (k == NameKind.cell) = true
    · rw [if_pos hk] at h ⊢
      have hk' : k = .cell := by simpa using hk
      have h' : (x, c) ∈ cellsFrom (hp.push { cls := .type "cell", data := .cell none }).objs.size r ((n, hp.objs.size) :: acc) := by rw [Heap.size_push]; exact h
      rcases cellsFrom_spec r _ _ h' with h | ⟨h1, h2, h3⟩
      · rcases List.mem_cons.mp h with e | h
        · cases e
          exact .inr ⟨Nat.le_refl _, ⟨_, pushCells_keeps r _ _ _ (Heap.get?_push_size _ rfl), rfl⟩, by rw [hk']; exact List.mem_cons_self⟩
        · exact .inl h
      · rw [Heap.size_push] at h1
        exact .inr ⟨by omega, h2, List.mem_cons_of_mem _ h3⟩
    · rw [if_neg hk] at h ⊢
      exact (cellsFrom_spec r hp acc h).imp id fun ⟨h1, h2, h3⟩ => ⟨h1, h2, List.mem_cons_of_mem _ h3⟩
theorem cellsFrom_has {x : Str} : ∀ (names : List (Str × NameKind)) (n : Nat) (acc : List (Str × Addr)), ((x, NameKind.cell) ∈ names ∨ ∃ c, (x, c) ∈ acc) → ∃ c, (x, c) ∈ cellsFrom n names acc
  | [], _, acc, h => h.elim (fun z => absurd z (by simp)) id
  | (y, k) :: r, n, acc, h => by
    unfold cellsFrom
    by_cases hk : (k == NameKind.cell) = true
    · rw [if_pos hk]
      refine cellsFrom_has r _ _ ?_
      rcases h with h | ⟨c, hc⟩
      · rcases List.mem_cons.mp h with e | h
        · cases e
          exact .inr ⟨_, List.mem_cons_self⟩
        · exact .inl h
      · exact .inr ⟨c, List.mem_cons_of_mem _ hc⟩
    · rw [if_neg hk]
      refine cellsFrom_has r _ _ ?_
      rcases h with h | h
      · rcases List.mem_cons.mp h with e | h
        · cases e
          exact absurd rfl hk
        · exact .inl h
      · exact .inr h
theorem cellsFrom_inj {lo : Nat} : ∀ (names : List (Str × NameKind)) (n : Nat) (acc : List (Str × Addr)), (∀ x c, (x, c) ∈ acc → c < n) → (∀ x y c, lo ≤ c → (x, c) ∈ acc → (y, c) ∈ acc → x = y) → ∀ x y c, lo ≤ c → (x, c) ∈ cellsFrom n names acc → (y, c) ∈ cellsFrom n names acc → x = y
  | [], _, _, _, h => h
  | (z, k) :: r, n, acc, h1, h2 => by
    unfold cellsFrom
    by_cases hk : (k == NameKind.cell) = true
    · rw [if_pos hk]
      refine cellsFrom_inj r _ _ (fun x c hm => ?_) fun x y c hc hx hy => ?_
      · rcases List.mem_cons.mp hm with e | hm
        · cases e; exact Nat.lt_succ_self _
        · exact Nat.lt_succ_of_lt (h1 x c hm)
      · rcases List.mem_cons.mp hx with e | hx <;> rcases List.mem_cons.mp hy with e' | hy
        · cases e; cases e'; rfl
        · cases e; exact absurd (h1 _ _ hy) (Nat.lt_irrefl _)
        · cases e'; exact absurd (h1 _ _ hx) (Nat.lt_irrefl _)
        · exact h2 x y c hc hx hy
    · rw [if_neg hk]
      exact cellsFrom_inj r n acc h1 h2
def blkCells (scope : Scope) (env : Env) (n : Nat) : List (Str × Addr) := cellsFrom (n + 1) scope.names (clOf env.cells scope.names [])
def cxC (X : Cx) (N' : List Str) (scope : Scope) (s : Shared) (H : Hp) (ex : List Addr) : Cx :=
  { X with N := N', s₀ := s, H₀ := H, env := compEnvC scope (blkCells scope X.env s.heap.objs.size) s.heap.objs.size X.env, outer := X.stack, ex := ex, fn := fun x => decide ((x, NameKind.cell) ∈ scope.names), pn := [] }
def pick (σ : St) (ix : List (Option Nat)) : St := ix.map fun o => match o with | some i => (match σ[i]? with | some v => v | none => none) | none => none
structure Scp (psc : Scope) (PN N' : List Str) (ix : List (Option Nat)) (scope : Scope) : Prop where
  kind : scope.kind = .function
  names : ∀ x ∈ scope.names, x.2 = .local → scope.names.lookup x.1 = some .local
  uni : ∀ x ∈ scope.names, x.2 = .free → scope.names.lookup x.1 = some .free
  apart : ∀ x ∈ scope.names, x.2 = .cell → (x.1, NameKind.free) ∉ scope.names
  free : ∀ x ∈ scope.names, x.2 = .free → psc.names.lookup x.1 = some .cell ∨ psc.names.lookup x.1 = some .free
  len : ix.length = N'.length
  at_ : ∀ (j i : Nat) (x : Str), N'[j]? = some x → ix[j]? = some (some i) → PN[i]? = some x ∧ (x, NameKind.free) ∈ scope.names
section
variable {X : Cx} {pins : List (Addr × Obj)} {σ : St} {H : Hp} {s : Shared} {N' : List Str} {ix : List (Option Nat)} {scope : Scope} {fp : List Addr}
theorem relabel_names_free {env : Env} : ∀ {names : List (Str × NameKind)} {x : Str}, names.lookup x = some .free →
    (names.map fun (n, k) => if (k == NameKind.free && env.scope.kind == .function && env.kindOf n == some .cell) then (n, NameKind.cell) else (n, k)).lookup x = some .cell ∨
    (names.map fun (n, k) => if (k == NameKind.free && env.scope.kind == .function && env.kindOf n == some .cell) then (n, NameKind.cell) else (n, k)).lookup x = some .free
  | [], _, h => by simp at h
  | (n, k) :: r, x, h => by
    have ih := @relabel_names_free env r x
    simp only [List.map_cons]
    cases hx : x == n with
    | true =>
      simp only [List.lookup_cons, hx] at h
      cases h
      by_cases hc : (NameKind.free == NameKind.free && env.scope.kind == .function && env.kindOf n == some .cell) = true
      · rw [if_pos hc]; simp [List.lookup_cons, hx]
      · rw [if_neg hc]; simp [List.lookup_cons, hx]
    | false =>
      simp only [List.lookup_cons, hx] at h
      by_cases hc : (k == NameKind.free && env.scope.kind == .function && env.kindOf n == some .cell) = true
      · rw [if_pos hc]; simp only [List.lookup_cons, hx]; exact ih h
      · rw [if_neg hc]; simp only [List.lookup_cons, hx]; exact ih h
theorem relabel_is_free {scope : Scope} {env : Env} {x : Str} (h : scope.names.lookup x = some .free) : (relabel scope env).names.lookup x = some .cell ∨ (relabel scope env).names.lookup x = some .free := relabel_names_free h
theorem relabel_kind {scope : Scope} {env : Env} {x : Str} (h : (relabel scope env).names.lookup x = some .cell ∨ (relabel scope env).names.lookup x = some .free) : (x, NameKind.cell) ∈ scope.names ∨ (x, NameKind.free) ∈ scope.names := by
  have : ∃ k, (x, k) ∈ (relabel scope env).names ∧ (k = .cell ∨ k = .free) := by
    rcases h with h | h
    · exact ⟨_, PySem.mem_of_lookup h, .inl rfl⟩
    · exact ⟨_, PySem.mem_of_lookup h, .inr rfl⟩
  obtain ⟨k, hm, hk⟩ := this
  obtain ⟨⟨n, k'⟩, hm', e⟩ := List.mem_map.mp hm
  dsimp only at e
  split at e
  · rename_i hc
    cases e
    have : k' = .free := by simp at hc; exact hc.1.1
    rw [this] at hm'
    exact .inr hm'
  · cases e
    rcases hk with rfl | rfl
    · exact .inl hm'
    · exact .inr hm'
theorem inv_comp (I : Inv X pins σ H s) (S : Scp X.env.scope X.N N' ix scope) (hf : ∀ b ∈ fp, FpOk X pins H b) (hfl : ∀ b ∈ fp, b < s.heap.objs.size) (t' : Nat) :
    Inv (cxC X N' scope s H fp) [] (pick σ ix) H { s with heap := pushCells (s.heap.push { cls := .type "dict", data := .dict #[] }) scope.names, toks := t' } := by
  have hn : (pushCells (s.heap.push { cls := .type "dict", data := .dict #[] }) scope.names).Ns s.heap.objs.size fun _ => none := (Heap.Ns.new s.heap (.type "dict")).keeps (pushCells_keeps _ _)
  have hk : ∀ b o, s.heap.get? b = some o → (pushCells (s.heap.push { cls := .type "dict", data := .dict #[] }) scope.names).get? b = some o := fun b o e => pushCells_keeps _ _ b o (Heap.get?_push_of_some _ e)
  have hfr : ∀ p ∈ scope.names, p.2 = NameKind.free → ∃ c, X.env.cells.lookup p.1 = some c := fun p hp e => I.ok.has p.1 (S.free p hp e)
  have clm : ∀ q ∈ clOf X.env.cells scope.names [], X.env.cells.lookup q.1 = some q.2 := clOf_mem scope.names [] hfr (by simp)
  have spec : ∀ x c, (blkCells scope X.env s.heap.objs.size).lookup x = some c → (X.env.cells.lookup x = some c ∧ (x, NameKind.free) ∈ scope.names) ∨
      (s.heap.objs.size < c ∧ (pushCells (s.heap.push { cls := .type "dict", data := .dict #[] }) scope.names).IsCell c none ∧ (x, NameKind.cell) ∈ scope.names) := fun x c e => by
    have hm : (x, c) ∈ cellsFrom (s.heap.push { cls := .type "dict", data := .dict #[] }).objs.size scope.names (clOf X.env.cells scope.names []) := by rw [Heap.size_push]; exact PySem.mem_of_lookup e
    rcases cellsFrom_spec scope.names _ _ hm with h | ⟨h1, h2, h3⟩
    · exact .inl ⟨clm _ h, (clOf_from scope.names [] h).elim id (fun z => absurd z (by simp))⟩
    · rw [Heap.size_push] at h1
      exact .inr ⟨h1, h2, h3⟩
  have hasC : ∀ x, ((relabel scope X.env).names.lookup x = some .cell ∨ (relabel scope X.env).names.lookup x = some .free) → ∃ c, (blkCells scope X.env s.heap.objs.size).lookup x = some c := fun x hx => by
    have : ∃ c, (x, c) ∈ blkCells scope X.env s.heap.objs.size := cellsFrom_has scope.names _ _ ((relabel_kind hx).imp id fun z => clOf_has scope.names [] (.inl z))
    obtain ⟨c, hc⟩ := this
    exact lookup_some_of_mem hc
  have cold : ∀ x c, X.env.cells.lookup x = some c → c < s.heap.objs.size := fun x c e => let ⟨v, q⟩ := I.cell x c e; q.lt
  refine ⟨⟨I.ok.mod, S.kind, I.ok.glob, I.ok.blt, Nat.le_refl _, fun x y c e1 e2 => ?_, hasC, fun x c z e => ?_, I.ok.hd, I.ok.frames, .inl rfl,
    fun b hb => ⟨Nat.ne_of_lt (hfl b hb), fun x c e => ?_⟩, I.bs, Nat.le_trans I.ok.bsz I.sz, fun b o e hb => ?_, fun b hb z => ?_, I.stack, I.stkFree⟩,
    rfl, I.bare, Un.kept hk, ⟨_, hn, fun j x v e1 e2 e3 => ?_⟩, fun x c e => ?_, I.hok.fresh (Nat.le_refl _), fun x c e => ?_, fun p hp => absurd (show p ∈ ([] : List (Addr × Obj)) from hp) (by simp), I.hok.kept hk, ?_⟩
  · by_cases hc : c < s.heap.objs.size + 1
    · rcases spec x c e1 with ⟨q1, _⟩ | ⟨q1, _⟩
      · rcases spec y c e2 with ⟨q2, _⟩ | ⟨q2, _⟩
        · exact I.ok.inj x y c q1 q2
        · exact absurd q2 (Nat.not_lt.mpr (Nat.le_of_lt_succ hc))
      · exact absurd q1 (Nat.not_lt.mpr (Nat.le_of_lt_succ hc))
    · exact cellsFrom_inj (lo := s.heap.objs.size + 1) scope.names _ _ (fun x c hm => Nat.lt_succ_of_lt (cold x c (clm _ hm))) (fun x y c hc hx _ => absurd (cold x c (clm _ hx)) (Nat.not_lt.mpr (Nat.le_trans (Nat.le_succ _) hc))) x y c (Nat.not_lt.mp hc) (PySem.mem_of_lookup e1) (PySem.mem_of_lookup e2)
  · have z' : (x, NameKind.cell) ∈ scope.names := of_decide_eq_true z
    rcases spec x c e with ⟨_, q⟩ | ⟨q, _⟩
    · exact absurd q (S.apart _ z' rfl)
    · exact Nat.le_of_lt q
  · rcases spec x c e with ⟨q, _⟩ | ⟨q, _⟩
    · exact (hf b hb).2.2.2.2.1 x c q
    · exact fun z => absurd (hfl b hb) (Nat.not_lt.mpr (z ▸ Nat.le_of_lt q))
  · exact (hf b hb).2.2.2.1.elim (fun z => I.ok.noex b o e z) fun z => absurd (Nat.lt_of_lt_of_le (Heap.lt_size e) I.ok.bsz) (Nat.not_lt.mpr z)
  · have hb2 := hf b hb
    rcases List.mem_cons.mp (I.stkSub b z) with q | q
    · exact hb2.2.1 q
    · exact hb2.2.2.1 q
  · have e4 : ∃ i, ix[j]? = some (some i) ∧ σ[i]? = some (some v) := by
      have e2' : (pick σ ix)[j]? = some (some v) := e2
      unfold pick at e2'
      rw [List.getElem?_map] at e2'
      cases q : ix[j]? with
      | none => rw [q] at e2'; cases e2'
      | some o =>
        rw [q] at e2'
        cases o with
        | none => cases e2'
        | some i =>
          refine ⟨i, rfl, ?_⟩
          cases z : σ[i]? with
          | none => simp [z] at e2'
          | some y => simp [z] at e2'; rw [e2']
    obtain ⟨i, e4, e5⟩ := e4
    obtain ⟨a1, a2⟩ := S.at_ j i x e1 e4
    have a3 := S.free _ a2 rfl
    obtain ⟨m0, hn0, hl0⟩ := I.loc
    obtain ⟨u, r, l⟩ := hl0 i x v a1 e5 (.inr a3)
    refine ⟨u, r, ?_⟩
    rcases l with ⟨k1, _⟩ | ⟨k1, c, hcl, hce⟩
    · have k1' : X.env.scope.names.lookup x = some .local := k1
      rcases a3 with z | z <;> (rw [k1'] at z; cases z)
    · -- the name is captured here
      have e3' : (relabel scope X.env).names.lookup x = some .local ∨ (relabel scope X.env).names.lookup x = some .cell ∨ (relabel scope X.env).names.lookup x = some .free := e3
      have k3 := relabel_is_free (env := X.env) (S.uni _ a2 rfl)
      obtain ⟨c', hc'⟩ := hasC x k3
      rcases spec x c' hc' with ⟨q, _⟩ | ⟨_, _, q⟩
      · rw [hcl] at q
        cases q
        exact .inr ⟨k3, c, hc', hce.keeps hk⟩
      · exact absurd a2 (S.apart _ q rfl)
  · rcases spec x c e with ⟨q, _⟩ | ⟨q, q2, _⟩
    · obtain ⟨v, q'⟩ := I.cell x c q
      exact ⟨v, q'.keeps hk⟩
    · exact ⟨none, q2⟩
  · rcases spec x c e with ⟨q, _⟩ | ⟨q, _⟩
    · exact I.freeC x c q
    · exact I.hok.fresh (Nat.le_of_lt q)
  · show (pick σ ix).length = N'.length
    unfold pick
    rw [List.length_map]
    exact S.len
end
section
variable {prog : Program} {w : World} {A : Around} {R : Result → Shared → Prop} {s : Shared}
def testsOf (ifs : List Expr) (env : Env) : Sem Bool := forIn ifs true fun c r => if r = true then do let ok ← isTrue c env (eval c env); pure (ForInStep.yield ok) else pure (ForInStep.yield r)
theorem compLoop_any {elt target iter : Expr} {ifs : List Expr} {scope : Scope} {pos : Pos} {it acc : Value} {env : Env} (I : Nat → Shared → Prop)
    (turn : ∀ n s, I n s → wpAny (model prog w) A (pyNext it) (fun r s₁ => match r with
      | none => R (.ok .next) s₁
      | some v => wpAny (model prog w) A (letOwnedTupleGo target it v) (fun _ s₁' => wpAny (model prog w) A (assign target env v) (fun _ s₂ => wpAny (model prog w) A (testsOf ifs env) (fun ok s₃ =>
          if ok = true then wpAny (model prog w) A (eval elt env) (fun x s₄ => wpAny (model prog w) A (call (.builtin "list.append") [acc, x]) (fun _ s₅ => ∃ m, m < n ∧ I m s₅) (fun _ _ => False) s₄) (fun _ _ => False) s₃
          else ∃ m, m < n ∧ I m s₃) (fun _ _ => False) s₂) (fun _ _ => False) s₁') (fun _ _ => False) s₁) (fun _ _ => False) s)
    (n : Nat) (h : I n s) : codeAny (model prog w) A (.compLoop (.ListComp elt [⟨target, iter, ifs, 0⟩] scope pos) 0 it acc env) R s := by
  refine codeAny_loop rfl I (fun n s hI => ?_) n h
  show wpAny _ _ ((compTurn (.ListComp elt [⟨target, iter, ifs, 0⟩] scope pos) 0 it acc env).onRaise (fun x => do noteFrame x env; theTreesLotGoes x)) _ _ s
  refine wpAny_noted ?_
  rw [compTurn_list]
  refine wpAny_bind (wpAny_standAt (wpAny_bind (wpAny_mono (turn n s hI) (fun r s₁ h₁ => ?_) fun _ _ h' => h'.elim)))
  cases r with
  | none => exact wpAny_pure h₁
  | some v =>
    refine wpAny_bind (wpAny_mono h₁ (fun _ s₁' h₁' => ?_) fun _ _ h' => h'.elim)
    refine wpAny_bind (wpAny_mono h₁' (fun _ s₂ h₂ => wpAny_bind (wpAny_mono h₂ (fun ok s₃ h₃ => ?_) fun _ _ h' => h'.elim)) fun _ _ h' => h'.elim)
    cases ok with
    | false => exact wpAny_pure ⟨rfl, h₃⟩
    | true =>
      exact wpAny_bind (wpAny_bind (wpAny_mono h₃ (fun x s₄ h₄ => wpAny_bind (wpAny_mono h₄ (fun _ s₅ h₅ => wpAny_pure (wpAny_pure ⟨rfl, h₅⟩)) fun _ _ h' => h'.elim)) fun _ _ h' => h'.elim))
end
theorem newEnv_comp {M : Model} {A : Around} {E : Value → Shared → Prop} {s : Shared} {scope : Scope} {globals : Addr} {cl : List (Str × Addr)} {qual : Str} {env : Env} {Q : Env → Shared → Prop}
    (hQ : Q { scope := scope, locals := s.heap.objs.size, globals := globals, cells := cellsFrom (s.heap.objs.size + 1) scope.names cl, qual := qual, func := none, code := env.code, frame := env.frame, builtins := env.builtins } { s with heap := pushCells (s.heap.push { cls := .type "dict", data := .dict #[] }) scope.names }) :
    wpAny M A (newFunctionEnv scope globals cl [] qual none .none (some env)) Q E s := by
  simp only [newFunctionEnv, Option.isSome_some, if_true]
  refine wpAny_bind (wpAny_alloc ?_)
  refine wpAny_bind (wpAny_layCells _ (fun name kind cells => by cases hkc : kind == NameKind.cell <;> simp [hkc]) _ _ _ _ ?_)
  rw [show ({ s with heap := s.heap.push { cls := .type "dict", data := .dict #[] } } : Shared).heap.objs.size = s.heap.objs.size + 1 from Heap.size_push ..]
  exact wpAny_bind (wpAny_pure (wpAny_pure hQ))
def PF (X : Cx) (ifs : List Expr) (t : TT) : Prop :=
  ∀ (pins : List (Addr × Obj)) (s : Shared) (σ : St) (H : Hp) (Q : Bool → Hp → Prop), Inv X pins σ H s → t σ H Q → wpAny (model X.prog X.w) X.A (testsOf ifs X.env) (TP X pins σ Q) X.xe s
def tYes : TT := fun _ H Q => Q true H
theorem pf_one {X : Cx} {c : Expr} {t : TT} (h : PT X c t) : PF X [c] t := fun pins s σ H Q I q => wpAny_tests_one (h pins s σ H Q I q)
def CompGo (J : It) (g : TG) (tt : TT) (te : TE) (σ : St) (H : Hp) (Q : VK) : Prop := ∀ D, H D = none → ∃ W : Nat → Nat → St → Hp → Prop, (∃ m, W 0 m σ (upd H D (.lst []))) ∧ ∀ i m σ H, W i m σ H →
  (J.stop i H ∧ Q (.ref D) H) ∨ (J.go i H ∧ ∃ N : St → Hp → Prop, (∀ σ' H', N σ' H' → ∃ m', m' < m ∧ W (i + 1) m' σ' H') ∧ ∀ x H', J.yld i H x H' → g x σ H' fun σ2 H2 => tt σ2 H2 fun b H3 =>
    if b = true then te σ2 H3 fun v H4 => ∃ xs, H4 D = some (.lst xs) ∧ xs.length < sizeLine ∧ N σ2 (upd H4 D (.lst (xs ++ [v]))) else N σ2 H3)
def tComp (ix : List (Option Nat)) (wi : TI) (g : TG) (tt : TT) (te : TE) : TE := fun σ H Q => wi σ H fun J H1 => CompGo J g tt te (pick σ ix) H1 Q
section
variable {X : Cx} {N' : List Str} {ix : List (Option Nat)} {scope : Scope} {tg iter elt : Expr} {ifs : List Expr} {wi : TI} {g : TG} {tt : TT} {te : TE} {pos : Pos}
theorem comp_core (hc : X.calm = true) (hxe : X.xe = fun _ _ => False) (S : Scp X.env.scope X.N N' ix scope) (hi : PI X tg iter wi) (hg : ∀ s H ex, PG (cxC X N' scope s H ex) tg g) (ht : ∀ s H ex, PF (cxC X N' scope s H ex) ifs tt) (he : ∀ s H ex, PE (cxC X N' scope s H ex) elt te)
    {pins : List (Addr × Obj)} {s : Shared} {σ : St} {H : Hp} {Q : VK} (I : Inv X pins σ H s) (h : tComp ix wi g tt te σ H Q) {Post : Value → Addr → Result → Shared → Prop}
    (fin' : ∀ (D C : Addr) (H' : Hp) (s' : Shared), Inv X pins σ H' s' → FpOk X pins H' C → (∃ m, s'.heap.Ns C m) → Q (.ref D) H' → Post (.ref D) C (.ok .next) s') :
    wpAny (model X.prog X.w) X.A (eval iter X.env) (fun x s₁ => wpAny (model X.prog X.w) X.A (pyIter x) (fun it s₂ => wpAny (model X.prog X.w) X.A (newList []) (fun acc s₃ =>
      wpAny (model X.prog X.w) X.A (newFunctionEnv scope X.env.globals (clOf X.env.cells scope.names []) [] X.env.qual none .none (some X.env)) (fun cenv s₄ =>
        codeAny (model X.prog X.w) X.A (.compStart (.ListComp elt [⟨tg, iter, ifs, 0⟩] scope pos) 0 it acc { cenv with scope := relabel scope X.env }) (Post acc cenv.locals) s₄) X.xe s₃) X.xe s₂) X.xe s₁) X.xe s := by
  refine thn (hi pins s σ H _ I h) fun v s1 h1 => thn h1 fun itv s2 h2 => ?_
  obtain ⟨it, fp, tn, J, H2, e, I2, T, st2, f2, go⟩ := h2
  subst e
  refine wpAny_newObj_type ?_
  have hD : H2 s2.heap.objs.size = none := I2.hok.fresh (Nat.le_refl _)
  have I3 : Inv X pins σ (upd H2 s2.heap.objs.size (.lst [])) { s2 with heap := s2.heap.push { cls := .type "list", dict := none, data := .seq ([] : List Value).toArray } } :=
    I2.laid (t' := s2.toks) (fun b u e => Heap.get?_push_of_some _ e) (Nat.le_refl _) ⟨Nat.zero_le _, [], 0, .nil, Heap.get?_push_size _ rfl⟩
  obtain ⟨W, ⟨m0, w0⟩, turn⟩ := go s2.heap.objs.size hD
  have fpl : ∀ b ∈ fp, b < s2.heap.objs.size := fun b hb => let ⟨o, e, _⟩ := T.obj _ _ st2 b hb; Heap.lt_size e
  have tF : ∀ {α : Type} {t : Sem α} {Q' : α → Shared → Prop} {s' : Shared}, wpAny (model X.prog X.w) X.A t Q' X.xe s' → wpAny (model X.prog X.w) X.A t Q' (fun _ _ => False) s' := fun hw => hxe ▸ hw
  generalize hH3 : upd H2 s2.heap.objs.size (.lst []) = H3 at I3 w0
  generalize hs3 : ({ s2 with heap := s2.heap.push { cls := .type "list", dict := none, data := .seq ([] : List Value).toArray } } : Shared) = s3 at I3 ⊢
  have h23 : ∀ b o, s2.heap.get? b = some o → s3.heap.get? b = some o := fun b o e => by rw [← hs3]; exact Heap.get?_push_of_some _ e
  have sz3 : s2.heap.objs.size ≤ s3.heap.objs.size := by rw [← hs3]; show _ ≤ (s2.heap.push _).objs.size; rw [Heap.size_push]; exact Nat.le_succ _
  have fpl3 : ∀ b ∈ fp, b < s3.heap.objs.size := fun b hb => Nat.lt_of_lt_of_le (fpl b hb) sz3
  have f3 : ∀ b ∈ fp, FpOk X pins H3 b := fun b hb => ⟨by rw [← hH3, upd_ne (Nat.ne_of_lt (fpl b hb))]; exact (f2 b hb).1, (f2 b hb).2⟩
  refine newEnv_comp ?_
  generalize hh1 : pushCells (s3.heap.push { cls := .type "dict", data := .dict #[] }) scope.names = h1
  have hk : ∀ b o, s3.heap.get? b = some o → h1.get? b = some o := fun b o e => by rw [← hh1]; exact pushCells_keeps _ _ b o (Heap.get?_push_of_some _ e)
  have I4 : Inv (cxC X N' scope s3 H3 fp) [] (pick σ ix) H3 { s3 with heap := h1 } := by rw [← hh1]; exact inv_comp I3 S f3 fpl3 s3.toks
  have st4 : tn 0 h1 := T.keep _ _ _ st2 fun b hb o e => hk b o (h23 b o e)
  have fin : ∀ {σ' : St} {H' : Hp} {s' : Shared}, Inv (cxC X N' scope s3 H3 fp) [] σ' H' s' → Q (.ref s2.heap.objs.size) H' → Post (.ref s2.heap.objs.size) s3.heap.objs.size (.ok .next) s' := fun {σ' H' s'} J q => by
    obtain ⟨m, hn, _⟩ := J.loc
    have K1 : Inv X pins σ H' s' := I3.call' J.os J.base J.hok J.bare fun b hb => ⟨(f3 b hb).2.2.2.1, (f3 b hb).2.1, (f3 b hb).2.2.2.2.1, (f3 b hb).2.2.2.2.2⟩
    exact fin' _ _ H' s' K1 (I3.fpOk (b := s3.heap.objs.size) (Nat.le_refl _) (show H' s3.heap.objs.size = none from J.free)) ⟨m, hn⟩ q
  have loop : codeAny (model X.prog X.w) X.A (.compLoop (.ListComp elt [⟨tg, iter, ifs, 0⟩] scope pos) 0 (.ref it) (.ref s2.heap.objs.size) (compEnvC scope (blkCells scope X.env s3.heap.objs.size) s3.heap.objs.size X.env)) (Post (.ref s2.heap.objs.size) s3.heap.objs.size) { s3 with heap := h1 } := by
    refine compLoop_any (fun n s' => ∃ i σ' H', Inv (cxC X N' scope s3 H3 fp) [] σ' H' s' ∧ tn i s'.heap ∧ (∀ b ∈ fp, H' b = none) ∧ W i n σ' H') ?_ m0 ⟨0, _, H3, I4, st4, fun b hb => (f3 b hb).1, w0⟩
    rintro n s5 ⟨i, σ5, H5, I5, st5, fr5, w5⟩
    have stat : ∀ {H' : Hp}, (∀ b ∈ fp, H' b = none) → ∀ b ∈ fp, FpOk (cxC X N' scope s3 H3 fp) [] H' b := fun hn b hb => ⟨hn b hb, (I5.ok.exf b hb).1, I5.ok.exfs b hb, .inl hb, (I5.ok.exf b hb).2, fun p hp => absurd (show p ∈ ([] : List (Addr × Obj)) from hp) (by simp)⟩
    rcases turn i n σ5 H5 w5 with ⟨stop, qn⟩ | ⟨go, N, hN, step⟩
    · refine thn (tF (T.done (cxC X N' scope s3 H3 fp) rfl rfl rfl hc i [] s5 σ5 H5 X.xe I5 (stat fr5) st5 stop)) fun r s6 ⟨hr, I6⟩ => ?_
      subst hr
      exact fin I6 qn
    · refine thn (tF (T.item (cxC X N' scope s3 H3 fp) rfl rfl rfl hc i [] s5 σ5 H5 X.xe I5 (stat fr5) st5 go)) fun r s6 ⟨u, hr, h6⟩ => ?_
      subst hr
      refine thn (tF h6) fun _ s7 ⟨x, H7, I7, r7, y7, st7, fr7⟩ => ?_
      have I7' := I7.pinned (stat fr7) (T.obj _ _ st7)
      have again : ∀ {σ' : St} {H' : Hp} {s' : Shared}, Inv (cxC X N' scope s3 H3 fp) ([] ++ pinsAt fp s7.heap) σ' H' s' → N σ' H' → ∃ m, m < n ∧ ∃ i σ' H', Inv (cxC X N' scope s3 H3 fp) [] σ' H' s' ∧ tn i s'.heap ∧ (∀ b ∈ fp, H' b = none) ∧ W i m σ' H' := fun {σ' H' s'} J n10 => by
        obtain ⟨m', hm, w10⟩ := hN σ' H' n10
        refine ⟨m', hm, i + 1, σ', H', J.unpinned, T.keep _ _ _ st7 fun b hb o e => (J.pin (b, o) (List.mem_append_right _ (List.mem_append_right _ (mem_pinsAt hb e)))).1, fun b hb => ?_, w10⟩
        obtain ⟨o, e, d⟩ := T.obj _ _ st7 b hb
        exact (J.pin (b, o) (List.mem_append_right _ (List.mem_append_right _ (mem_pinsAt hb e)))).2.1
      refine thn (tF (hg s3 H3 fp _ s7 σ5 H7 x u _ I7' r7 (step x H7 y7))) fun _ s8 ⟨σ8, H8, I8, q8⟩ => ?_
      refine thn (tF (ht s3 H3 fp _ s8 σ8 H8 _ I8 q8)) fun ok s8' ⟨H8', I8', q8'⟩ => ?_
      cases ok with
      | false => exact again I8' (by simpa using q8')
      | true =>
        rw [if_pos rfl] at q8' ⊢
        refine thn (tF (he s3 H3 fp _ s8' σ8 H8' _ I8' q8')) fun v s9 ⟨y, H9, I9, r9, xs, hl9, hz9, n9⟩ => ?_
        exact thn (tF (mt_append (X := cxC X N' scope s3 H3 fp) _ s9 σ8 H9 (.ref s2.heap.objs.size) [y] (.ref s2.heap.objs.size) [v] (fun _ H' => N σ8 H') I9 rfl (.cons r9 .nil) ⟨s2.heap.objs.size, xs, y, rfl, rfl, hl9, hz9, n9⟩)) fun _ s10 ⟨_, H10, I10, _, n10⟩ => again I10 n10
  exact codeAny_compStart_list loop (T.self _ 0 _ _ _ st4 loop)
theorem pe_comp (hc : X.calm = true) (hxe : X.xe = fun _ _ => False) (S : Scp X.env.scope X.N N' ix scope) (hi : PI X tg iter wi) (hg : ∀ s H ex, PG (cxC X N' scope s H ex) tg g) (ht : ∀ s H ex, PF (cxC X N' scope s H ex) ifs tt) (he : ∀ s H ex, PE (cxC X N' scope s H ex) elt te)
    (hs : ∀ x, foldedSetIterable iter X.env x = pure x := by intro _; rfl) : PE X (.ListComp elt [⟨tg, iter, ifs, 0⟩] scope pos) (tComp ix wi g tt te) := by
  intro pins s σ H Q I h
  rw [eval_ListComp]
  refine wpAny_comprehension_free (use := none) rfl hs (closure_is fun p hp e => I.ok.has p.1 (S.free p hp e)) S.kind S.names (comp_core hc hxe S hi hg ht he I h fun D C H' s' K1 F ⟨m, hn⟩ q => ?_)
  refine ⟨m, hn, fun h' sb => ?_⟩
  obtain ⟨g0, g1, g2, g3, g4, g5⟩ := F
  exact ⟨.ref D, H', K1.turned (t' := s'.toks) (fun b o hb e => sb.extBut b o hb e) g0 g1 g3 g4 g5, rfl, q⟩
end
def scpB (psc : Scope) (PN N' : List Str) (ix : List (Option Nat)) (scope : Scope) : Bool :=
  scope.kind == .function &&
  scope.names.all (fun x => x.2 != .local || scope.names.lookup x.1 == some .local) &&
  scope.names.all (fun x => x.2 != .free || scope.names.lookup x.1 == some .free) &&
  scope.names.all (fun x => x.2 != .cell || !scope.names.contains (x.1, NameKind.free)) &&
  scope.names.all (fun x => x.2 != .free || (psc.names.lookup x.1 == some .cell || psc.names.lookup x.1 == some .free)) &&
  ix.length == N'.length &&
  (List.range N'.length).all (fun j => match ix[j]?, N'[j]? with | some (some i), some x => PN[i]? == some x && scope.names.contains (x, NameKind.free) | _, _ => true)
theorem scp_of {psc : Scope} {PN N' : List Str} {ix : List (Option Nat)} {scope : Scope} (h : scpB psc PN N' ix scope = true) : Scp psc PN N' ix scope := by
  unfold scpB at h
  simp only [Bool.and_eq_true, List.all_eq_true, beq_iff_eq, Bool.or_eq_true, bne_iff_ne, ne_eq, List.contains_iff_mem, Bool.not_eq_true', List.mem_range] at h
  obtain ⟨⟨⟨⟨⟨⟨h1, h2⟩, h3⟩, h4⟩, h5⟩, h6⟩, h7⟩ := h
  refine ⟨h1, fun x hx e => (h2 x hx).resolve_left fun z => z e, fun x hx e => (h3 x hx).resolve_left fun z => z e, fun x hx e hm => ?_, fun x hx e => (h5 x hx).resolve_left fun z => z e, h6, fun j i x e1 e2 => ?_⟩
  · have := (h4 x hx).resolve_left fun z => z e
    rw [List.contains_iff_mem.mpr hm] at this
    cases this
  · have hj : j < N'.length := (List.getElem?_eq_some_iff.mp e1).1
    have := h7 j hj
    rw [e1, e2] at this
    simp only [Bool.and_eq_true, beq_iff_eq, List.contains_iff_mem] at this
    exact this
section
variable {X : Cx} {x : Str} {pos : Pos} {i : Nat} {e : Expr} {te : TE}
theorem pvc (i : Nat) (hN : X.N[i]? = some x := by rfl) (hv : X.env.scope.names.lookup x = some .cell := by rfl) (hd : (x == ("__debug__" : Str)) = false := by decide) (hcd : (x == ("__classdict__" : Str)) = false := by decide) : PE X (.Name x pos) (tVar i) := pe_var hN (.inr (.inl hv)) hd hcd
theorem ps_setc {pos' : Pos} (hN : X.N.Nodup) (hi : X.N[i]? = some x) (hx : X.env.scope.names.lookup x = some .cell) (hf : X.fn x = true) (he : PE X e te) (hs : swapsWith e (some (.Name x pos')) pos.line X.env = pure false) : PS X (.Assign [.Name x pos'] e pos) (tAsg te (gName i)) :=
  ps_set hN hi (.inr hx) he hs (.inl hf)
theorem pg_namec (hN : X.N.Nodup) (hi : X.N[i]? = some x) (hx : X.env.scope.names.lookup x = some .cell) (hf : X.fn x = true) : PG X (.Name x pos) (gName i) := pg_name hN hi (.inr hx) (.inl hf)
end
end L2
set_option Elab.async false
set_option linter.all false
set_option maxRecDepth 100000
set_option maxHeartbeats 1000000
namespace L2
open PySem PySem.Spec PyProof.Rows
theorem pi_listK {X : Cx} {K : PySem.W.Frag} {tg l : Expr} {tl : TE} (hK : X.K = K) (hl : PE X l tl) : PI X tg l (iList K tl) := hK ▸ pi_list hl
theorem ix_listK {X : Cx} {K : PySem.W.Frag} (hK : X.K = K) : IxR X (rIxL K) := hK ▸ ix_list
inductive Dt where
  | non | bl (b : Bool) | int (i : Int) | str (x : Str) | tup (xs : List Dt) | lst (xs : List Dt)
mutual
def Rep (H : Hp) : V → Dt → Prop
  | v, .non => v = .non
  | v, .bl b => v = .bl b
  | v, .int i => v = .int i
  | v, .str x => v = .str x
  | v, .tup ds => ∃ p xs, v = .ref p ∧ H p = some (.tup xs) ∧ Reps H xs ds
  | v, .lst ds => ∃ p xs, v = .ref p ∧ H p = some (.lst xs) ∧ Reps H xs ds
def Reps (H : Hp) : List V → List Dt → Prop
  | xs, [] => xs = []
  | xs, d :: ds => ∃ x r, xs = x :: r ∧ Rep H x d ∧ Reps H r ds
end
mutual
theorem Rep.mono {H H' : Hp} (e : Same H H') : ∀ {v : V} (d : Dt), Rep H v d → Rep H' v d
  | v, .non, h => h
  | v, .bl b, h => h
  | v, .int i, h => h
  | v, .str x, h => h
  | v, .tup ds, ⟨p, xs, h1, h2, h3⟩ => ⟨p, xs, h1, e _ _ h2, Reps.mono e ds h3⟩
  | v, .lst ds, ⟨p, xs, h1, h2, h3⟩ => ⟨p, xs, h1, e _ _ h2, Reps.mono e ds h3⟩
theorem Reps.mono {H H' : Hp} (e : Same H H') : ∀ {xs : List V} (ds : List Dt), Reps H xs ds → Reps H' xs ds
  | xs, [], h => h
  | xs, d :: ds, ⟨x, r, h1, h2, h3⟩ => ⟨x, r, h1, Rep.mono e d h2, Reps.mono e ds h3⟩
end
mutual
theorem Rep.inj {H : Hp} : ∀ {v : V} (d e : Dt), Rep H v d → Rep H v e → d = e
  | v, .non, e, h, h' => by
    cases h
    cases e <;> first | rfl | (simp [Rep] at h')
  | v, .bl b, e, h, h' => by
    cases h
    cases e <;> simp [Rep] at h' <;> simp [h']
  | v, .int i, e, h, h' => by
    cases h
    cases e <;> simp [Rep] at h' <;> simp [h']
  | v, .str x, e, h, h' => by
    cases h
    cases e <;> simp [Rep] at h' <;> simp [h']
  | v, .tup ds, e, ⟨p, xs, h1, h2, h3⟩, h' => by
    subst h1
    cases e with
    | tup es =>
      obtain ⟨p', xs', g1, g2, g3⟩ := h'
      cases g1
      rw [h2] at g2
      cases g2
      rw [Reps.inj ds es h3 g3]
    | lst es =>
      obtain ⟨p', xs', g1, g2, g3⟩ := h'
      cases g1
      rw [h2] at g2
      cases g2
    | _ => simp [Rep] at h'
  | v, .lst ds, e, ⟨p, xs, h1, h2, h3⟩, h' => by
    subst h1
    cases e with
    | tup es =>
      obtain ⟨p', xs', g1, g2, g3⟩ := h'
      cases g1
      rw [h2] at g2
      cases g2
    | lst es =>
      obtain ⟨p', xs', g1, g2, g3⟩ := h'
      cases g1
      rw [h2] at g2
      cases g2
      rw [Reps.inj ds es h3 g3]
    | _ => simp [Rep] at h'
theorem Reps.inj {H : Hp} : ∀ {xs : List V} (ds es : List Dt), Reps H xs ds → Reps H xs es → ds = es
  | xs, [], es, h, h' => by
    cases h
    cases es with
    | nil => rfl
    | cons e es => obtain ⟨x, r, g, _⟩ := h'; cases g
  | xs, d :: ds, es, ⟨x, r, h1, h2, h3⟩, h' => by
    subst h1
    cases es with
    | nil => cases h'
    | cons e es =>
      obtain ⟨x', r', g1, g2, g3⟩ := h'
      cases g1
      rw [Rep.inj d e h2 g2, Reps.inj ds es h3 g3]
end
theorem Reps.length {H : Hp} : ∀ {xs : List V} {ds : List Dt}, Reps H xs ds → xs.length = ds.length
  | xs, [], h => by cases h; rfl
  | xs, d :: ds, ⟨x, r, h1, h2, h3⟩ => by subst h1; simp [Reps.length h3]
theorem Reps.get {H : Hp} : ∀ {xs : List V} {ds : List Dt} {i : Nat} {d : Dt}, Reps H xs ds → ds[i]? = some d → ∃ x, xs[i]? = some x ∧ Rep H x d
  | xs, [], i, d, h, e => by simp at e
  | xs, d' :: ds, 0, d, ⟨x, r, h1, h2, h3⟩, e => by
    subst h1
    simp at e
    subst e
    exact ⟨x, rfl, h2⟩
  | xs, d' :: ds, i + 1, d, ⟨x, r, h1, h2, h3⟩, e => by
    subst h1
    obtain ⟨y, hy, hr⟩ := Reps.get (i := i) (d := d) h3 (by simpa using e)
    exact ⟨y, by simpa using hy, hr⟩
theorem Reps.append {H : Hp} : ∀ {xs : List V} {ds : List Dt} {ys : List V} {es : List Dt}, Reps H xs ds → Reps H ys es → Reps H (xs ++ ys) (ds ++ es)
  | xs, [], ys, es, h, g => by cases h; exact g
  | xs, d :: ds, ys, es, ⟨x, r, h1, h2, h3⟩, g => by subst h1; exact ⟨x, r ++ ys, rfl, h2, Reps.append h3 g⟩
mutual
def deq : Dt → Dt → Option Bool
  | .non, .non => some true
  | .bl a, .bl b => some (a == b)
  | .int a, .int b => some (a == b)
  | .str a, .str b => some (a == b)
  | .tup xs, .tup ys => deqs xs ys
  | .lst xs, .lst ys => if xs.length = ys.length then deqs xs ys else some false
  | _, _ => none
def deqs : List Dt → List Dt → Option Bool
  | [], [] => some true
  | x :: xs, y :: ys => match deq x y, deqs xs ys with
    | some a, some b => some (a && b)
    | _, _ => none
  | _, _ => some false
end
mutual
def dep : Dt → Nat
  | .tup ds => deps ds + 1
  | .lst ds => deps ds + 1
  | _ => 0
def deps : List Dt → Nat
  | [] => 0
  | d :: ds => max (dep d) (deps ds)
end
def eAt (ds es : List Dt) (j : Nat) : Bool := match ds[j]?, es[j]? with
  | some d, some e => (deq d e).getD false
  | _, _ => false
theorem deqs_range : ∀ (ds es : List Dt) (b : Bool), deqs ds es = some b → ((List.range (min ds.length es.length)).all (eAt ds es) && ds.length == es.length) = b
  | [], [], b, h => by cases h; rfl
  | [], _ :: _, b, h => by cases h; simp
  | _ :: _, [], b, h => by cases h; simp
  | d :: ds, e :: es, b, h => by
    rw [deqs] at h
    cases h1 : deq d e with
    | none => rw [h1] at h; cases h
    | some a =>
      cases h2 : deqs ds es with
      | none => rw [h1, h2] at h; cases h
      | some c =>
        rw [h1, h2] at h
        cases h
        rw [← deqs_range ds es c h2]
        simp only [List.length_cons, Nat.succ_min_succ, List.range_succ_eq_map, List.all_cons, List.all_map, Bool.and_assoc]
        congr 1
        · simp [eAt, h1]
        · congr 1
          simp
mutual
theorem deq_self : ∀ (d : Dt) (b : Bool), deq d d = some b → b = true
  | .non, b, h => by cases h; rfl
  | .bl a, b, h => by simp [deq] at h; exact h
  | .int a, b, h => by simp [deq] at h; exact h
  | .str a, b, h => by simp [deq] at h; exact h
  | .tup xs, b, h => deqs_self xs b h
  | .lst xs, b, h => by
    rw [deq, if_pos rfl] at h
    exact deqs_self xs b h
theorem deqs_self : ∀ (ds : List Dt) (b : Bool), deqs ds ds = some b → b = true
  | [], b, h => by cases h; rfl
  | d :: ds, b, h => by
    rw [deqs] at h
    cases h1 : deq d d with
    | none => rw [h1] at h; cases h
    | some a =>
      cases h2 : deqs ds ds with
      | none => rw [h1, h2] at h; cases h
      | some c =>
        rw [h1, h2] at h
        cases h
        rw [deq_self d a h1, deqs_self ds c h2]
        rfl
end
section
variable {X : Cx} {pins : List (Addr × Obj)} {σ : St} {H : Hp} {s : Shared}
mutual
theorem eqAt_D (I : Inv X pins σ H s) : ∀ (d e : Dt) {A : Around} {x y : V} {u v : Value} {b : Bool}, Rep H x d → Rep H y e → RelV x u → RelV y v → deq d e = some b → A.units + dep d < cLine → SeqAt.EqAt A s u v b
  | .non, e, A, x, y, u, v, b, hx, hy, rx, ry, hb, hu => by
    cases e <;> first | (cases hb; cases hx; cases hy; cases rx; cases ry; exact SeqAt.EqAt.same _) | (simp [deq] at hb)
  | .bl a, e, A, x, y, u, v, b, hx, hy, rx, ry, hb, hu => by
    cases e <;> first | (cases hb; cases hx; cases hy; cases rx; cases ry; exact SeqAt.EqAt.bool_bool _ _) | (simp [deq] at hb)
  | .int a, e, A, x, y, u, v, b, hx, hy, rx, ry, hb, hu => by
    cases e <;> first | (cases hb; cases hx; cases hy; obtain ⟨t, rfl⟩ := rx; obtain ⟨t', rfl⟩ := ry; exact SeqAt.EqAt.int_int _ _ _ _) | (simp [deq] at hb)
  | .str a, e, A, x, y, u, v, b, hx, hy, rx, ry, hb, hu => by
    cases e <;> first | (cases hb; cases hx; cases hy; obtain ⟨t, rfl⟩ := rx; obtain ⟨t', rfl⟩ := ry; exact SeqAt.EqAt.str_str _ _ _ _) | (simp [deq] at hb)
  | .tup ds, e, A, x, y, u, v, b, hx, hy, rx, ry, hb, hu => by
    cases e with
    | tup es =>
      obtain ⟨p, xs, e1, hp, hr⟩ := id hx
      obtain ⟨q, ys, e2, hq, hs⟩ := id hy
      subst e1 e2
      cases rx
      cases ry
      by_cases hpq : p = q
      · subst hpq
        have := Rep.inj _ _ hx hy
        cases this
        rw [deq_self _ b hb]
        exact SeqAt.EqAt.same _
      · obtain ⟨its, r1, pl1, _⟩ := I.tuple (xs := xs) (.inl (.inl hp))
        obtain ⟨its', r2, pl2, _⟩ := I.tuple (xs := ys) (.inl (.inl hq))
        have l1 := r1.length
        have l2 := r2.length
        have g1 := hr.length
        have g2 := hs.length
        have hu' : A.in1.units + deps ds < cLine := by
          have : A.units + (deps ds + 1) < cLine := hu
          rw [PySem.Around.in1_units]; omega
        have hb' : deqs ds es = some b := hb
        rw [← deqs_range ds es b hb']
        have := SeqAt.RcAt.tuples (e := eAt ds es) (A := A) (s := s) pl1 pl2 (Nat.lt_of_le_of_lt (Nat.le_add_right _ _) hu) (fun j h1 h2 => by
          have := eqAt_Ds I ds es hr hs r1 r2 hb' hu' j (by simpa using h1) (by simpa using h2)
          simpa using this)
        simp only [List.size_toArray, ← l1, ← l2, g1, g2] at this
        exact SeqAt.EqAt.of_refs hpq this
    | _ => simp [deq] at hb
  | .lst ds, e, A, x, y, u, v, b, hx, hy, rx, ry, hb, hu => by
    cases e with
    | lst es =>
      obtain ⟨p, xs, e1, hp, hr⟩ := id hx
      obtain ⟨q, ys, e2, hq, hs⟩ := id hy
      subst e1 e2
      cases rx
      cases ry
      by_cases hpq : p = q
      · subst hpq
        have := Rep.inj _ _ hx hy
        cases this
        rw [deq_self _ b hb]
        exact SeqAt.EqAt.same _
      · obtain ⟨its, r1, pl1, _⟩ := I.list (xs := xs) (.inl (.inl hp))
        obtain ⟨its', r2, pl2, _⟩ := I.list (xs := ys) (.inl (.inl hq))
        have l1 := r1.length
        have l2 := r2.length
        have g1 := hr.length
        have g2 := hs.length
        have hu0 : A.units < cLine := Nat.lt_of_le_of_lt (Nat.le_add_right _ _) hu
        have hu' : A.in1.units + deps ds < cLine := by
          have : A.units + (deps ds + 1) < cLine := hu
          rw [PySem.Around.in1_units]; omega
        rw [deq] at hb
        by_cases hl : ds.length = es.length
        · rw [if_pos hl] at hb
          rw [← deqs_range ds es b hb]
          have := SeqAt.RcAt.lists (e := eAt ds es) (A := A) (s := s) pl1.isList pl2.isList (by simp only [List.size_toArray]; omega) hu0 (fun j h1 h2 => by
            have := eqAt_Ds I ds es hr hs r1 r2 hb hu' j (by simpa using h1) (by simpa using h2)
            simpa using this)
          simp only [List.size_toArray, ← l1, g1] at this
          refine SeqAt.EqAt.of_refs hpq ?_
          have e3 : min ds.length es.length = ds.length := by omega
          rw [e3, hl]
          simpa [hl] using this
        · rw [if_neg hl] at hb
          cases hb
          exact SeqAt.EqAt.of_refs hpq (SeqAt.RcAt.lists_lengths pl1.isList pl2.isList (by simp only [List.size_toArray, bne_iff_ne, ne_eq]; omega) hu0)
    | _ => simp [deq] at hb
theorem eqAt_Ds (I : Inv X pins σ H s) : ∀ (ds es : List Dt) {A : Around} {xs ys : List V} {us vs : List Value} {b : Bool}, Reps H xs ds → Reps H ys es → Vals xs us → Vals ys vs → deqs ds es = some b → A.units + deps ds < cLine →
    ∀ (j : Nat) (h1 : j < us.length) (h2 : j < vs.length), SeqAt.EqAt A s us[j] vs[j] (eAt ds es j)
  | [], es, A, xs, ys, us, vs, b, hx, hy, rx, ry, hb, hu, j, h1, h2 => by
    cases hx
    cases rx
    exact absurd h1 (Nat.not_lt_zero _)
  | d :: ds, es, A, xs, ys, us, vs, b, ⟨x, r, e1, hd, hr⟩, hy, rx, ry, hb, hu, j, h1, h2 => by
    subst e1
    cases es with
    | nil =>
      cases hy
      cases ry
      exact absurd h2 (Nat.not_lt_zero _)
    | cons e es =>
      obtain ⟨y, r', e2, he, hs⟩ := hy
      subst e2
      cases rx with
      | cons rx rxs =>
        cases ry with
        | cons ry rys =>
          rw [deqs] at hb
          cases g1 : deq d e with
          | none => rw [g1] at hb; cases hb
          | some a =>
            cases g2 : deqs ds es with
            | none => rw [g1, g2] at hb; cases hb
            | some c =>
              have hm : A.units + max (dep d) (deps ds) < cLine := hu
              cases j with
              | zero =>
                have := eqAt_D I d e (A := A) hd he rx ry g1 (by omega)
                simpa [eAt, g1] using this
              | succ j =>
                have := eqAt_Ds I ds es (A := A) hr hs rxs rys g2 (by omega) j (by simpa using h1) (by simpa using h2)
                simpa [eAt] using this
end
def rEqD : R2 := fun x y H Q => ∃ p q d e b, x = .ref p ∧ y = .ref q ∧ Rep H x d ∧ Rep H y e ∧ deq d e = some b ∧ dep d ≤ 60 ∧ Q (.bl b) H
theorem op_eqD (hu : X.A.units + 64 < cLine) : OpR X (compareOp .Eq) rEqD := by
  intro pins s σ H x y v u Q I rx ry h
  obtain ⟨p, q, d, e, b, e1, e2, hx, hy, hb, hd, k⟩ := h
  subst e1 e2
  cases rx
  cases ry
  have fin : EP X pins σ Q (.bool b) s := ⟨.bl b, H, I, rfl, k⟩
  cases d with
  | tup ds =>
    cases e with
    | tup es =>
      obtain ⟨_, xs, z, hp, hr⟩ := hx
      cases z
      obtain ⟨_, ys, z, hq, hs⟩ := hy
      cases z
      obtain ⟨its, r1, pl1, _⟩ := I.tuple (xs := xs) (.inl (.inl hp))
      obtain ⟨its', r2, pl2, _⟩ := I.tuple (xs := ys) (.inl (.inl hq))
      have l1 := r1.length
      have l2 := r2.length
      have g1 := hr.length
      have g2 := hs.length
      have hd' : deps ds + 1 ≤ 60 := hd
      have hu' : X.A.in1.units + deps ds < cLine := by rw [PySem.Around.in1_units]; omega
      have hb' : deqs ds es = some b := hb
      refine SeqAt.eq_tupleAt (e := eAt ds es) pl1 pl2 (by omega) (fun j h1 h2 => by
        have := eqAt_Ds I ds es hr hs r1 r2 hb' hu' j (by simpa using h1) (by simpa using h2)
        simpa using this) ?_
      simp only [List.size_toArray, ← l1, ← l2, g1, g2]
      rw [deqs_range ds es b hb']
      exact fin
    | _ => simp [deq] at hb
  | lst ds =>
    cases e with
    | lst es =>
      obtain ⟨_, xs, z, hp, hr⟩ := hx
      cases z
      obtain ⟨_, ys, z, hq, hs⟩ := hy
      cases z
      obtain ⟨its, r1, pl1, _⟩ := I.list (xs := xs) (.inl (.inl hp))
      obtain ⟨its', r2, pl2, _⟩ := I.list (xs := ys) (.inl (.inl hq))
      have l1 := r1.length
      have l2 := r2.length
      have g1 := hr.length
      have g2 := hs.length
      have hd' : deps ds + 1 ≤ 60 := hd
      have hu' : X.A.in1.units + deps ds < cLine := by rw [PySem.Around.in1_units]; omega
      rw [deq] at hb
      by_cases hl : ds.length = es.length
      · rw [if_pos hl] at hb
        refine SeqAt.eq_listAt (e := eAt ds es) pl1.isList pl2.isList (by simp only [List.size_toArray]; omega) (by omega) (fun j h1 h2 => by
          have := eqAt_Ds I ds es hr hs r1 r2 hb hu' j (by simpa using h1) (by simpa using h2)
          simpa using this) ?_
        have e3 := deqs_range ds es b hb
        have e4 : min ds.length es.length = ds.length := by omega
        rw [e4, hl] at e3
        simp only [beq_self_eq_true, Bool.and_true] at e3
        simp only [List.size_toArray, ← l1, g1, hl, e3]
        exact fin
      · rw [if_neg hl] at hb
        cases hb
        exact SeqAt.eq_list_lengthsAt pl1.isList pl2.isList (by simp only [List.size_toArray, bne_iff_ne, ne_eq]; omega) (by omega) fin
    | _ => simp [deq] at hb
  | _ => simp [Rep] at hx
def rNeD : R2 := fun x y H Q => ∃ p q d e b, x = .ref p ∧ y = .ref q ∧ Rep H x d ∧ Rep H y e ∧ deq d e = some b ∧ dep d ≤ 60 ∧ Q (.bl (!b)) H
theorem op_neD (hu : X.A.units + 64 < cLine) : OpR X (compareOp .NotEq) rNeD := by
  intro pins s σ H x y v u Q I rx ry h
  obtain ⟨p, q, d, e, b, e1, e2, hx, hy, hb, hd, k⟩ := h
  subst e1 e2
  cases rx
  cases ry
  have fin : EP X pins σ Q (.bool (!b)) s := ⟨.bl (!b), H, I, rfl, k⟩
  cases d with
  | tup ds =>
    cases e with
    | tup es =>
      obtain ⟨_, xs, z, hp, hr⟩ := hx
      cases z
      obtain ⟨_, ys, z, hq, hs⟩ := hy
      cases z
      obtain ⟨its, r1, pl1, _⟩ := I.tuple (xs := xs) (.inl (.inl hp))
      obtain ⟨its', r2, pl2, _⟩ := I.tuple (xs := ys) (.inl (.inl hq))
      have l1 := r1.length
      have l2 := r2.length
      have g1 := hr.length
      have g2 := hs.length
      have hd' : deps ds + 1 ≤ 60 := hd
      have hu' : X.A.in1.units + deps ds < cLine := by rw [PySem.Around.in1_units]; omega
      have hb' : deqs ds es = some b := hb
      refine SeqAt.RcNeAt.tuples (e := eAt ds es) pl1 pl2 (by omega) (fun j h1 h2 => by
        have := eqAt_Ds I ds es hr hs r1 r2 hb' hu' j (by simpa using h1) (by simpa using h2)
        simpa using this) _ _ _ _ ?_
      simp only [List.size_toArray, ← l1, ← l2, g1, g2]
      rw [deqs_range ds es b hb']
      exact fin
    | _ => simp [deq] at hb
  | lst ds =>
    cases e with
    | lst es =>
      obtain ⟨_, xs, z, hp, hr⟩ := hx
      cases z
      obtain ⟨_, ys, z, hq, hs⟩ := hy
      cases z
      obtain ⟨its, r1, pl1, _⟩ := I.list (xs := xs) (.inl (.inl hp))
      obtain ⟨its', r2, pl2, _⟩ := I.list (xs := ys) (.inl (.inl hq))
      have l1 := r1.length
      have l2 := r2.length
      have g1 := hr.length
      have g2 := hs.length
      have hd' : deps ds + 1 ≤ 60 := hd
      have hu' : X.A.in1.units + deps ds < cLine := by rw [PySem.Around.in1_units]; omega
      rw [deq] at hb
      by_cases hl : ds.length = es.length
      · rw [if_pos hl] at hb
        refine SeqAt.RcNeAt.lists (e := eAt ds es) pl1.isList pl2.isList (by simp only [List.size_toArray]; omega) (by omega) (fun j h1 h2 => by
          have := eqAt_Ds I ds es hr hs r1 r2 hb hu' j (by simpa using h1) (by simpa using h2)
          simpa using this) _ _ _ _ ?_
        have e3 := deqs_range ds es b hb
        have e4 : min ds.length es.length = ds.length := by omega
        rw [e4, hl] at e3
        simp only [beq_self_eq_true, Bool.and_true] at e3
        simp only [List.size_toArray, ← l1, g1, hl, e3]
        exact fin
      · rw [if_neg hl] at hb
        cases hb
        exact SeqAt.RcNeAt.lists_lengths pl1.isList pl2.isList (by simp only [List.size_toArray, bne_iff_ne, ne_eq]; omega) (by omega) _ _ _ _ fin
    | _ => simp [deq] at hb
  | _ => simp [Rep] at hx
end
end L2
set_option Elab.async false
set_option linter.all false
set_option maxRecDepth 100000
set_option maxHeartbeats 1000000
namespace L2
open PySem PySem.Spec PyProof.Rows
section
variable {X : Cx} {pins : List (Addr × Obj)} {σ : St} {H : Hp} {s : Shared} {h' : Heap}
end
def Itz (K : PySem.W.Frag) (a b : Addr) : It :=
  ⟨fun i H => ∃ xs ys x y, SqL K H a xs ∧ SqL K H b ys ∧ xs[i]? = some x ∧ ys[i]? = some y,
   fun i H v H' => ∃ T x y, v = .ref T ∧ H T = none ∧ H' = upd H T (.tup [x, y]) ∧ (∀ xs, SqL K H a xs → xs[i]? = some x) ∧ (∀ ys, SqL K H b ys → ys[i]? = some y),
   fun i H => ∃ xs ys, SqL K H a xs ∧ SqL K H b ys ∧ (xs.length ≤ i ∨ ys.length ≤ i)⟩
def iZip (K : PySem.W.Frag) (ta : TA) : TI := fun σ H R => ta σ H fun vs H1 => ∃ a b, vs = [.ref a, .ref b] ∧ (∃ xs, SqL K H1 a xs) ∧ (∃ ys, SqL K H1 b ys) ∧ R (Itz K a b) H1
section
variable {X : Cx} {elts : List Expr} {kt : Nat} {tpos : Pos}
end
def rSum (K : PySem.W.Frag) : List V → Hp → VK → Prop := fun xs H Q => ∃ (p : Addr) (ns : List Int), xs = [V.ref p] ∧ SqL K H p (ns.map V.int) ∧ Q (.int ns.sum) H
def rListH : List V → Hp → VK → Prop := fun xs H Q => ∃ p ys, xs = [V.ref p] ∧ (H p = some (.lst ys) ∨ H p = some (.tup ys)) ∧ ∀ l, H l = none → Q (.ref l) (upd H l (.lst ys))
end L2
set_option Elab.async false
set_option linter.all false
set_option maxRecDepth 100000
set_option maxHeartbeats 1000000
namespace L2
open PySem PySem.Spec PyProof.Rows
def newH (B H : Hp) : Hp := fun b => match B b with | some _ => none | none => H b
def cutH (B : Hp) (D : Addr) (H : Hp) : Hp := fun b => if b = D then none else newH B H b
theorem newH_of {B H : Hp} {b : Addr} {o : HO} (h : newH B H b = some o) : B b = none ∧ H b = some o := by
  unfold newH at h
  cases e : B b with
  | some z => rw [e] at h; cases h
  | none => rw [e] at h; exact ⟨rfl, h⟩
theorem newH_at {B H : Hp} {b : Addr} (h : B b = none) : newH B H b = H b := by
  unfold newH
  rw [h]
theorem cutH_of {B H : Hp} {D b : Addr} {o : HO} (h : cutH B D H b = some o) : b ≠ D ∧ B b = none ∧ H b = some o := by
  unfold cutH at h
  by_cases e : b = D
  · rw [if_pos e] at h; cases h
  · rw [if_neg e] at h; exact ⟨e, newH_of h⟩
theorem cutH_at {B H : Hp} {D b : Addr} (e : b ≠ D) (h : B b = none) : cutH B D H b = H b := by
  unfold cutH
  rw [if_neg e, newH_at h]
theorem newH_same {B H : Hp} : Same (newH B H) H := fun b o h => (newH_of h).2
theorem cutH_same {B H : Hp} {D : Addr} : Same (cutH B D H) H := fun b o h => (cutH_of h).2.2
theorem cutH_new {B H : Hp} {D : Addr} : Same (cutH B D H) (newH B H) := fun b o h => by
  obtain ⟨h1, h2, h3⟩ := cutH_of h
  rw [newH_at h2]; exact h3
theorem cutH_mono {B H H' : Hp} {D : Addr} (e : Same H H') : Same (cutH B D H) (cutH B D H') := fun b o h => by
  obtain ⟨h1, h2, h3⟩ := cutH_of h
  rw [cutH_at h1 h2]; exact e _ _ h3
theorem cutH_upd {B H : Hp} {D : Addr} {o : HO} : cutH B D (upd H D o) = cutH B D H := by
  funext b
  unfold cutH newH
  by_cases e : b = D
  · rw [if_pos e, if_pos e]
  · rw [if_neg e, if_neg e, upd_ne e]
theorem new_cut {B H H3 : Hp} {D : Addr} (hB : Same B H) (hD : ∃ o, H D = some o) : Same (newH H H3) (cutH B D H3) := fun b o h => by
  obtain ⟨h1, h2⟩ := newH_of h
  obtain ⟨z, hz⟩ := hD
  rw [cutH_at (ne_of_none hz h1).symm (hB.free h1)]
  exact h2
theorem Reps.of_get {H : Hp} {xs : List V} {ds : List Dt} {i : Nat} {x : V} (h : Reps H xs ds) (e : xs[i]? = some x) : ∃ d, ds[i]? = some d ∧ Rep H x d := by
  have hi : i < xs.length := (List.getElem?_eq_some_iff.mp e).1
  have hi' : i < ds.length := by rw [← h.length]; exact hi
  obtain ⟨y, hy, hr⟩ := h.get (i := i) (d := ds[i]) (by simp [hi'])
  rw [e] at hy
  cases hy
  exact ⟨ds[i], by simp [hi'], hr⟩
end L2
set_option Elab.async false
set_option linter.all false
set_option maxRecDepth 100000
namespace L2
open PySem PySem.Spec PyProof.Rows
theorem ObjOk.obj {P : Program} {w : World} {H : Hp} {h : Heap} {a : Addr} {o : HO} (x : ObjOk P w H h a o) : ∃ u, h.get? a = some u := by
  cases o with
  | lst xs => obtain ⟨_, _, _, _, e⟩ := x; exact ⟨_, e⟩
  | tup xs => obtain ⟨_, _, _, ob, e, _⟩ := x; exact ⟨_, e⟩
  | dK kvs => obtain ⟨_, _, _, _, o, _, _, e, _⟩ := x; exact ⟨_, e⟩
  | dT kvs => obtain ⟨_, _, _, _, o, _, _, e, _⟩ := x; exact ⟨_, e⟩
  | set S n => obtain ⟨o, _, _, _, e, _⟩ := x; exact ⟨_, e⟩
  | ins C dx fs => obtain ⟨_, _, _, e, _⟩ := x; exact ⟨_, e⟩
  | own y => exact x
  | xd fs => obtain ⟨_, ⟨_, _, _, e, _⟩, _⟩ := x; exact ⟨_, e⟩
  | rng lo hi => obtain ⟨_, _, _, e⟩ := x; exact ⟨_, e⟩
  | frz ob u => obtain ⟨e, _⟩ := x; exact ⟨_, e⟩
  | tbl ps => exact ⟨_, show h.get? a = some _ from x⟩
  | met f y => exact ⟨_, show h.get? a = some _ from x⟩
  | ext φ => obtain ⟨_, e, _⟩ := x; exact e
structure ExC (K : PySem.W.Frag) (C : Addr) : Prop where
  obj : ∀ {h : Heap}, K.In h → ∃ bm N nm q bs hdct sn sub ab col dd k0 k1 k2 k3 k5 mN, h.get? C = some (excClassObj nm q C N bs bm hdct sn sub ab col dd k0 k1 k2 k3 k5 "ValueError.__new__") ∧ h.Ns N mN ∧ mN "__init__" = none ∧
    OwnTail h [.type "ValueError", .type "Exception", .type "BaseException", .type "object"] bm
section
variable {P : Program} {w : World} {K : PySem.W.Frag} {mg : Str → Option Value} {base : Heap} {N : List Str} {qual : Str} {scope : Scope} {f : Addr} {cd : Value} {A : Around} {outer : List Env} {s₀ : Shared} {H₀ : Hp} {E : XK}
end
section
variable {X : Cx} {pins : List (Addr × Obj)} {σ : List (Option V)} {H : Hp} {s : Shared}
end
structure HnC (K : PySem.W.Frag) (C : Addr) : Prop where
  ty : PySem.W.typeIn K (.ref C) = some (.type "type")
  cl : (PySem.W.clsIn K C).isSome = true
  ex : PySem.W.mroIn K C (.type "BaseException") = some true
abbrev calmed (A : Around) : Around := { A with handled := none }
structure FnOkH (P : Program) (w : World) (K : PySem.W.Frag) (mg : Str → Option Value) (base : Heap) (k : Nat) (f : Addr) (fd : FuncData) (ps : List Str) (sp : Sp) : Prop where
  len : ∀ vs H Q E, sp vs H Q E → vs.length = ps.length
  run : ∀ (A : Around) (outer : List Env) (s : Shared) (H : Hp) (args : Args) (us : List Value) (vs : List V) (Q : VK) (E : XK), Room k (calmed A) → Env0 P w K mg base A outer s H → BindsTo s fd args (ps.zip us) → Vals vs us → sp vs H Q E →
    codeAny (model P w) A (.call (.ref f) args) (CR CX0 outer P w H s Q E) s
end L2
set_option Elab.async false
set_option linter.all false
set_option maxRecDepth 100000
namespace L2
open PySem PySem.Spec PyProof.Rows
section
variable {X : Cx} {x : Str} {ps : List Str} {k : Nat} {sp : Sp} {e : Expr} {es : List Expr} {t : TA} {p pos : Pos} {E : XK}
end
structure KitE (K : PySem.W.Frag) (C : Addr) : Prop where
  cl : (PySem.W.clsIn K C).isSome = true
  ga : PySem.W.findIn K (.ref C) "__getattribute__" = some (some (.builtin "BaseException.__getattribute__"))
  gh : PySem.W.findIn K (.ref C) "__getattr__" = some none
  at_ : PySem.W.findIn K (.ref C) "__class__" = some (some (.builtin "object.__class__"))
  get : PySem.W.specialIn K (.builtin "object.__class__") "__get__" = some (some (.builtin "getset_descriptor.__get__"))
  set : PySem.W.takesIn K (.builtin "object.__class__") = some true
  obj : PySem.W.mroIn K C (.type "object") = some true
  exc : PySem.W.mroIn K C (.type "BaseException") = some true
def ObjC (x : Addr) (D : Value) (h : Heap) : Prop := ∃ o, h.get? x = some o ∧ o.cls = D
theorem ObjC.ty {x : Addr} {D : Value} {M : Model} {h : Heap} (p : ObjC x D h) : PySem.W.Looks M h (typeOf (.ref x)) D := by
  obtain ⟨o, h1, h2⟩ := p
  exact h2 ▸ (PySem.W.Looks.ld h1).andThen .now
def tPar3 (i j k : Nat) (ta : TA) : TS := fun D σ H => ta σ H fun vs H1 => ∃ v w y, vs = [v, w, y] ∧ D.nx (((σ.set i (some v)).set j (some w)).set k (some y)) H1
end L2
set_option Elab.async false
set_option linter.all false
set_option maxRecDepth 100000
namespace L2
open PySem PySem.Spec PyProof.Rows
def Itd (hi : Int) (n : Nat) : It := ⟨fun i _ => i < n, fun i H x H' => H' = H ∧ x = .int (hi - i), fun i _ => n ≤ i⟩
def iRngD (ta : TA) : TI := fun σ H R => ta σ H fun vs H1 => ∃ i j : Int, vs = [.int i, .int j, .int (-1)] ∧ (0 ≤ j ∧ j ≤ i ∧ i < 2 ^ 30) ∧ R (Itd i (i - j).toNat) H1
def rSlH : V → Option Int → Option Int → Hp → VK → Prop := fun x lo hi H Q => ∃ a xs, x = .ref a ∧ H a = some (.lst xs) ∧ ∀ p, H p = none → Q (.ref p) (upd H p (.lst (cutV xs lo hi)))
theorem sl_listH {X : Cx} : SlR X rSlH := by
  intro pins s σ H x v vl vu lo hi sl Q I rx hs pl pu h
  obtain ⟨a, xs, e, hx, q⟩ := h
  exact sl_list pins s σ H x v vl vu lo hi sl Q I rx hs pl pu ⟨a, xs, e, .inl (.inl hx), q⟩
theorem cut_from (xs : List V) (k : Nat) (h : k ≤ xs.length) : cutV xs (some (k : Int)) none = xs.drop k := by
  unfold cutV
  rw [HT.sIx_nat, HT.sIx_none, Nat.min_eq_left h]
  exact List.take_of_length_le (by simp)
theorem cut_to (xs : List V) (k : Nat) (h : k ≤ xs.length) : cutV xs none (some (k : Int)) = xs.take k := by
  unfold cutV
  rw [HT.sIx_nat, HT.sIx_none, Nat.min_eq_left h]
  simp
end L2
set_option Elab.async false
set_option linter.all false
set_option maxRecDepth 100000
namespace L2
open PySem PySem.Spec PyProof.Rows
end L2
set_option Elab.async false
set_option linter.all false
set_option maxRecDepth 100000
namespace L2
open PySem PySem.Spec PyProof.Rows
end L2
set_option Elab.async false
set_option linter.all false
set_option maxRecDepth 100000
namespace L2
open PySem PySem.Spec PyProof.Rows
def numsV (n : Nat) : List V := (List.range n).map fun i : Nat => V.int (i : Int)
def tLRange (ta : TA) : TE := fun σ H Q => ta σ H fun vs H1 => ∃ n : Nat, vs = [.int (n : Int)] ∧ n ≤ 1000 ∧ ∀ l, H1 l = none → Q (.ref l) (upd H1 l (.lst (numsV n)))
theorem vals_get : ∀ {xs : List V} {us : List Value}, xs.length = us.length → (∀ (j : Nat) x u, xs[j]? = some x → us[j]? = some u → RelV x u) → Vals xs us
  | [], [], _, _ => .nil
  | [], _ :: _, h, _ => by simp at h
  | _ :: _, [], h, _ => by simp at h
  | x :: xs, u :: us, h, k => .cons (k 0 x u rfl rfl) (vals_get (by simpa using h) fun j y v e e' => k (j + 1) y v (by simpa using e) (by simpa using e'))
theorem pe_listRange {X : Cx} {a : Expr} {ta : TA} {p p' pos pos' : Pos} (hc : X.calm = true) (hg : Gl X "list") (hm : X.mg "list" = none) (hg' : Gl X "range") (hm' : X.mg "range" = none) (ha : PA X [a] ta) (hs : plainArgs [a] = true := by rfl) :
    PE X (.Call (.Name "list" p) [.Call (.Name "range" p') [a] [] pos'] [] pos) (tLRange ta) := by
  have h' : notStar a = true := by simpa [plainArgs] using hs
  intro pins s σ H Q I h
  refine wpAny_Call_Name_kw (ld_blt I hg hm bt_list ?_ (by decide) (by decide))
  refine PyProof.Rows.callWith_type1 ?_ (starEach_plain rfl) rfl
  rw [starEach_plain (e := .Call (.Name "range" p') [a] [] pos') (es := []) rfl]
  show wpAny _ _ (spliced ((false, eval (.Call (.Name "range" p') [a] [] pos') X.env) :: backTo pos (starEach [] X.env))) _ _ s
  refine Calls.spliced_cons ?_
  refine Call_ (ld_blt I hg' hm' boot_range (PyProof.Rows.callWith_type1 (thn (ha pos' pins s σ H _ I h) fun us s1 ⟨vs, H1, I1, r1, q1⟩ => ?_) (starEach_plain h') rfl))
  obtain ⟨n, e, n1, q⟩ := q1
  subst e
  cases r1 with
  | cons r rr =>
    cases rr
    obtain ⟨t, rfl⟩ := r
    refine call_range_1 ?_
    refine Calls.spliced_nil ?_
    have I2 : Inv X pins σ H1 { s1 with heap := s1.heap.push { cls := .type "range", data := .fields #[.int 0 s1.toks, .int (n : Int) t, .int 1 (s1.toks + 1)] }, toks := s1.toks + 1 + 1 } := I1.kept fun b o e => Heap.get?_push_of_some _ e
    refine call_list_range (n := n) (I2.ok.hd hc) (IsRange.new ..) (small_one (by omega) (by omega) (by omega) (by omega)) (by rw [rangeSize_one]; split <;> omega) (by omega) fun h2 tk acc c hk hS hacc => ?_
    refine ⟨.ref _, _, I2.laid (t' := tk) hk (Nat.le_refl _) (show ObjOk X.prog X.w _ h2 _ (.lst (numsV n)) from ⟨?_, acc.toList, c, vals_get ?_ ?_, by simpa using hS⟩), rfl, q _ (I2.hok.fresh (Nat.le_refl _))⟩
    · exact Nat.le_of_lt (small1000 (by simp [numsV]; omega))
    · simp [numsV, hacc.1]
    · intro j x u hx hu
      have hj : j < n := by
        have := (List.getElem?_eq_some_iff.mp hx).1
        simpa [numsV] using this
      have hx' : x = V.int (j : Int) := by
        rw [numsV, List.getElem?_map, List.getElem?_range hj] at hx
        exact (Option.some.inj hx).symm
      obtain ⟨tk', rfl⟩ := hacc.2 j u (by simpa using hu)
      rw [hx']
      exact ⟨tk', by rw [Int.zero_add, Int.mul_one]⟩
def tRev (te : TE) (ts : TO) : TE := fun σ H Q => te σ H fun x H1 => ts σ H1 fun o H2 => o = some (-1) ∧ ∃ a xs, x = .ref a ∧ H2 a = some (.lst xs) ∧ ∀ p, H2 p = none → Q (.ref p) (upd H2 p (.lst xs.reverse))
theorem vals_rev {xs : List V} {us : List Value} (r : Vals xs us) : Vals xs.reverse us.reverse := by
  have hl := r.length
  refine vals_get (by simp [hl]) fun j x u hx hu => ?_
  have hj : j < xs.length := by
    have := (List.getElem?_eq_some_iff.mp hx).1
    simpa using this
  rw [List.getElem?_reverse hj] at hx
  rw [List.getElem?_reverse (by omega), ← hl] at hu
  obtain ⟨u', hu', ru⟩ := r.get hx
  rw [hu] at hu'
  cases hu'
  exact ru
theorem pe_rev {X : Cx} {e : Expr} {st : Expr} {te : TE} {ts : TO} {pos p2 : Pos} (he : PE X e te) (hk : PO X (some st) ts) : PE X (.Subscript e (.Slice none none (some st) p2) pos) (tRev te ts) := by
  intro pins s σ H Q I h
  refine Subscript_ (thn (he pins s σ H _ I h) fun v s1 ⟨x, H1, I1, r1, q1⟩ => ?_)
  refine wpAny_Slice ?_
  rw [evalPart_none]
  refine wpAny_pure (wpAny_pure ?_)
  refine thn (hk pins s1 σ H1 _ I1 q1) fun vk s2 ⟨o, H2, I2, pk, q2⟩ => ?_
  obtain ⟨rfl, a, xs, rfl, hx, q⟩ := q2
  cases r1
  have I4 : Inv X pins σ H2 { s2 with heap := s2.heap.push { cls := .type "slice", data := .fields #[.none, .none, vk] } } := I2.kept (t' := s2.toks) fun b ob q => Heap.get?_push_of_some _ q
  obtain ⟨its, r, ht, hz⟩ := I4.list (.inl (.inl hx))
  have hlen := r.length
  show wpAny (model X.prog X.w) X.A (subscriptTail e (.Slice none none (some st) p2) (.ref a) (.ref s2.heap.objs.size)) (EP X pins σ Q) X.xe { s2 with heap := s2.heap.push { cls := .type "slice", data := .fields #[.none, .none, vk] } }
  refine tail_any (ops := [.ref a, .ref s2.heap.objs.size]) ht.isList.typeIs slot_list_getitem.lookup ?_ (by with_unfolding_all rfl)
  refine wpAny_getItem_list_slice ht.isList (Heap.IsSliceOf.new ..) .none .none pk (by decide) ?_ (by rw [List.size_toArray] <;> omega)
  rw [PySem.W.krv_pick]
  refine ⟨.ref _, _, I4.laid (t' := s2.toks) (o := .lst xs.reverse) (fun b ob q => Heap.get?_push_of_some _ q) (Nat.le_refl _) ?_, rfl, q _ (I4.hok.fresh (Nat.le_refl _))⟩
  exact ⟨by rw [List.length_reverse]; exact hz, its.reverse, 0, vals_rev r, Heap.get?_push_size _ rfl⟩
end L2
set_option Elab.async false
set_option linter.all false
set_option maxRecDepth 100000
set_option maxHeartbeats 4000000
namespace L2
open PySem PySem.Spec PyProof.Rows PySem.W
def runT {α : Type} (lt : Nat → Nat → Bool) (n : Nat) : KasT α → Option α
  | .ret a => some a
  | .ask i j k => if i < n ∧ j < n then runT lt n (k (lt i j)) else none
theorem wp_run {α : Type} {ask : Nat → Nat → (Bool → Shared → Prop) → Shared → Prop} {lt : Nat → Nat → Bool} {n : Nat} {Q : α → Shared → Prop} {s : Shared} (hc : ∀ i j (C : Bool → Shared → Prop), i < n → j < n → C (lt i j) s → ask i j C s) :
    ∀ (t : KasT α) {p : α}, runT lt n t = some p → Q p s → t.kasWp ask Q s
  | .ret a, p, e, q => by
    cases e
    exact q
  | .ask i j k, p, e, q => by
    unfold runT at e
    split at e
    · rename_i h
      exact hc i j _ h.1 h.2 (wp_run hc (k (lt i j)) e q)
    · cases e
section
variable {X : Cx} {pins : List (Addr × Obj)} {σ : St} {H : Hp} {s : Shared}
theorem ns_inj {h : Heap} {a : Addr} {m m' : Str → Option Value} (x : h.Ns a m) (y : h.Ns a m') : m = m' := by
  obtain ⟨o, es, ep, ho, hd, _, hf⟩ := x
  obtain ⟨o', es', ep', ho', hd', _, hf'⟩ := y
  rw [ho] at ho'
  cases ho'
  rw [hd] at hd'
  cases hd'
  funext z
  rw [← hf z, hf' z]
theorem Inv.keeps (I : Inv X pins σ H s) {m : Str → Option Value} {h' : Heap} (F : Fr X.base X.env.locals h' m) (N : News X.base X.env.locals h' (allNews X.base s.heap X.env.locals)) :
    ∀ b o, b ≠ X.env.locals → s.heap.get? b = some o → h'.get? b = some o := fun b o hb e => by
  cases q : X.base.get? b with
  | some u =>
    have z := I.bk b u q
    rw [e] at z
    cases z
    exact F.keep b _ q
  | none => exact (N (b, o) (mem_allNews hb q e)).1
theorem Inv.led {H' : Hp} {t' : Nat} (I : Inv X pins σ H s) {m : Str → Option Value} (hn : s.heap.Ns X.env.locals m) {h' : Heap} (F : Fr X.base X.env.locals h' m) (N : News X.base X.env.locals h' (allNews X.base s.heap X.env.locals))
    (free : ∀ b o, s.heap.get? b = some o → H b = none → H' b = none) (old : ∀ b o, H b = some o → H' b = some o) (new : ∀ b o, H' b = some o → H b = none → ObjOk X.prog X.w H' h' b o) : Inv X pins σ H' { s with heap := h', toks := t' } := by
  have kp := I.keeps F N
  refine I.step (g' := s.gens) (d' := s.drawn) (ch := []) (fun _ z => nomatch z) (fun b o hb _ _ e _ => kp b o hb e) (fun b o hb _ _ e _ => ⟨o.slots, kp b o hb e⟩) (fun b o _ e n => free b o e n) (fun b o _ e => ?_) (fun b xs q => old b _ q) (fun b o u q => old b _ q) (fun b ps q => ⟨#[], by simpa using old b _ q⟩) (fun m' hm => ?_) ?_ I.bare
  · by_cases hb : b = X.env.locals
    · subst hb
      obtain ⟨o', _, _, ho', _⟩ := F.ns
      exact ⟨o', ho'⟩
    · exact ⟨o, kp b o hb e⟩
  · rw [ns_inj hm hn]
    exact F.ns
  · intro b o e
    cases q : H b with
    | none => exact new b o e q
    | some u =>
      have z := old b u q
      rw [e] at z
      cases z
      refine (I.hok b o q).stay (fun c v hc r => kp c v (fun w => ?_) r) (fun c r => old c _ r) fun c xs r => old c _ r
      rcases hc with rfl | hc
      · rw [w, I.free] at q; cases q
      · rw [w, I.free] at hc; cases hc
theorem vals_pick {ys : List V} {its : List Value} (r : Vals ys its) (is : List Nat) : Vals (is.map fun i => ys.getD i .non) (is.map fun i => its.getD i Value.none) := by
  induction is with
  | nil => exact .nil
  | cons i is ih =>
    refine .cons ?_ ih
    show RelV (ys.getD i .non) (its.getD i Value.none)
    rw [List.getD_eq_getElem?_getD, List.getD_eq_getElem?_getD]
    have hl := r.length
    cases e : ys[i]? with
    | none =>
      have : ys.length ≤ i := List.getElem?_eq_none_iff.mp e
      rw [List.getElem?_eq_none_iff.mpr (by omega)]
      exact rfl
    | some x =>
      obtain ⟨u, hu, ru⟩ := r.get e
      rw [hu]
      exact ru
theorem ob_is {P : Program} {w : World} {H : Hp} {h : Heap} {a : Addr} {o : HO} (x : ObjOk P w H h a o) : ∃ ob, h.get? a = some ob := by
  cases o with
  | lst xs => obtain ⟨_, _, _, _, e⟩ := x; exact ⟨_, e⟩
  | tup xs => obtain ⟨_, _, _, ob, e, _⟩ := x; exact ⟨_, e⟩
  | dK kvs => obtain ⟨_, _, _, _, ob, _, _, e, _⟩ := x; exact ⟨_, e⟩
  | dT kvs => obtain ⟨_, _, _, _, ob, _, _, e, _⟩ := x; exact ⟨_, e⟩
  | set S n => obtain ⟨ob, _, _, _, e, _⟩ := x; exact ⟨_, e⟩
  | ins C dx fs => obtain ⟨_, _, _, e, _⟩ := x; exact ⟨_, e⟩
  | own y => exact x
  | xd fs => obtain ⟨_, ⟨ob, _, _, e, _⟩, _⟩ := x; exact ⟨_, e⟩
  | rng lo hi => obtain ⟨_, _, _, e⟩ := x; exact ⟨_, e⟩
  | frz ob u => exact ⟨_, x.1⟩
  | tbl ps => exact ⟨_, show h.get? a = some _ from x⟩
  | met f y => exact ⟨_, show h.get? a = some _ from x⟩
  | ext φ => exact x.2.1
theorem sorted_by {Q : VK} {p : Addr} {ys : List V} {lt : Nat → Nat → Bool} {κ : SortKind} {pm : Array Nat} (I : Inv X pins σ H s) (hq : SqL X.K H p ys) (h2 : 2 ≤ ys.length) (h64 : ys.length < 64)
    (kind : ∀ (its : List Value) (s' : Shared), Vals ys its → Inv X pins σ H s' → ∀ C : SortKind → Shared → Prop, C κ s' → wpAny (model X.prog X.w) X.A.in1.in1 (keyKind' its.toArray) C (fun _ _ => False) s')
    (less : ∀ (its : List Value) (s' : Shared) (i j : Nat), Vals ys its → Inv X pins σ H s' → i < ys.length → j < ys.length → ∀ C : Bool → Shared → Prop, C (lt i j) s' → wpAny (model X.prog X.w) X.A.in1.in1 (keyLt' κ (its.getD i Value.none) (its.getD j Value.none)) C (fun _ _ => False) s')
    (run : runT lt ys.length (kas_sort ys.length) = some pm) (hz : pm.size ≤ 1000) (q : ∀ l, H l = none → Q (.ref l) (upd H l (.lst (pm.toList.map fun i => ys.getD i .non)))) :
    wpAny (model X.prog X.w) X.A (call (.builtin "sorted") [.ref p]) (EP X pins σ Q) X.xe s := by
  obtain ⟨its, rv, pl, _⟩ := I.list hq
  have hl := rv.length
  obtain ⟨m, hn, _⟩ := id I.loc
  have F0 : Fr X.base X.env.locals s.heap m := ⟨hn, I.bk, Nat.le_trans I.ok.bsz I.ok.above⟩
  refine kat_sorted F0 news_all pl.isList (by omega) (by omega) fun D e1 h1 F1 N1 lt1 => ?_
  have N1' : News X.base X.env.locals h1 (allNews X.base s.heap X.env.locals) := fun z hz' => N1 z (List.mem_cons_of_mem _ hz')
  have ND := N1 (D, _) List.mem_cons_self
  have fr : ∀ b o, s.heap.get? b = some o → b ≠ D := fun b o e w => by
    subst w
    exact absurd (lt1 (b, o) (mem_allNews ND.2.1 ND.2.2 e)) (Nat.lt_irrefl _)
  have HD : H D = none := by
    cases w : H D with
    | none => rfl
    | some u =>
      obtain ⟨o, g⟩ := ob_is (I.hok D u w)
      exact absurd rfl (fr D o g)
  have I1 : Inv X pins σ H { s with heap := h1, toks := s.toks } := I.led hn F1 N1' (fun _ _ _ n => n) (fun _ _ w => w) (fun b o w n => by rw [w] at n; cases n)
  refine kind its _ rv I1 _ ?_
  rw [← hl]
  refine wp_run (lt := lt) (n := ys.length) (fun i j C hi hj hC => less its _ i j rv I1 hi hj C hC) _ run ?_
  refine KasFin.intro F1 N1 (.head fun z hz' w => ?_) fun h2' c F2 N2 => ?_
  · exact absurd (lt1 z hz') (by rw [w]; exact Nat.lt_irrefl _)
  · have N2' : News X.base X.env.locals h2' (allNews X.base s.heap X.env.locals) := fun z hz' => N2 z (List.mem_cons_of_mem _ hz')
    have hD := (N2 (D, _) List.mem_cons_self).1
    refine ⟨.ref D, upd H D (.lst (pm.toList.map fun i => ys.getD i .non)), I.led (t' := s.toks) hn F2 N2' (fun b o e n => by rw [upd_ne (fr b o e)]; exact n) (fun b o e => by rw [upd_ne (ne_of_none e HD)]; exact e) (fun b o e n => ?_), rfl, q D HD⟩
    by_cases hb : b = D
    · subst hb
      rw [upd_same] at e
      cases e
      exact ⟨Nat.le_of_lt (small1000 (by simp; omega)), _, c, vals_pick rv _, hD⟩
    · rw [upd_ne hb, n] at e
      cases e
end
end L2
set_option Elab.async false
set_option linter.all false
set_option maxRecDepth 100000
set_option maxHeartbeats 4000000
namespace L2
open PySem PySem.Spec PyProof.Rows PySem.W HT
section
open PySem.SeqAt
open PySem.AutoSeq1 (wpAny_loadPart')
open PySem.MeetsSeq PySem.MeetsSeq2 PySem.MeetsSeq3
theorem lt_loopI (l b : Addr) (its us : Array Value) (n n2 : Nat) (dd dd2 : Option Addr) (sl sl2 : Array (Option Value)) (ns ms : List Int) (hi : IntsAre its.toList ns) (hj : IntsAre us.toList ms) (k : Nat) :
    ∀ i : Nat, its.size - i = k → i ≤ its.size → i ≤ us.size → Meets (Builtin.«list.__eq__.loop» ⟨[.ref l, .ref b, rawInt i, rawInt 0], []⟩)
      (fun _ R s => s.heap.get? l = some { cls := .type "list", dict := dd, data := .seq its n, slots := sl } ∧ s.heap.get? b = some { cls := .type "list", dict := dd2, data := .seq us n2, slots := sl2 } ∧
        R (.ok (.ret (.bool (lexLt (ns.drop i) (ms.drop i))))) s) := by
  have z1 : its.size = ns.length := by rw [← hi.length]; simp
  have z2 : us.size = ms.length := by rw [← hj.length]; simp
  induction k with
  | zero =>
    intro i hk h1 h2 prog w A R s h
    obtain ⟨hp, g, d, tk, os⟩ := s
    obtain ⟨hl, hb, h⟩ := h
    wp_walk using wpAny_loadPart' hl, wpAny_loadPart' hb
    have e1 : its[((i : Nat) : Int).toNat]? = none := by simp; omega
    have e3 : lexLt (ns.drop i) (ms.drop i) = decide (its.size < us.size) := by
      rw [List.drop_eq_nil_of_le (show ns.length ≤ i by omega)]
      cases e : ms.drop i with
      | nil =>
        have := List.drop_eq_nil_iff.mp e
        rw [lexLt_nil_nil]
        exact (decide_eq_false (by omega)).symm
      | cons c cs =>
        have : (ms.drop i).length = cs.length + 1 := by rw [e]; rfl
        rw [List.length_drop] at this
        rw [lexLt_nil_cons]
        exact (decide_eq_true (by omega)).symm
    rw [e3] at h
    rw [e1]
    wp_walk using wpAny_loadPart' hl, wpAny_loadPart' hb
    exact h
  | succ k ih =>
    intro i hk h1 h2 prog w A R s h
    obtain ⟨hp, g, d, tk, os⟩ := s
    obtain ⟨hl, hb, h⟩ := h
    wp_walk using wpAny_loadPart' hl, wpAny_loadPart' hb
    have lt1 : i < its.size := by omega
    have e1 : its[((i : Nat) : Int).toNat]? = some its[i] := by simp [lt1]
    rw [e1]
    by_cases lt2 : i < us.size
    · have e2 : us[((i : Nat) : Int).toNat]? = some us[i] := by simp [lt2]
      have l1 : i < ns.length := by omega
      have l2 : i < ms.length := by omega
      obtain ⟨t, ht⟩ := hi.get i ns[i] (List.getElem?_eq_getElem l1)
      obtain ⟨u, hu⟩ := hj.get i ms[i] (List.getElem?_eq_getElem l2)
      have f1 : its[i] = .int ns[i] t := by
        rw [List.getElem?_eq_getElem (by simpa using lt1)] at ht
        exact Option.some.inj ht
      have f2 : us[i] = .int ms[i] u := by
        rw [List.getElem?_eq_getElem (by simpa using lt2)] at hu
        exact Option.some.inj hu
      rw [f1] at e1
      rw [f2] at e2
      rw [f1, e2]
      rw [List.drop_eq_getElem_cons l1, List.drop_eq_getElem_cons l2, lexLt_cons] at h
      have hc : ((i : Int) + 1) = ((i + 1 : Nat) : Int) := by omega
      obtain ⟨e, he, hiff⟩ := eqAt_int A.in1 ⟨hp, g, d, tk, os⟩ ns[i] t ms[i] u
      refine wpAny_bind (he prog w _ _ ?_)
      cases e with
      | true =>
        rw [if_pos (hiff.mp rfl)] at h
        wp_walk
        rw [hc]
        have go := ih (i + 1) (by omega) (by omega) (by omega) prog w A R _ ⟨hl, hb, h⟩
        exact ⟨plainId_quiet plain_eq_loop _, codeAny_builtin entry_eq_loop (by rw [Around.under_plainId plain_eq_loop _]; exact go)⟩
      | false =>
        rw [if_neg fun q => absurd (hiff.mpr q) Bool.false_ne_true] at h
        have hri := rcLt_int A.in1 ⟨hp, g, d, tk, os⟩ ns[i] t ms[i] u prog w
        wp_walk using wpAny_loadPart' hl, wpAny_loadPart' hb
        rw [e1, e2]
        wp_walk using hri
        exact h
    · have e2 : us[((i : Nat) : Int).toNat]? = none := by simp; omega
      rw [e2]
      wp_walk using wpAny_loadPart' hl, wpAny_loadPart' hb
      have e4 : lexLt (ns.drop i) (ms.drop i) = decide (its.size < us.size) := by
        rw [List.drop_eq_nil_of_le (show ms.length ≤ i by omega), List.drop_eq_getElem_cons (show i < ns.length by omega), lexLt_cons_nil]
        exact (decide_eq_false (by omega)).symm
      rw [e4] at h
      exact h
theorem list_ltI (l b : Addr) (its us : Array Value) (n n2 : Nat) (dd dd2 : Option Addr) (sl sl2 : Array (Option Value)) (ns ms : List Int) (hi : IntsAre its.toList ns) (hj : IntsAre us.toList ms) :
    Meets (Builtin.«list.__lt__» ⟨[.ref l, .ref b], []⟩)
      (fun _ R s => s.heap.get? l = some { cls := .type "list", dict := dd, data := .seq its n, slots := sl } ∧ s.heap.get? b = some { cls := .type "list", dict := dd2, data := .seq us n2, slots := sl2 } ∧
        R (.ok (.ret (.bool (lexLt ns ms)))) s) := by
  intro prog w A R s h
  obtain ⟨hp, g, d, tk, os⟩ := s
  obtain ⟨hl, hb, h⟩ := h
  have f3 := AutoSeq1.sub_list_list
  wp_walk using wpAny_loadPart' hl, wpAny_loadPart' hb
  have go := lt_loopI l b its us n n2 dd dd2 sl sl2 ns ms hi hj _ 0 rfl (Nat.zero_le _) (Nat.zero_le _) prog w A R _ ⟨hl, hb, h⟩
  exact ⟨plainId_quiet plain_eq_loop _, codeAny_builtin entry_eq_loop (by rw [Around.under_plainId plain_eq_loop _]; exact go)⟩
end
section
variable {prog : Program} {w : World} {A : Around} {E : Value → Shared → Prop} {s : Shared}
theorem lt_listInts {l b : Addr} {its us : Array Value} {ns ms : List Int} {Q : Value → Shared → Prop} (hl : s.heap.IsList l its) (hb : s.heap.IsList b us) (hi : IntsAre its.toList ns) (hj : IntsAre us.toList ms)
    (hu : A.units < cLine) (h : Q (.bool (lexLt ns ms)) s) : wpAny (model prog w) A (compareOp .Lt (.ref l) (.ref b)) Q E s := by
  obtain ⟨⟨c1, dd, da, sl⟩, ho, hc, n, hd⟩ := id hl
  obtain ⟨⟨c2, dd2, da2, sl2⟩, ho2, hc2, n2, hd2⟩ := id hb
  simp only at hc hd hc2 hd2
  subst hc hd hc2 hd2
  exact richCompare_meets_room (op := .Lt) ⟨_, ho, rfl⟩ ⟨_, ho2, rfl⟩ PySem.F.slot_list_lt PySem.F.entry_list_lt (PySem.F.args_list_lt_2 _ _) (list_ltI l b its us n n2 dd dd2 sl sl2 ns ms hi hj)
    ⟨ho, ho2, show Value.bool (lexLt ns ms) ≠ Value.notImplemented ∧ Q (.bool (lexLt ns ms)) s from ⟨(fun x => nomatch x), h⟩⟩ hu
theorem oneLt_lists {l b : Addr} {its us : Array Value} {ns ms : List Int} {Q : Bool → Shared → Prop} (one : Bool) (hl : s.heap.IsList l its) (hb : s.heap.IsList b us) (hi : IntsAre its.toList ns) (hj : IntsAre us.toList ms)
    (hu : A.units < cLine) (h : Q (lexLt ns ms) s) : wpAny (model prog w) A (oneLt' one (.ref l) (.ref b)) Q E s := by
  cases one with
  | false => exact kat_one _ _ (lt_listInts hl hb hi hj hu h)
  | true =>
    rw [oneLt'_eq]
    simp only [if_true]
    refine wpAny_bind (wpAny_cRoomFor hu ?_)
    obtain ⟨⟨c1, dd, da, sl⟩, ho, hc, n, hd⟩ := id hl
    obtain ⟨⟨c2, dd2, da2, sl2⟩, ho2, hc2, n2, hd2⟩ := id hb
    simp only at hc hd hc2 hd2
    subst hc hd hc2 hd2
    refine wpAny_bind (wpAny_callSpecialIfBound?_slot ⟨_, ho, rfl⟩ PySem.F.slot_list_lt (call_meets PySem.F.slot_list_lt ⟨_, ho, rfl⟩ PySem.F.entry_list_lt (PySem.F.args_list_lt_2 _ _) (list_ltI l b its us n n2 dd dd2 sl sl2 ns ms hi hj) ⟨ho, ho2, ?_⟩))
    exact wpAny_truthy_bool h
end
end L2
set_option Elab.async false
set_option linter.all false
set_option maxRecDepth 100000
set_option maxHeartbeats 4000000
namespace L2
open PySem PySem.Spec PyProof.Rows PySem.W HT
def dIs (r : List Int) : Dt := .lst (r.map Dt.int)
def dPr (p : List Int × List Int) : Dt := .tup [dIs p.1, dIs p.2]
def pLt (a b : List Int × List Int) : Bool := if a.1 = b.1 then (if a.2 = b.2 then false else lexLt a.2 b.2) else lexLt a.1 b.1
theorem deqs_ints : ∀ (a b : List Int), deqs (a.map Dt.int) (b.map Dt.int) = if a.length = b.length then some (decide (a = b)) else deqs (a.map Dt.int) (b.map Dt.int)
  | [], [] => by simp [deqs]
  | [], _ :: _ => by simp
  | _ :: _, [] => by simp
  | x :: a, y :: b => by
    by_cases h : a.length = b.length
    · have ih := deqs_ints a b
      rw [if_pos h] at ih
      simp only [List.map_cons, List.length_cons, h, if_true]
      unfold deqs
      rw [ih]
      simp [deq]
      rfl
    · simp [h]
theorem deq_ints (a b : List Int) : deq (dIs a) (dIs b) = some (decide (a = b)) := by
  show deq (.lst _) (.lst _) = _
  unfold deq
  by_cases h : a.length = b.length
  · have := deqs_ints a b
    rw [if_pos h] at this
    simp [h, this]
  · have : a ≠ b := fun e => h (by rw [e])
    simp [h, this]
section
variable {X : Cx} {pins : List (Addr × Obj)} {σ : St} {H : Hp} {s : Shared}
theorem rep_pr {x : V} {p : List Int × List Int} (h : Rep H x (dPr p)) : ∃ a b c, x = .ref a ∧ H a = some (.tup [.ref b, .ref c]) ∧ H b = some (.lst (p.1.map V.int)) ∧ H c = some (.lst (p.2.map V.int)) ∧ Rep H (.ref b) (dIs p.1) ∧ Rep H (.ref c) (dIs p.2) := by
  obtain ⟨a, xs, e, ha, y, r, e1, hy, z, r', e2, hz, e3⟩ := h
  have isn : ∀ {v : V} {ns : List Int}, Rep H v (dIs ns) → ∃ q, v = .ref q ∧ H q = some (.lst (ns.map V.int)) := fun {v ns} hv => by
    obtain ⟨q, us, e, hq, hr⟩ := hv
    have go : ∀ {us : List V} {ns : List Int}, Reps H us (ns.map Dt.int) → us = ns.map V.int := fun {us ns} => by
      induction ns generalizing us with
      | nil => exact fun h => h
      | cons n ns ih =>
        rintro ⟨x, r, e, hx, hr⟩
        cases hx
        rw [e, ih hr]
        rfl
    rw [go hr] at hq
    exact ⟨q, e, hq⟩
  obtain ⟨b, rfl, hb⟩ := isn hy
  obtain ⟨c, rfl, hc⟩ := isn hz
  subst e1 e2 e3
  exact ⟨a, b, c, e, ha, hb, hc, hy, hz⟩
theorem tups_of (I : Inv X pins σ H s) : ∀ {ds : List (List Int × List Int)} {ys : List V} {its : List Value}, Reps H ys (ds.map dPr) → Vals ys its →
    ∃ fs, KatTups s.heap its fs ∧ fs.length = its.length ∧ ∀ v ∈ fs, Looks (model X.prog X.w) s.heap (typeOf v) (Value.type "list")
  | [], ys, its, h, r => by
    have e : ys = [] := h
    subst e
    cases r
    exact ⟨[], .nil, rfl, fun v hv => nomatch hv⟩
  | d :: ds, ys, its, ⟨x, r', e, hx, hr⟩, r => by
    subst e
    cases r with
    | cons r1 r2 =>
      obtain ⟨fs, t, hl, hf⟩ := tups_of I hr r2
      obtain ⟨a, b, c, rfl, ha, hb, hc, _, _⟩ := rep_pr hx
      cases r1
      obtain ⟨zs, rz, ⟨ob, ho, hcl, n, hd⟩, _⟩ := I.tuple (.inl (.inl ha))
      obtain ⟨u, w', rfl, ru, rw'⟩ := vals2 rz
      cases ru
      obtain ⟨us, rus, ⟨o2, n2, ho2, hc2, _, _⟩, _⟩ := I.list (.inl (.inl hb))
      refine ⟨.ref b :: fs, .cons ho hcl hd rfl t, by simp [hl], fun v hv => ?_⟩
      rcases List.mem_cons.mp hv with rfl | hv
      · have z : Looks (model X.prog X.w) s.heap (typeOf (.ref b)) o2.cls := (Looks.ld ho2).andThen .now
        rw [hc2] at z
        exact z
      · exact hf v hv
def rSortP : List V → Hp → VK → Prop := fun vs H Q => ∃ (p : Addr) (ys : List V) (ds : List (List Int × List Int)) (pm : Array Nat), vs = [.ref p] ∧ H p = some (.lst ys) ∧ Reps H ys (ds.map dPr) ∧ 2 ≤ ds.length ∧ ds.length < 64 ∧
  runT (fun i j => pLt (ds.getD i ([], [])) (ds.getD j ([], []))) ds.length (kas_sort ds.length) = some pm ∧ pm.size ≤ 1000 ∧ ∀ l, H l = none → Q (.ref l) (upd H l (.lst (pm.toList.map fun i => ys.getD i .non)))
end
theorem call_sortP {X : Cx} (hu : X.A.units + 64 < cLine) : CallR X (.builtin "sorted") rSortP := by
  intro pins s σ H xs us Q I r h
  obtain ⟨p, ys, ds, pm, rfl, hp, reps, h2, h64, run, hz, q⟩ := h
  obtain ⟨u, rfl, e⟩ := vals1 r
  cases e
  have hl : ys.length = ds.length := by rw [reps.length, List.length_map]
  refine sorted_by (lt := fun i j => pLt (ds.getD i ([], [])) (ds.getD j ([], []))) (κ := tuples' true) (pm := pm) I (.inl (.inl hp)) (by omega) (by omega) ?kind ?less (by rw [hl]; exact run) hz q
  case kind =>
    intro its s' rv I' C hC
    obtain ⟨fs, t, hf, lk⟩ := tups_of I' reps rv
    have := rv.length
    exact kat_kind t (by omega) lk (by decide) hC
  case less =>
    intro its s' i j rv I' hi hj C hC
    have pick : ∀ i, i < ys.length → ∃ a b c, its.getD i Value.none = .ref a ∧ H a = some (.tup [.ref b, .ref c]) ∧ H b = some (.lst ((ds.getD i ([], [])).1.map V.int)) ∧ H c = some (.lst ((ds.getD i ([], [])).2.map V.int)) ∧ Rep H (.ref b) (dIs (ds.getD i ([], [])).1) ∧ Rep H (.ref c) (dIs (ds.getD i ([], [])).2) := fun i hi => by
      obtain ⟨d, hd, hr⟩ := reps.of_get (i := i) (x := ys[i]) (List.getElem?_eq_getElem hi)
      rw [List.getElem?_map, List.getElem?_eq_getElem (by omega)] at hd
      have e : ds.getD i ([], []) = ds[i]'(by omega) := by rw [List.getD_eq_getElem?_getD, List.getElem?_eq_getElem (by omega)]; rfl
      rw [← Option.some.inj hd] at hr
      obtain ⟨a, b, c, ea, ha, hb, hc, h1, h2⟩ := rep_pr hr
      obtain ⟨u, hu', ru⟩ := rv.get (i := i) (x := ys[i]) (List.getElem?_eq_getElem hi)
      rw [ea] at ru
      cases ru
      rw [e]
      exact ⟨a, b, c, by rw [List.getD_eq_getElem?_getD, hu']; rfl, ha, hb, hc, h1, h2⟩
    obtain ⟨a, b, c, ea, ha, hb, hc, rb, rc⟩ := pick i hi
    obtain ⟨a', b', c', ea', ha', hb', hc', rb', rc'⟩ := pick j hj
    rw [ea, ea']
    generalize ds.getD i ([], []) = P at *
    generalize ds.getD j ([], []) = Q' at *
    obtain ⟨zs, rz, ⟨ob, ho, hcl, n, hd⟩, _⟩ := I'.tuple (.inl (.inl ha))
    obtain ⟨_, _, rfl, ru, rw'⟩ := vals2 rz
    cases ru
    cases rw'
    obtain ⟨zs', rz', ⟨ob', ho', hcl', n', hd'⟩, _⟩ := I'.tuple (.inl (.inl ha'))
    obtain ⟨_, _, rfl, ru', rw''⟩ := vals2 rz'
    cases ru'
    cases rw''
    obtain ⟨l1, v1, p1, _⟩ := I'.list (.inl (.inl hb))
    obtain ⟨l2, v2, p2, _⟩ := I'.list (.inl (.inl hc))
    obtain ⟨m1, w1, q1, _⟩ := I'.list (.inl (.inl hb'))
    obtain ⟨m2, w2, q2, _⟩ := I'.list (.inl (.inl hc'))
    have z0 : ∀ l : List Int, deps (l.map Dt.int) = 0 := fun l => by
      induction l with
      | nil => rfl
      | cons x l ih => show max 0 (deps (l.map Dt.int)) = 0; omega
    have d1 : dep (dIs P.1) ≤ 1 := Nat.succ_le_succ (Nat.le_of_eq (z0 P.1))
    have d2 : dep (dIs P.2) ≤ 1 := Nat.succ_le_succ (Nat.le_of_eq (z0 P.2))
    have u2 : X.A.in1.in1.units + 1 < cLine := by rw [PySem.Around.in1_units, PySem.Around.in1_units]; omega
    refine kat_lt ho hd ho' hd' ?_
    refine kat_cons (eqAt_D I' (dIs P.1) (dIs Q'.1) rb rb' rfl rfl (deq_ints _ _) (by omega) _ _ _ _ ?_)
    by_cases e1 : P.1 = Q'.1
    · rw [decide_eq_true e1]
      refine kat_yes (kat_cons (eqAt_D I' (dIs P.2) (dIs Q'.2) rc rc' rfl rfl (deq_ints _ _) (by omega) _ _ _ _ ?_))
      by_cases e2 : P.2 = Q'.2
      · rw [decide_eq_true e2]
        refine kat_yes (kat_nil ?_)
        have : pLt P Q' = false := by unfold pLt; rw [if_pos e1, if_pos e2]
        rw [this] at hC
        exact hC
      · rw [decide_eq_false e2]
        refine kat_no (oneLt_lists _ p2.isList q2.isList (intsAre_of v2) (intsAre_of w2) (by omega) ?_)
        have : pLt P Q' = lexLt P.2 Q'.2 := by unfold pLt; rw [if_pos e1, if_neg e2]
        rw [this] at hC
        exact hC
    · rw [decide_eq_false e1]
      refine kat_no (oneLt_lists _ p1.isList q1.isList (intsAre_of v1) (intsAre_of w1) (by omega) ?_)
      have : pLt P Q' = lexLt P.1 Q'.1 := by unfold pLt; rw [if_neg e1]
      rw [this] at hC
      exact hC
end L2
set_option Elab.async false
set_option linter.all false
set_option maxRecDepth 100000
set_option maxHeartbeats 4000000
namespace L2
open PySem PyProof.Rows PySem.W
theorem runT_bind {α β : Type} {lt : Nat → Nat → Bool} {N : Nat} {f : α → KasT β} : ∀ (t : KasT α) {a : α}, runT lt N t = some a → runT lt N (t.bind f) = runT lt N (f a)
  | .ret b, a, e => by cases e; rfl
  | .ask i j k, a, e => by
    unfold runT at e
    show (if i < N ∧ j < N then runT lt N ((k (lt i j)).bind f) else none) = _
    split at e
    · rename_i h
      rw [if_pos h]
      exact runT_bind (k (lt i j)) e
    · cases e
section
variable {lt : Nat → Nat → Bool} {N : Nat}
def Pm (N : Nat) (p : Array Nat) : Prop := p.Perm (List.toArray (List.range N))
theorem Pm.below {p : Array Nat} (h : Pm N p) (h0 : 0 < N) (i : Nat) : p.getD i 0 < N := by
  by_cases hi : i < p.size
  · have e : p.getD i 0 = p[i] := by simp [Array.getD, hi]
    have m : p[i] ∈ (List.range N) := by
      have : p[i] ∈ p.toList := by simp
      exact (Array.perm_iff_toList_perm.mp h).mem_iff.mp this
    rw [e]
    exact List.mem_range.mp m
  · have e : p.getD i 0 = 0 := by simp [Array.getD, hi]
    rw [e]
    exact h0
theorem run_asc {p : Array Nat} (h : Pm N p) (h0 : 0 < N) : ∀ (f n : Nat), ∃ m, runT lt N (kas_asc p f n) = some m
  | 0, n => ⟨n, rfl⟩
  | f + 1, n => by
    unfold kas_asc runT
    rw [if_pos ⟨h.below h0 _, h.below h0 _⟩]
    cases lt (p.getD n 0) (p.getD (n - 1) 0) with
    | true => exact ⟨n, rfl⟩
    | false => exact run_asc h h0 f (n + 1)
theorem Pm.rev {p : Array Nat} (h : Pm N p) (i j : Nat) : Pm N (kas_rev p i j) := (mirror_perm _ _ _ _).trans h
theorem run_desc (h0 : 0 < N) : ∀ (f : Nat) (p : Array Nat) (n q : Nat), Pm N p → ∃ r, runT lt N (kas_desc f p n q) = some r ∧ Pm N r.1
  | 0, p, n, q, h => ⟨_, rfl, h⟩
  | f + 1, p, n, q, h => by
    unfold kas_desc runT
    rw [if_pos ⟨h.below h0 _, h.below h0 _⟩]
    cases lt (p.getD n 0) (p.getD (n - 1) 0) with
    | true =>
      simp only [if_true]
      split
      · exact run_desc h0 f _ _ _ (h.rev _ _)
      · exact run_desc h0 f _ _ _ h
    | false =>
      simp only [Bool.false_eq_true, if_false]
      unfold runT
      rw [if_pos ⟨h.below h0 _, h.below h0 _⟩]
      cases lt (p.getD (n - 1) 0) (p.getD n 0) with
      | true => exact ⟨_, rfl, h⟩
      | false => exact run_desc h0 f _ _ _ h
theorem run_tail3 (h0 : 0 < N) {n r : Nat} {p : Array Nat} (h : Pm N p) : ∃ z, runT lt N (kas_tail3 n r p) = some z ∧ Pm N z.2 := by
  obtain ⟨m, hm⟩ := run_asc (lt := lt) (h.rev 0 n) h0 (r - n) n
  unfold kas_tail3
  exact ⟨_, (runT_bind _ hm).trans rfl, h.rev 0 n⟩
theorem run_descPart (h0 : 0 < N) {n r : Nat} {p : Array Nat} (h : Pm N p) : ∃ z, runT lt N (kas_descPart n r p) = some z ∧ Pm N z.2 := by
  obtain ⟨d, hd, hp⟩ := run_desc (lt := lt) h0 (r - (n + 1)) p (n + 1) 0 h
  unfold kas_descPart
  rw [runT_bind _ hd]
  split
  · exact run_tail3 h0 (hp.rev _ _)
  · exact run_tail3 h0 hp
theorem run_count (h0 : 0 < N) {r : Nat} {p : Array Nat} (h : Pm N p) : ∃ z, runT lt N (kas_count r p) = some z ∧ Pm N z.2 := by
  obtain ⟨m, hm⟩ := run_asc (lt := lt) h h0 (r - 1) 1
  unfold kas_count
  rw [runT_bind _ hm]
  split
  · exact ⟨_, rfl, h⟩
  · split
    · unfold runT
      rw [if_pos ⟨h.below h0 _, h.below h0 _⟩]
      cases lt (p.getD 0 0) (p.getD (m - 1) 0) with
      | true => exact ⟨_, rfl, h⟩
      | false => exact run_descPart h0 (h.rev _ _)
    · exact run_descPart h0 h
theorem run_place (h0 : 0 < N) {p : Array Nat} (h : Pm N p) (k : Nat) : ∀ (f l r : Nat), ∃ m, runT lt N (kas_place p k f l r) = some m
  | 0, l, r => ⟨l, rfl⟩
  | f + 1, l, r => by
    unfold kas_place
    split
    · exact ⟨l, rfl⟩
    · unfold runT
      rw [if_pos ⟨h.below h0 _, h.below h0 _⟩]
      cases lt (p.getD k 0) (p.getD ((l + r) / 2) 0) with
      | true => exact run_place h0 h k f l _
      | false => exact run_place h0 h k f _ r
theorem run_bin (h0 : 0 < N) : ∀ (f : Nat) (p : Array Nat) (k : Nat), Pm N p → ∃ z, runT lt N (kas_bin f p k) = some z ∧ Pm N z
  | 0, p, k, h => ⟨p, rfl, h⟩
  | f + 1, p, k, h => by
    obtain ⟨l, hl⟩ := run_place (lt := lt) h0 h k k 0 k
    unfold kas_bin
    rw [runT_bind _ hl]
    exact run_bin h0 f _ _ ((bubble_perm _ _ _).trans h)
theorem run_sort (h0 : 0 < N) : ∃ z, runT lt N (kas_sort N) = some z ∧ Pm N z := by
  obtain ⟨r, hr, hp⟩ := run_count (lt := lt) h0 (r := N) (p := List.toArray (List.range N)) (Array.Perm.refl _)
  unfold kas_sort
  rw [runT_bind _ hr]
  split
  · exact run_bin h0 _ _ _ hp
  · exact ⟨_, rfl, hp⟩
end
end L2
set_option Elab.async false
set_option linter.all false
set_option maxRecDepth 100000
set_option maxHeartbeats 4000000
namespace L2
open PySem PySem.Spec PyProof.Rows PySem.W
theorem comp_fltD {J : It} {g : TG} {tt : TT} {te : TE} {σ : St} {H : Hp} {Q : VK} (n : Nat) (B : Hp) (Pσ : St → Prop) (bs : Nat → Bool) (val : Nat → Dt) (hB : Same B H) (h0 : Pσ σ) (hz : n ≤ 1000) (hgo : ∀ i H', i < n → Same H H' → J.go i H') (hst : ∀ H', Same H H' → J.stop n H')
    (hs : ∀ D i x σ' H' H'', H D = none → (∃ o, H' D = some o) → Same H H' → i < n → J.yld i H' x H'' → Pσ σ' → ∀ (Y : St → V → Hp → Prop) (R : St → Hp → Prop), (bs i = true → ∀ σ2 v H3, Pσ σ2 → Same H' H3 → Rep (cutH B D H3) v (val i) → Y σ2 v H3) → (bs i = false → ∀ σ2 H3, Pσ σ2 → Same H' H3 → R σ2 H3) →
      g x σ' H'' fun σ2 H2 => tt σ2 H2 fun b H3 => if b = true then te σ2 H3 fun v H4 => Y σ2 v H4 else R σ2 H3)
    (hd : ∀ D H', H D = none → Same H H' → Rep (newH B H') (.ref D) (.lst (((List.range n).filter bs).map val)) → Q (.ref D) H') : CompGo J g tt te σ H Q := by
  intro D hD
  have hBD : B D = none := hB.free hD
  refine ⟨fun i m σ' H' => m = n - i ∧ i ≤ n ∧ Pσ σ' ∧ Same H H' ∧ ∃ ys, H' D = some (.lst ys) ∧ Reps (cutH B D H') ys (((List.range i).filter bs).map val), ⟨n, by simp, Nat.zero_le _, h0, Same.new hD, [], upd_same, rfl⟩, ?_⟩
  rintro i m σ' H' ⟨rfl, hi, hp, hs', ys, hys, hr⟩
  have hl : ys.length ≤ i := by
    rw [hr.length, List.length_map]
    have := List.length_filter_le bs (List.range i)
    rw [List.length_range] at this
    exact this
  by_cases hlt : i < n
  · refine .inr ⟨hgo i H' hlt hs', fun σ2 H2 => Pσ σ2 ∧ Same H H2 ∧ ∃ ys, H2 D = some (.lst ys) ∧ Reps (cutH B D H2) ys (((List.range (i + 1)).filter bs).map val), fun σ2 H2 ⟨a, b, c⟩ => ⟨n - (i + 1), by omega, rfl, hlt, a, b, c⟩, fun x H'' hy => ?_⟩
    refine hs D i x σ' H' H'' hD ⟨_, hys⟩ hs' hlt hy hp _ _ (fun hb σ2 v H3 hp2 s3 hv => ?_) fun hb σ2 H3 hp2 s3 => ?_
    · refine ⟨ys, s3 _ _ hys, small1000 (by omega), hp2, (hs'.trans s3).upd hD, ys ++ [v], upd_same, ?_⟩
      rw [cutH_upd, List.range_succ, List.filter_append, List.map_append]
      have e : ([i].filter bs).map val = [val i] := by simp [hb]
      rw [e]
      exact (Reps.mono (cutH_mono s3) _ hr).append ⟨v, [], rfl, hv, rfl⟩
    · refine ⟨hp2, hs'.trans s3, ys, s3 _ _ hys, ?_⟩
      rw [List.range_succ, List.filter_append, List.map_append]
      have e : ([i].filter bs).map val = [] := by simp [hb]
      rw [e, List.append_nil]
      exact Reps.mono (cutH_mono s3) _ hr
  · have e : i = n := by omega
    subst e
    refine .inl ⟨hst H' hs', hd D H' hD hs' ⟨D, ys, rfl, ?_, Reps.mono cutH_new _ hr⟩⟩
    rw [newH_at hBD]
    exact hys
def rMinL : List V → Hp → VK → Prop := fun vs H Q => ∃ (p : Addr) (ns : List Int), vs = [.ref p] ∧ H p = some (.lst (ns.map V.int)) ∧ 0 < ns.length ∧ ∀ z, z ∈ ns → (∀ x ∈ ns, z ≤ x) → Q (.int z) H
theorem Inv.frm {X : Cx} {pins : List (Addr × Obj)} {σ : St} {H : Hp} {s : Shared} (I : Inv X pins σ H s) : ∃ m, s.heap.Ns X.env.locals m ∧ Fr X.base X.env.locals s.heap m := by
  obtain ⟨m, hn, _⟩ := id I.loc
  exact ⟨m, hn, hn, I.bk, Nat.le_trans I.ok.bsz I.ok.above⟩
theorem Inv.led_new {X : Cx} {pins : List (Addr × Obj)} {σ : St} {H : Hp} {s : Shared} {t' : Nat} {m : Str → Option Value} {h' : Heap} {D : Addr} {o : HO} {ob : Obj} (I : Inv X pins σ H s) (hn : s.heap.Ns X.env.locals m) (F : Fr X.base X.env.locals h' m)
    (N : News X.base X.env.locals h' ((D, ob) :: allNews X.base s.heap X.env.locals)) (lt1 : ∀ q ∈ allNews X.base s.heap X.env.locals, q.1 < D) (new : ObjOk X.prog X.w (upd H D o) h' D o) : H D = none ∧ Inv X pins σ (upd H D o) { s with heap := h', toks := t' } := by
  have ND := N (D, ob) List.mem_cons_self
  have fr : ∀ b o, s.heap.get? b = some o → b ≠ D := fun b o e w => by
    subst w
    exact absurd (lt1 (b, o) (mem_allNews ND.2.1 ND.2.2 e)) (Nat.lt_irrefl _)
  have HD : H D = none := by
    cases w : H D with
    | none => rfl
    | some u =>
      obtain ⟨o', g⟩ := ob_is (I.hok D u w)
      exact absurd rfl (fr D o' g)
  refine ⟨HD, I.led hn F (fun z hz' => N z (List.mem_cons_of_mem _ hz')) (fun b o' e n => by rw [upd_ne (fr b o' e)]; exact n) (fun b o' e => by rw [upd_ne (ne_of_none e HD)]; exact e) (fun b o' e n => ?_)⟩
  by_cases hb : b = D
  · subst hb
    rw [upd_same] at e
    cases e
    exact new
  · rw [upd_ne hb, n] at e
    cases e
theorem call_minL {X : Cx} (hc : X.calm = true) : CallR X (.builtin "min") rMinL := by
  intro pins s σ H xs us Q I r h
  obtain ⟨p, ns, rfl, hp, h0, q⟩ := h
  obtain ⟨u, rfl, e⟩ := vals1 r
  cases e
  obtain ⟨its, rv, pl, _⟩ := I.list (.inl (.inl hp))
  obtain ⟨m, hn, F0⟩ := I.frm
  refine kso_min F0 news_all pl.isList (intsAre_of rv) h0 (I.ok.hd hc) fun h' M t tk F N hM hle => ?_
  exact ⟨.int M, H, I.led (t' := tk) hn F N (fun _ _ _ n => n) (fun _ _ w => w) (fun b o w n => by rw [w] at n; cases n), ⟨t, rfl⟩, q M hM hle⟩
def rSortI : List V → Hp → VK → Prop := fun vs H Q => ∃ (p : Addr) (ns : List Int), vs = [.ref p] ∧ H p = some (.lst (ns.map V.int)) ∧ ns.length < 64 ∧ ∀ (l : Addr) (zs : List Int), H l = none → zs.Perm ns → zs.Pairwise (· ≤ ·) → Q (.ref l) (upd H l (.lst (zs.map V.int)))
theorem vals_of_ints : ∀ {us : List Value} {ns : List Int}, IntsAre us ns → Vals (ns.map V.int) us
  | _, _, .nil => .nil
  | _, _, .cons n t h => .cons ⟨t, rfl⟩ (vals_of_ints h)
theorem call_sortI {X : Cx} : CallR X (.builtin "sorted") rSortI := by
  intro pins s σ H xs us Q I r h
  obtain ⟨p, ns, rfl, hp, h64, q⟩ := h
  obtain ⟨u, rfl, e⟩ := vals1 r
  cases e
  obtain ⟨its, rv, pl, _⟩ := I.list (.inl (.inl hp))
  obtain ⟨m, hn, F0⟩ := I.frm
  refine kso_sorted F0 news_all pl.isList (intsAre_of rv) h64 fun D vs' zs c h' F N lt1 hz hlz hpm hpw _ => ?_
  have hD := (N (D, _) List.mem_cons_self).1
  obtain ⟨HD, I2⟩ := I.led_new (t' := s.toks) (o := .lst (zs.map V.int)) hn F N lt1 ⟨Nat.le_of_lt (small1000 (by rw [List.length_map]; omega)), vs', c, vals_of_ints hz, hD⟩
  exact ⟨.ref D, _, I2, rfl, q D zs HD hpm hpw⟩
end L2
set_option Elab.async false
set_option linter.all false
set_option maxRecDepth 100000
set_option maxHeartbeats 4000000
namespace L2
open PySem PySem.Spec PyProof.Rows PySem.W
section
variable {prog : Program} {w : World} {A : Around} {E : Value → Shared → Prop} {s : Shared}
theorem sort1 {a : Addr} {v : Value} {n : Nat} {P : PySem.Fin → Shared → Prop} (ho : s.heap.get? a = some (seqObj "list" #[v] n))
    (h : ∀ h' c, (∀ b o, b ≠ a → s.heap.get? b = some o → h'.get? b = some o) → h'.get? a = some (seqObj "list" #[v] c) → P (.done (.ret .none)) { s with heap := h' }) : wpAny (model prog w) A (Builtin.«list.sort» ⟨[.ref a], []⟩) P E s := by
  have s1 := Heap.SameBut.update s.heap a (Obj.mapSeq fun _ => (#[] : Array Value))
  obtain ⟨e1, o1⟩ : ∃ e1, (s.heap.update a (Obj.mapSeq fun _ => (#[] : Array Value))).get? a = some (seqObj "list" #[] e1) := ⟨_, get?_update_seq ho fun _ => #[]⟩
  rw [list_sort_plain]
  refine wpAny_bind (listItems_at ho rfl (wpAny_bind (listUpdate_at ho rfl (wpAny_bind (seqEpoch_at o1 rfl (wpAny_bind (wpAny_newTuple (wpAny_bind (wpAny_newList (wpAny_holding ?_) (Nat.zero_le _))) ?_)))) ?_ (Nat.zero_le _))))
  · dsimp only
    have lt2 : (#[v] : Array Value).size < 2 := by show 1 < 2; decide
    rw [if_pos lt2]
    refine wpAny_bind (wpAny_pure ?_)
    rw [if_pos lt2]
    have k3 : ∀ b o, (s.heap.update a (Obj.mapSeq fun _ => (#[] : Array Value))).get? b = some o → (((s.heap.update a (Obj.mapSeq fun _ => (#[] : Array Value))).push (seqObj "tuple" #[v] 0)).push (seqObj "list" #[] 0)).get? b = some o := fun b o e => Heap.get?_push_of_some _ (Heap.get?_push_of_some _ e)
    have o3 := k3 _ _ o1
    have st : failedOf (SortSt.mk' general' ((#[v] : Array Value).zip #[v]) #[] 7 none) = none := rfl
    have ar : (arrOf (SortSt.mk' general' ((#[v] : Array Value).zip #[v]) #[] 7 none)).map (fun x => x.snd) = #[v] := by
      rw [show arrOf (SortSt.mk' general' ((#[v] : Array Value).zip #[v]) #[] 7 none) = (#[v] : Array Value).zip #[v] from rfl]
      simp
    refine wpAny_bind (wpAny_pure (a := ((), SortSt.mk' general' ((#[v] : Array Value).zip #[v]) #[] 7 none)) ?_)
    refine wpAny_bind (seqEpoch_at o3 rfl (wpAny_bind (listUpdate_at o3 rfl ?_ (Nat.zero_le _) ?_)))
    · dsimp only
      rw [ar, if_neg (by simp)]
      obtain ⟨c2, o4⟩ : ∃ c2, ((((s.heap.update a (Obj.mapSeq fun _ => (#[] : Array Value))).push (seqObj "tuple" #[v] 0)).push (seqObj "list" #[] 0)).update a (Obj.mapSeq fun _ => (#[v] : Array Value))).get? a = some (seqObj "list" #[v] c2) := ⟨_, get?_update_seq o3 fun _ => #[v]⟩
      refine wpAny_pure (h _ c2 (fun b o hb e => ?_) o4)
      rw [Heap.get?_update_other _ _ (Ne.symm hb)]
      refine k3 b o ?_
      rw [Heap.get?_update_other _ _ (Ne.symm hb)]
      exact e
    · rw [ar]
      exact (show 1 ≤ sizeLine + 1 from Nat.le_add_left 1 _)
  · exact (show 1 ≤ sizeLine from Nat.le_of_lt (small1000 (by decide)))
  · exact (show 1 ≤ sizeLine from Nat.le_of_lt (small1000 (by decide)))
theorem sorted1 {l : Addr} {v : Value} {Q : Value → Shared → Prop} (hl : s.heap.IsList l #[v])
    (h : ∀ D h' c, s.heap.objs.size ≤ D → (∀ b o, s.heap.get? b = some o → h'.get? b = some o) → h'.get? D = some (seqObj "list" #[v] c) → Q (.ref D) { s with heap := h' }) : wpAny (model prog w) A (call (.builtin "sorted") [.ref l]) Q E s := by
  refine Calls.call_function_entry kind_sorted plain_sorted entry_sorted (args_sorted1 _) ?_
  unfold Builtin.«sorted»
  have z1 : (#[v] : Array Value).size ≤ sizeLine := (show 1 ≤ sizeLine from Nat.le_of_lt (small1000 (by decide)))
  refine wpAny_bind (m := checkCount "sorted" 1 1 _) (wpAny_pure (wpAny_bind (collect_list hl (wpAny_bind (wpAny_newList ?_ z1)) z1)))
  have hz : ((s.heap.push (seqObj "list" #[] 0)).update s.heap.objs.size (Obj.mapSeq fun x => x ++ #[v])).objs.size = s.heap.objs.size + 1 := by rw [Heap.size_update, size_push']
  have kp : ∀ b o, s.heap.get? b = some o → (((s.heap.push (seqObj "list" #[] 0)).update s.heap.objs.size (Obj.mapSeq fun x => x ++ #[v])).push (seqObj "list" #[v] 0)).get? b = some o := fun b o q => by
    have hlt := Heap.lt_size q
    refine Heap.get?_push_of_some _ ?_
    rw [Heap.get?_update_other _ _ (Nat.ne_of_gt hlt)]
    exact Heap.get?_push_of_some _ q
  have ho := Heap.get?_push_size ((s.heap.push (seqObj "list" #[] 0)).update s.heap.objs.size (Obj.mapSeq fun x => x ++ #[v])) (o := seqObj "list" #[v] 0) rfl
  refine wpAny_bind (wpAny_holding (wpAny_call_entry slot_list_sort ⟨_, ho, rfl⟩ entry_list_sort (sort1 (n := 0) ho fun h' c k2 hD => ⟨_, rfl, wpAny_pure ⟨_, rfl, h _ h' c ?_ (fun b o e => k2 b o ?_ (kp b o e)) hD⟩⟩) (args_list_sort _)))
  · show s.heap.objs.size ≤ ((s.heap.push (seqObj "list" #[] 0)).update s.heap.objs.size (Obj.mapSeq fun x => x ++ #[v])).objs.size
    rw [hz]
    exact Nat.le_succ _
  · have := Heap.lt_size e
    show b ≠ ((s.heap.push (seqObj "list" #[] 0)).update s.heap.objs.size (Obj.mapSeq fun x => x ++ #[v])).objs.size
    rw [hz]
    exact Nat.ne_of_lt (Nat.lt_succ_of_lt this)
end
def rSort1 : List V → Hp → VK → Prop := fun vs H Q => ∃ (p : Addr) (y : V), vs = [.ref p] ∧ H p = some (.lst [y]) ∧ ∀ l, H l = none → Q (.ref l) (upd H l (.lst [y]))
theorem call_sort1 {X : Cx} : CallR X (.builtin "sorted") rSort1 := by
  intro pins s σ H xs us Q I r h
  obtain ⟨p, y, rfl, hp, q⟩ := h
  obtain ⟨u, rfl, e⟩ := vals1 r
  cases e
  obtain ⟨its, rv, pl, _⟩ := I.list (.inl (.inl hp))
  obtain ⟨v, rfl, ry⟩ := vals1 rv
  refine sorted1 pl.isList fun D h' c hD kp ho => ?_
  exact ⟨.ref D, _, I.laid (t' := s.toks) kp hD (show ObjOk X.prog X.w _ h' _ (.lst [y]) from ⟨(show 1 ≤ sizeLine from Nat.le_of_lt (small1000 (by decide))), [v], c, rv, ho⟩), rfl, q _ (I.hok.fresh hD)⟩
end L2
set_option Elab.async false
set_option linter.all false
set_option maxRecDepth 100000
set_option maxHeartbeats 4000000
namespace L2
open PySem PySem.Spec PyProof.Rows PySem.W
theorem lri_nolen : typeLookup (.type "list_reverseiterator") "__len__" = pure none := by
  rw [typeLookup_type, builtinLookup_eq_fast]; kernel_rfl
theorem lri_hint : typeLookup (.type "list_reverseiterator") "__length_hint__" = pure (some (.builtin "list_reverseiterator.__length_hint__")) := by
  rw [typeLookup_type, builtinLookup_eq_fast]; kernel_rfl
section
variable {prog : Program} {w : World} {A : Around} {E : Value → Shared → Prop} {s : Shared}
abbrev lstObj (acc : Array Value) (c : Nat) : Obj := { cls := .type "list", dict := none, data := .seq acc c, slots := #[] }
theorem list_of_rev {it l : Addr} {items : Array Value} {Q : Value → Shared → Prop} (hh : A.handled = none) (hit : s.heap.IsRevIter it l ((items.size : Int) - 1)) (hl : s.heap.IsList l items) (hne : l ≠ it) (hz : items.size ≤ sizeLine)
    (hQ : ∀ h' tk acc c, (∀ b o, b ≠ it → s.heap.get? b = some o → h'.get? b = some o) → h'.get? s.heap.objs.size = some (lstObj acc c) → ItemsOf (fun i v => items[items.size - 1 - i]? = some v) acc items.size → Q (.ref s.heap.objs.size) { s with heap := h', toks := tk }) :
    wpAny (model prog w) A (call (.type "list") [.ref it]) Q E s := by
  obtain ⟨oi, hoi, _⟩ := id hit
  obtain ⟨ol, hol, _⟩ := id hl
  have itl := Heap.lt_size hoi
  have ll := Heap.lt_size hol
  refine callType_codes (Q₁ := fun obj s₁ => obj = .ref s.heap.objs.size ∧ s₁ = { s with heap := s.heap.push (lstObj #[] 0) }) F.called_list (F.typeCall_list_1 _) F.entry_list_init (code_list_new _ ⟨rfl, rfl⟩) fun obj s₁ h₁ => ?_
  obtain ⟨rfl, rfl⟩ := h₁
  have hS : (s.heap.push (lstObj #[] 0)).get? s.heap.objs.size = some (lstObj #[] 0) := Heap.get?_push_size _ rfl
  have k1 : ∀ b o, s.heap.get? b = some o → (s.heap.push (lstObj #[] 0)).get? b = some o := fun b o e => Heap.get?_push_of_some _ e
  have nS : ∀ b o, s.heap.get? b = some o → b ≠ s.heap.objs.size := fun b o e => Nat.ne_of_lt (Heap.lt_size e)
  refine ⟨⟨_, hS, rfl⟩, F.args_list_init_2 _ _, ?_⟩
  show wpAny _ _ (do let old ← Builtin.List.listItems (.ref s.heap.objs.size); Builtin.List.listUpdate (.ref s.heap.objs.size) (fun _ => #[]); letGo old.toList.reverse; Builtin.List.listExtendWith (.ref s.heap.objs.size) (.ref it) .none) _ _ _
  refine wpAny_bind (listItems_at hS rfl (wpAny_bind (listUpdate_at hS rfl (wpAny_bind (wpAny_letGo ?_)) (Nat.zero_le _) (Nat.zero_le _))))
  have k2 : ∀ b o, s.heap.get? b = some o → ((s.heap.push (lstObj #[] 0)).update s.heap.objs.size (Obj.mapSeq fun _ => (#[] : Array Value))).get? b = some o := fun b o e => by
    rw [Heap.get?_update_other _ _ (nS b o e).symm]
    exact k1 b o e
  obtain ⟨c0, hS2⟩ : ∃ c0, ((s.heap.push (lstObj #[] 0)).update s.heap.objs.size (Obj.mapSeq fun _ => (#[] : Array Value))).get? s.heap.objs.size = some (lstObj #[] c0) := ⟨_, get?_update_seq hS fun _ => #[]⟩
  show wpAny _ _ _ _ _ { s with heap := (s.heap.push (lstObj #[] 0)).update s.heap.objs.size (Obj.mapSeq fun _ => (#[] : Array Value)) }
  generalize (s.heap.push (lstObj #[] 0)).update s.heap.objs.size (Obj.mapSeq fun _ => (#[] : Array Value)) = h2 at *
  have hit2 : h2.IsRevIter it l ((items.size : Int) - 1) := hit.at fun o e => k2 _ _ e
  have hl2 : h2.IsList l items := hl.at fun o e => k2 _ _ e
  have ty : Shared.TypeIs { s with heap := h2 } (.ref it) "list_reverseiterator" := Heap.IsRevIter.typeIs (s := { s with heap := h2 }) hit2
  have W := (Walks.listRev (prog := prog) (w := w) (A := A.in1.in1) hh it l hne items).toS
  have nf : s.heap.objs.size ∉ [it, l] := fun hm => by
    rcases List.mem_cons.mp hm with e | hm
    · exact absurd itl (by rw [← e]; exact Nat.lt_irrefl _)
    · exact absurd ll (by rw [← List.mem_singleton.mp hm]; exact Nat.lt_irrefl _)
  have ne1 : Builtin.List.listSameRef (.ref s.heap.objs.size) (.ref it) = false := by
    have : s.heap.objs.size ≠ it := fun e => nf (by rw [e]; exact List.mem_cons_self)
    simp [Builtin.List.listSameRef, this]
  unfold Builtin.List.listExtendWith
  refine wpAny_bind (wpAny_typeOf ty ?_)
  rw [if_neg (by rw [ne1]; decide)]
  refine wpAny_bind (wpAny_pyIter_revIter (s := { s with heap := h2 }) hit2 (wpAny_bind (wpAny_holding ?_)))
  unfold Builtin.List.listLengthHint
  refine wpAny_bind (wpAny_specialOf ty lri_nolen ?_)
  show wpAny _ _ (specialOf (Value.ref it) (Str.ofString "__length_hint__") >>= _) _ _ _
  refine wpAny_bind (wpAny_specialOf ty lri_hint ?_)
  generalize hid : ("list_reverseiterator.__length_hint__" : String) = id0
  wp_delta
  rw [show splitId id0 = some ("list_reverseiterator", "__length_hint__") from by subst hid; decide +kernel]
  subst hid
  refine wpAny_bind (wpAny_isInstance (b := true) ty (by rw [isSubtype_type]; kernel_rfl) (wpAny_pure ?_))
  rw [if_neg (by decide)]
  have st0 : (0 : Nat) ≤ items.size ∧ h2.IsRevIter it l ((items.size : Int) - 1 - ((0 : Nat) : Int)) ∧ h2.IsList l items := ⟨Nat.zero_le _, by rw [show (items.size : Int) - 1 - ((0 : Nat) : Int) = (items.size : Int) - 1 by omega]; exact hit2, hl2⟩
  refine wpAny_pure ⟨plainId_quiet F.plain_extend_loop _, codeAny_extend_loopS (s := { s with heap := h2 }) W hz s.heap.objs.size nf .none items.size 0 #[] c0 rfl (Nat.zero_le _) st0 hS2 (ItemsOf.nil _) fun s' acc c hm hS' hacc => ?_⟩
  rw [Moved.eq_with hm]
  refine ⟨rfl, hQ s'.heap s'.toks acc c (fun b o hb e => hm.heap b o (fun hmem => ?_) (k2 b o e)) hS' hacc⟩
  rcases List.mem_cons.mp hmem with e' | hmem
  · exact nS b o e e'
  · exact hb (List.mem_singleton.mp hmem)
end
theorem bt_reversed : bootBuiltins "reversed" = some (.type "reversed") := by decide +kernel
def tLRev (ta : TA) : TE := fun σ H Q => ta σ H fun vs H1 => ∃ a xs, vs = [.ref a] ∧ H1 a = some (.lst xs) ∧ ∀ p, H1 p = none → Q (.ref p) (upd H1 p (.lst xs.reverse))
theorem pe_listReversed {X : Cx} {a : Expr} {ta : TA} {p p' pos pos' : Pos} (hc : X.calm = true) (hg : Gl X "list") (hm : X.mg "list" = none) (hg' : Gl X "reversed") (hm' : X.mg "reversed" = none) (ha : PA X [a] ta) (hs : plainArgs [a] = true := by rfl) :
    PE X (.Call (.Name "list" p) [.Call (.Name "reversed" p') [a] [] pos'] [] pos) (tLRev ta) := by
  have h' : notStar a = true := by simpa [plainArgs] using hs
  intro pins s σ H Q I h
  refine wpAny_Call_Name_kw (ld_blt I hg hm bt_list ?_ (by decide) (by decide))
  refine PyProof.Rows.callWith_type1 ?_ (starEach_plain rfl) rfl
  rw [starEach_plain (e := .Call (.Name "reversed" p') [a] [] pos') (es := []) rfl]
  show wpAny _ _ (spliced ((false, eval (.Call (.Name "reversed" p') [a] [] pos') X.env) :: backTo pos (starEach [] X.env))) _ _ s
  refine Calls.spliced_cons ?_
  refine Call_ (ld_blt I hg' hm' bt_reversed (PyProof.Rows.callWith_type1 (thn (ha pos' pins s σ H _ I h) fun us s1 ⟨vs, H1, I1, r1, q1⟩ => ?_) (starEach_plain h') rfl))
  obtain ⟨b, xs, rfl, hb, q⟩ := q1
  obtain ⟨u, rfl, e⟩ := vals1 r1
  cases e
  obtain ⟨its, rv, pl, hz⟩ := I1.list (.inl (.inl hb))
  have hlen := rv.length
  refine call_reversed_list pl.isList (Calls.spliced_nil ?_)
  obtain ⟨ob, hob, _⟩ := id pl.isList
  have bl := Heap.lt_size hob
  have e1 : ((its.toArray.size : Nat) : Int) - 1 = ((its.toArray.size : Nat) : Int) - 1 := rfl
  have hit : (s1.heap.push (revObj b ((its.toArray.size : Int) - 1))).IsRevIter s1.heap.objs.size b ((its.toArray.size : Int) - 1) := ⟨_, Heap.get?_push_size _ rfl, rfl, rfl⟩
  refine list_of_rev (s := { s1 with heap := s1.heap.push (revObj b ((its.toArray.size : Int) - 1)) }) (I1.ok.hd hc) hit (pl.isList.at fun o e => Heap.get?_push_of_some _ e) (Nat.ne_of_lt bl) (by rw [List.size_toArray]; omega) fun h2 tk acc c kp hS hacc => ?_
  have k1 : ∀ b o, s1.heap.get? b = some o → h2.get? b = some o := fun b o e => kp b o (Nat.ne_of_lt (Heap.lt_size e)) (Heap.get?_push_of_some _ e)
  have sz : s1.heap.objs.size ≤ (s1.heap.push (revObj b ((its.toArray.size : Int) - 1))).objs.size := by rw [size_push']; exact Nat.le_succ _
  refine ⟨.ref _, _, I1.laid (t' := tk) k1 sz (show ObjOk X.prog X.w _ h2 _ (.lst xs.reverse) from ⟨by rw [List.length_reverse]; exact hz, acc.toList, c, vals_get ?_ ?_, by simpa using hS⟩), rfl, q _ (I1.hok.fresh sz)⟩
  · have z : acc.size = its.length := by
      have := hacc.1
      simpa using this
    have z2 : acc.toList.length = acc.size := Array.length_toList
    rw [List.length_reverse]
    omega
  · intro j x u hx hu
    have hj : j < xs.length := by
      have := (List.getElem?_eq_some_iff.mp hx).1
      simpa using this
    rw [List.getElem?_reverse hj] at hx
    have z := hacc.2 j u (by simpa using hu)
    obtain ⟨u', hu', ru⟩ := rv.get hx
    have z' : its[its.length - 1 - j]? = some u := by simpa using z
    rw [← hlen, hu'] at z'
    cases z'
    exact ru
end L2
set_option Elab.async false
set_option linter.all false
set_option maxRecDepth 100000
set_option maxHeartbeats 4000000
namespace Rim46
open PySem PySem.Spec PyProof.Rows L2
theorem plainT_int : plainT "int" = True := eq_true (.inl rfl)
theorem plainT_bool : plainT "bool" = True := eq_true (.inr (.inl rfl))
theorem plainT_tuple : plainT "tuple" = True := eq_true (.inr (.inr (.inl rfl)))
theorem plainT_list : plainT "list" = True := eq_true (.inr (.inr (.inr (.inl rfl))))
theorem plainT_str : plainT "str" = True := eq_true (.inr (.inr (.inr (.inr rfl))))
local macro_rules | `(tactic| walk_at "rd") => `(tactic| first | (dsimp only [tSeq, tAsg, gName, tTup, tLst, tCons, tNil, tVar, tC, tCB, tOp, rI, rI0, tTest, tIfS, tNext, tRet, tRetN, tDrop, tB, tAnd, tOr, tNot, tAndV, tOrV, tNotV, rU, tUn, tBM0, tBM, rBits, tCall, L2.start, rIxTH, rIxLH, rLenH, rEqTH, rEq, rNe, CMul, CMulB, CDivB, CDivF, CPow, List.map_cons, List.map_nil, List.length_cons, List.length_nil, List.replicate, List.cons_append, List.nil_append, List.set_cons_zero, List.set_cons_succ, List.getElem?_cons_zero, List.getElem?_cons_succ, gSub, rSetL, rCat, iRng1, tPar, iList, tComp, pick, tYes, iZip, gTup, gCons, gNil, rSum, rListH, List.map, iRng2, iRngD, tSl, rSlH, tPart, tNoPart, tPar3, tIf, tRev, tLRange, rIxT, rPopAt, tLRev, rExtend, rClear, rSortP, rSort1, rSortI, rMinL, rIn, tTest]; try simp only [tSeq, tAsg, gName, tTup, tLst, tCons, tNil, tVar, tC, tCB, tOp, rI, rI0, tTest, tIfS, tNext, tRet, tRetN, tDrop, tB, tAnd, tOr, tNot, tAndV, tOrV, tNotV, rU, tUn, tBM0, tBM, rBits, tCall, L2.start, rIxTH, rIxLH, rLenH, rEqTH, rEq, rNe, scal, tyV, CMul, CMulB, CDivB, CDivF, CPow, List.map_cons, List.map_nil, List.length_cons, List.length_nil, List.replicate, List.cons_append, List.nil_append, List.append_nil, List.set_cons_zero, List.set_cons_succ, List.getElem?_cons_zero, List.getElem?_cons_succ, Option.some.injEq, List.cons.injEq, V.int.injEq, V.bl.injEq, V.str.injEq, V.ref.injEq, V.ty.injEq, HO.tup.injEq, HO.lst.injEq, exists_eq_left, exists_eq_left', exists_and_left, and_assoc, and_true, true_and, upd_same, atI_0, atI_1, atI_2, Nat.zero_add, Nat.reduceAdd, Nat.reduceSub, decide_eq_true_eq, Bool.not_eq_true', decide_eq_false_iff_not, reduceCtorEq, false_or, or_false, true_or, or_true, plainT_int, plainT_bool, plainT_tuple, plainT_list, plainT_str, Bool.false_eq_true, if_false, if_true, Bool.not_false, Bool.not_true, Bool.not_not, gSub, rSetL, ixN_00, upd_upd, rCat, iRng1, tFor_eq, tPar, iList, tComp, pick, tYes, iZip, gTup, gCons, gNil, rSum, rListH, List.map, Option.bind, iRng2, iRngD, tSl, rSlH, tPart, tNoPart, tPar3, tIf, tRev, tLRange, rIxT, rPopAt, tLRev, rExtend, rClear, rSortP, rSort1, rSortI, rMinL, rIn, tTest]) | simp only [tSeq, tAsg, gName, tTup, tLst, tCons, tNil, tVar, tC, tCB, tOp, rI, rI0, tTest, tIfS, tNext, tRet, tRetN, tDrop, tB, tAnd, tOr, tNot, tAndV, tOrV, tNotV, rU, tUn, tBM0, tBM, rBits, tCall, L2.start, rIxTH, rIxLH, rLenH, rEqTH, rEq, rNe, scal, tyV, CMul, CMulB, CDivB, CDivF, CPow, List.map_cons, List.map_nil, List.length_cons, List.length_nil, List.replicate, List.cons_append, List.nil_append, List.append_nil, List.set_cons_zero, List.set_cons_succ, List.getElem?_cons_zero, List.getElem?_cons_succ, Option.some.injEq, List.cons.injEq, V.int.injEq, V.bl.injEq, V.str.injEq, V.ref.injEq, V.ty.injEq, HO.tup.injEq, HO.lst.injEq, exists_eq_left, exists_eq_left', exists_and_left, and_assoc, and_true, true_and, upd_same, atI_0, atI_1, atI_2, Nat.zero_add, Nat.reduceAdd, Nat.reduceSub, decide_eq_true_eq, Bool.not_eq_true', decide_eq_false_iff_not, reduceCtorEq, false_or, or_false, true_or, or_true, plainT_int, plainT_bool, plainT_tuple, plainT_list, plainT_str, Bool.false_eq_true, if_false, if_true, Bool.not_false, Bool.not_true, Bool.not_not, gSub, rSetL, ixN_00, upd_upd, rCat, iRng1, tFor_eq, tPar, iList, tComp, pick, tYes, iZip, gTup, gCons, gNil, rSum, rListH, List.map, Option.bind, iRng2, iRngD, tSl, rSlH, tPart, tNoPart, tPar3, tIf, tRev, tLRange, rIxT, rPopAt, tLRev, rExtend, rClear, rSortP, rSort1, rSortI, rMinL, rIn, tTest])
structure Txt (K : PySem.W.Frag) (mg : Str → Option Value) : Prop where
  n_len : mg "len" = none
  n_isinstance : mg "isinstance" = none
  n_int : mg "int" = none
  n_bool : mg "bool" = none
  n_tuple : mg "tuple" = none
  n_range : mg "range" = none
  n_list : mg "list" = none
  n_min : mg "min" = none
  n_sorted : mg "sorted" = none
  n_reversed : mg "reversed" = none
variable {P : Program} {w : World} {K : PySem.W.Frag} {mg : Str → Option Value} {base : Heap}
def risesP (count : Nat) (ls : List (List Int)) (x : Int) : List (List Int) := ls ++ (ls.filter fun c => decide (c.length < count)).map fun c => c ++ [x]
def risingP (xs : List Int) (count : Nat) : List (List Int) := (xs.foldl (risesP count) [[]]).filter fun c => decide (c.length = count)
theorem filt_range {α β : Type} (d : α) (f : α → Bool) (g : α → β) (ls : List α) : ((List.range ls.length).filter fun i => f (ls.getD i d)).map (fun i => g (ls.getD i d)) = (ls.filter f).map g := by
  have e : ls = (List.range ls.length).map fun i => ls.getD i d := by
    apply List.ext_getElem
    · simp
    · intro i h1 h2
      simp [h1]
  conv => rhs; rw [e, List.filter_map, List.map_map]
  rfl
theorem reps_isn {H : Hp} : ∀ {us : List V} {ns : List Int}, Reps H us (ns.map Dt.int) → us = ns.map V.int
  | us, [], h => h
  | us, n :: ns, ⟨x, r, e, hx, hr⟩ => by
    cases hx
    rw [e, reps_isn hr]
    rfl
theorem reps_of_isn {H : Hp} : ∀ (ns : List Int), Reps H (ns.map V.int) (ns.map Dt.int)
  | [] => rfl
  | n :: ns => ⟨_, _, rfl, rfl, reps_of_isn ns⟩
theorem rep_isn {H : Hp} {v : V} {r : List Int} (h : Rep H v (dIs r)) : ∃ p, v = .ref p ∧ H p = some (.lst (r.map V.int)) := by
  obtain ⟨p, xs, e, hp, hxs⟩ := h
  rw [reps_isn hxs] at hp
  exact ⟨p, e, hp⟩
theorem rep_of_isn {H : Hp} {p : Addr} {r : List Int} (h : H p = some (.lst (r.map V.int))) : Rep H (.ref p) (dIs r) := ⟨p, _, rfl, h, reps_of_isn r⟩
theorem rep_at {H : Hp} {xs : List V} {ls : List (List Int)} {i : Nat} {x : V} (h : Reps H xs (ls.map dIs)) (e : xs[i]? = some x) : ∃ q, x = .ref q ∧ H q = some (.lst ((ls.getD i []).map V.int)) ∧ i < ls.length := by
  obtain ⟨d, hd, hr⟩ := h.of_get e
  have hi : i < ls.length := by
    have := (List.getElem?_eq_some_iff.mp e).1
    have := h.length
    rw [List.length_map] at this
    omega
  rw [List.getElem?_map, List.getElem?_eq_getElem hi] at hd
  rw [← Option.some.inj hd] at hr
  obtain ⟨q, e1, e2⟩ := rep_isn hr
  exact ⟨q, e1, by rw [List.getD_eq_getElem?_getD, List.getElem?_eq_getElem hi]; exact e2, hi⟩
theorem big_line {n : Nat} (h : n ≤ 100000) : n ≤ sizeLine := by
  have : sizeLine = 16777216 := sizeLine_eq
  omega
abbrev s_rising_lists : Stmt := PySem.Challenge.pw_rimread_k46_facing_runs.main.body.getD 1 (.Pass ⟨0, 0, 0, 0⟩)
theorem sc_rising_lists : FnScope ["numbers", "count", "lists", "number"] ["numbers", "count"] (defScope s_rising_lists) := ⟨rfl, rfl, rfl, by decide +kernel, rfl, by decide +kernel, by decide +kernel⟩
theorem lk_rising_lists_0 : (defScope s_rising_lists).names.lookup ("numbers" : Str) = some PySem.NameKind.local := by decide +kernel
theorem lk_rising_lists_2 : (defScope s_rising_lists).names.lookup ("lists" : Str) = some PySem.NameKind.local := by decide +kernel
theorem lk_rising_lists_3 : (defScope s_rising_lists).names.lookup ("number" : Str) = some PySem.NameKind.cell := by decide +kernel
def sp_rise : Sp := fun vs H Q _ => ∃ (v : V) (ns : List Int) (count : Nat), vs = [v, .int count] ∧ Rep H v (dIs ns) ∧ ns.length ≤ 6 ∧ ∀ D H', Same H H' → H D = none → Rep H' (.ref D) (.lst ((risingP ns count).map dIs)) → Q (.ref D) H'
theorem ok_rising_lists (T : Txt K mg) (F : Fn0 K mg "rising_lists" s_rising_lists) : Cal P w K mg base "rising_lists" ["numbers", "count"] 1 sp_rise := by
  refine cal_of F sc_rising_lists (fun _ _ _ _ _ _ us hl => match us, hl with | [_, _], _ => rfl) ?len ?body
  case len => rintro vs H Q E ⟨a, b, c, rfl, _⟩; rfl
  case body =>
    intro f cdv A outer s H vs Q E hr h
    obtain ⟨v, ns, count, rfl, hv, h6, k⟩ := h
    obtain ⟨p, rfl, hp⟩ := rep_isn hv
    refine' ⟨_, ?D, ?R⟩
    case D =>
      refine' pss_cons ?g1 ?g2
      case g1 =>
        refine' ps_set1 (i := 2) sc_rising_lists.nd rfl lk_rising_lists_2 ?g3
        case g3 =>
          refine' pe_lst ?g4
          case g4 =>
            refine' pa_c ?g5 ?g6
            case g5 =>
              refine' pe_lst ?g7
              case g7 => exact pa_nil
            case g6 => exact pa_nil
      case g2 =>
        refine' pss_cons ?g8 ?g9
        case g8 =>
          refine' ps_for PassesOwn.never rfl ?g10 ?g11 ?g12
          case g10 =>
            refine' pi_listK (K := K) rfl ?g13
            case g13 => exact pv1 0 rfl lk_rising_lists_0
          case g11 => exact pg_namec (i := 3) sc_rising_lists.nd rfl lk_rising_lists_3 rfl
          case g12 =>
            refine' pss_one ?g14
            case g14 =>
              refine' ps_set1 (i := 2) sc_rising_lists.nd rfl lk_rising_lists_2 ?g15
              case g15 =>
                refine' pe_op op_cat ?g16 ?g17
                case g16 => exact pv1 2 rfl lk_rising_lists_2
                case g17 =>
                  refine' pe_comp (N' := ["chosen", "count", "number"]) (ix := [none, some 1, some 3]) rfl rfl (scp_of ?g18) ?g19 (fun _ _ _ => ?g20) (fun _ _ _ => ?g21) (fun _ _ _ => ?g22)
                  case g18 => exact (by show scpB (defScope s_rising_lists) ["numbers", "count", "lists", "number"] _ _ _ = true; decide +kernel)
                  case g19 =>
                    refine' pi_listK (K := K) rfl ?g23
                    case g23 => exact pv1 2 rfl lk_rising_lists_2
                  case g20 => exact pg_name1 (i := 0) (by show List.Nodup (["chosen", "count", "number"] : List Str); decide +kernel) rfl rfl
                  case g21 =>
                    refine' pf_one ?g24
                    case g24 =>
                      refine' pt_cmpR op_lt ?g25 ?g26 (nomark _)
                      case g25 =>
                        refine' pe_callE call_lenH rfl T.n_len bt_len ?g27
                        case g27 =>
                          refine' pa_c ?g28 ?g29
                          case g28 => exact pv1 0 rfl rfl
                          case g29 => exact pa_nil
                      case g26 => exact pvc 1 rfl rfl
                  case g22 =>
                    refine' pe_op op_cat ?g30 ?g31
                    case g30 => exact pv1 0 rfl rfl
                    case g31 =>
                      refine' pe_lst ?g32
                      case g32 =>
                        refine' pa_c ?g33 ?g34
                        case g33 => exact pvc 2 rfl rfl
                        case g34 => exact pa_nil
        case g9 =>
          refine' pss_one ?g35
          case g35 =>
            refine' ps_ret ?g36
            case g36 =>
              refine' pe_comp (N' := ["chosen", "count"]) (ix := [none, some 1]) rfl rfl (scp_of ?g37) ?g38 (fun _ _ _ => ?g39) (fun _ _ _ => ?g40) (fun _ _ _ => ?g41)
              case g37 => exact (by show scpB (defScope s_rising_lists) ["numbers", "count", "lists", "number"] _ _ _ = true; decide +kernel)
              case g38 =>
                refine' pi_listK (K := K) rfl ?g42
                case g42 => exact pv1 2 rfl lk_rising_lists_2
              case g39 => exact pg_name1 (i := 0) (by show List.Nodup (["chosen", "count"] : List Str); decide +kernel) rfl rfl
              case g40 =>
                refine' pf_one ?g43
                case g43 =>
                  refine' pt_cmpR op_eq ?g44 ?g45 (nomark _)
                  case g44 =>
                    refine' pe_callE call_lenH rfl T.n_len bt_len ?g46
                    case g46 =>
                      refine' pa_c ?g47 ?g48
                      case g47 => exact pv1 0 rfl rfl
                      case g48 => exact pa_nil
                  case g45 => exact pvc 1 rfl rfl
              case g41 => exact pv1 0 rfl rfl
    case R =>
      walk_at "rd"
      refine ⟨by decide, fun a na => ⟨by decide, fun b nb => ?_⟩⟩
      have S0 : Same H (upd (upd H a (HO.lst [])) b (HO.lst [V.ref a])) := (Same.new na).trans (Same.new nb)
      have R0 : Rep (upd (upd H a (HO.lst [])) b (HO.lst [V.ref a])) (.ref b) (.lst ([[]].map dIs)) := ⟨b, _, rfl, upd_same, _, _, rfl, ⟨a, [], rfl, (Same.new nb) _ _ upd_same, rfl⟩, rfl⟩
      generalize upd (upd H a (HO.lst [])) b (HO.lst [V.ref a]) = H0 at *
      refine ⟨⟨_, .inl (.inl (S0 _ _ hp))⟩, ?_⟩
      refine go_list (xs := ns.map V.int) (fun i σ H' => ∃ (l : Addr) (e : Option V), σ = [some (.ref p), some (.int count), some (.ref l), e] ∧ Same H H' ∧ Rep H' (.ref l) (.lst (((ns.take i).foldl (risesP count) [[]]).map dIs)) ∧ ((ns.take i).foldl (risesP count) [[]]).length ≤ 2 ^ i ∧ ∀ c ∈ (ns.take i).foldl (risesP count) [[]], c.length ≤ i) ⟨b, none, rfl, S0, R0, by simp, by simp⟩ ?_ ?_ ?_
      · rintro i σ H' hi ⟨l, e, rfl, s1, _⟩
        exact .inl (.inl (s1 _ _ hp))
      · rintro i x σ H' hx ⟨l, e, rfl, s1, rep, hl, hc⟩
        have hi : i < ns.length := by
          have := (List.getElem?_eq_some_iff.mp hx).1
          simpa using this
        rw [List.getElem?_map, List.getElem?_eq_getElem hi] at hx
        cases hx
        have eN : (ns.take (i + 1)).foldl (risesP count) [[]] = risesP count ((ns.take i).foldl (risesP count) [[]]) ns[i] := by
          rw [List.take_succ, List.getElem?_eq_getElem hi, List.foldl_append]
          rfl
        rw [eN]
        have pw : 2 ^ i ≤ 64 := by
          calc 2 ^ i ≤ 2 ^ 6 := Nat.pow_le_pow_right (by decide) (by omega)
            _ = 64 := by decide
        generalize (ns.take i).foldl (risesP count) [[]] = ls at *
        generalize ns[i] = n at *
        obtain ⟨_, xs, e0, hl0, hxs⟩ := id rep
        cases e0
        have hxl : xs.length = ls.length := by rw [hxs.length, List.length_map]
        walk_at "rd"
        refine ⟨⟨_, .inl (.inl hl0)⟩, ?_⟩
        refine comp_fltD (n := ls.length) (B := fun _ => none) (Pσ := fun σ => ∃ e, σ = [e, some (.int count), some (.int n)]) (bs := fun i => decide ((ls.getD i []).length < count)) (val := fun i => dIs (ls.getD i [] ++ [n])) (fun b o e => by cases e) ⟨_, rfl⟩ (by omega) (fun j H2 hj s2 => ⟨xs, xs[j]'(by omega), .inl (.inl (s2 _ _ hl0)), by rw [List.getElem?_eq_getElem (by omega)]⟩) (fun H2 s2 => ⟨xs, .inl (.inl (s2 _ _ hl0)), by omega⟩) ?_ ?_
        · rintro D j y σ' H2 H2' hD ⟨od, hDo⟩ hs2 hj ⟨rfl, hy⟩ ⟨e2, rfl⟩ Y R kY kR
          have hx2 := hy xs (.inl (.inl (hs2 _ _ hl0)))
          obtain ⟨q, rfl, hq, _⟩ := rep_at hxs hx2
          have hq2 := hs2 _ _ hq
          have cl : (ls.getD j []).length ≤ 6 := by
            have := hc (ls.getD j []) (by rw [List.getD_eq_getElem?_getD, List.getElem?_eq_getElem hj]; exact List.getElem_mem _)
            omega
          walk_at "rd"
          refine ⟨_, .inl hq2, ?_⟩
          rw [List.length_map]
          refine ite2 (fun hlt => ?_) (fun hlt => ?_)
          · refine ⟨by decide, fun p1 n1 => ⟨_, (Same.new n1) _ _ hq2, big_line (by rw [List.length_map]; show (ls.getD j []).length + 1 ≤ 100000; omega), fun p2 n2 => kY (decide_eq_true (by omega)) _ _ _ ⟨_, rfl⟩ ((Same.new n1).trans (Same.new n2)) (rep_of_isn ?_)⟩⟩
            have p2D : p2 ≠ D := (ne_of_none ((Same.new n1 (o := HO.lst [V.int n])) _ _ hDo) n2).symm
            rw [cutH_at p2D rfl, upd_same, List.map_append]
            rfl
          · exact kR (decide_eq_false (by omega)) _ _ ⟨_, rfl⟩ (Same.refl _)
        · intro D H2 hD s2 rep2
          have fr := filt_range [] (fun c : List Int => decide (c.length < count)) (fun c => dIs (c ++ [n])) ls
          rw [fr] at rep2
          obtain ⟨_, ys, e3, hD2, hys⟩ := id rep2
          cases e3
          have yl : ys.length ≤ ls.length := by
            rw [hys.length, List.length_map]
            exact List.length_filter_le _ _
          refine ⟨D, rfl, xs, s2 _ _ hl0, ys, hD2, big_line (by omega), fun p5 n5 => ⟨(s1.trans s2).trans (Same.new n5), ⟨p5, _, rfl, upd_same, ?_⟩, ?_, fun c hcc => ?_⟩⟩
          · unfold risesP
            rw [List.map_append, List.map_map]
            exact Reps.append (Reps.mono (s2.trans (Same.new n5)) _ hxs) (Reps.mono (Same.new n5) _ hys)
          · unfold risesP
            rw [List.length_append, List.length_map, Nat.pow_succ]
            have := List.length_filter_le (fun c : List Int => decide (c.length < count)) ls
            omega
          · rcases List.mem_append.mp hcc with h | h
            · have := hc c h
              omega
            · obtain ⟨c', hc', rfl⟩ := List.mem_map.mp h
              have := hc c' (List.mem_filter.mp hc').1
              simp
              omega
      · rintro σ H' ⟨l, e, rfl, s1, rep, hl, hc⟩
        have tk : ns.take (ns.map V.int).length = ns := List.take_of_length_le (by simp)
        rw [tk] at rep hl hc
        have pw : 2 ^ (ns.map V.int).length ≤ 64 := by
          rw [List.length_map]
          calc 2 ^ ns.length ≤ 2 ^ 6 := Nat.pow_le_pow_right (by decide) (by omega)
            _ = 64 := by decide
        have kk := k
        unfold risingP at kk
        generalize ns.foldl (risesP count) [[]] = ls at *
        obtain ⟨_, xs, e0, hl0, hxs⟩ := id rep
        cases e0
        have hxl : xs.length = ls.length := by rw [hxs.length, List.length_map]
        walk_at "rd"
        refine ⟨⟨_, .inl (.inl hl0)⟩, ?_⟩
        refine comp_fltD (n := ls.length) (B := fun _ => none) (Pσ := fun σ => ∃ e, σ = [e, some (.int count)]) (bs := fun i => decide ((ls.getD i []).length = count)) (val := fun i => dIs (ls.getD i [])) (fun b o e => by cases e) ⟨_, rfl⟩ (by omega) (fun j H2 hj s2 => ⟨xs, xs[j]'(by omega), .inl (.inl (s2 _ _ hl0)), by rw [List.getElem?_eq_getElem (by omega)]⟩) (fun H2 s2 => ⟨xs, .inl (.inl (s2 _ _ hl0)), by omega⟩) ?_ ?_
        · rintro D j y σ' H2 H2' hD ⟨od, hDo⟩ hs2 hj ⟨rfl, hy⟩ ⟨e2, rfl⟩ Y R kY kR
          have hx2 := hy xs (.inl (.inl (hs2 _ _ hl0)))
          obtain ⟨q, rfl, hq, _⟩ := rep_at hxs hx2
          have hq2 := hs2 _ _ hq
          walk_at "rd"
          refine ⟨_, .inl hq2, ?_⟩
          rw [List.length_map]
          refine ite2 (fun hlt => ?_) (fun hlt => ?_)
          · exact kY (decide_eq_true (by omega)) _ _ _ ⟨_, rfl⟩ (Same.refl _) (rep_of_isn (by rw [cutH_at (ne_of_none hq hD) rfl]; exact hq2))
          · exact kR (decide_eq_false (by omega)) _ _ ⟨_, rfl⟩ (Same.refl _)
        · intro D H2 hD s2 rep2
          have fr := filt_range [] (fun c : List Int => decide (c.length = count)) dIs ls
          rw [fr] at rep2
          exact kk D H2 (s1.trans s2) (s1.free hD) rep2
end Rim46
set_option Elab.async false
set_option linter.all false
set_option maxRecDepth 100000
set_option maxHeartbeats 4000000
namespace Rim46
open PySem PySem.Spec PyProof.Rows L2
local macro_rules | `(tactic| walk_at "rd") => `(tactic| first | (dsimp only [tSeq, tAsg, gName, tTup, tLst, tCons, tNil, tVar, tC, tCB, tOp, rI, rI0, tTest, tIfS, tNext, tRet, tRetN, tDrop, tB, tAnd, tOr, tNot, tAndV, tOrV, tNotV, rU, tUn, tBM0, tBM, rBits, tCall, L2.start, rIxTH, rIxLH, rLenH, rEqTH, rEq, rNe, CMul, CMulB, CDivB, CDivF, CPow, List.map_cons, List.map_nil, List.length_cons, List.length_nil, List.replicate, List.cons_append, List.nil_append, List.set_cons_zero, List.set_cons_succ, List.getElem?_cons_zero, List.getElem?_cons_succ, gSub, rSetL, rCat, iRng1, tPar, iList, tComp, pick, tYes, iZip, gTup, gCons, gNil, rSum, rListH, List.map, iRng2, iRngD, tSl, rSlH, tPart, tNoPart, tPar3, tIf, tRev, tLRange, rIxT, rPopAt, tLRev, rExtend, rClear, rSortP, rSort1, rSortI, rMinL, rIn, tTest]; try simp only [tSeq, tAsg, gName, tTup, tLst, tCons, tNil, tVar, tC, tCB, tOp, rI, rI0, tTest, tIfS, tNext, tRet, tRetN, tDrop, tB, tAnd, tOr, tNot, tAndV, tOrV, tNotV, rU, tUn, tBM0, tBM, rBits, tCall, L2.start, rIxTH, rIxLH, rLenH, rEqTH, rEq, rNe, scal, tyV, CMul, CMulB, CDivB, CDivF, CPow, List.map_cons, List.map_nil, List.length_cons, List.length_nil, List.replicate, List.cons_append, List.nil_append, List.append_nil, List.set_cons_zero, List.set_cons_succ, List.getElem?_cons_zero, List.getElem?_cons_succ, Option.some.injEq, List.cons.injEq, V.int.injEq, V.bl.injEq, V.str.injEq, V.ref.injEq, V.ty.injEq, HO.tup.injEq, HO.lst.injEq, exists_eq_left, exists_eq_left', exists_and_left, and_assoc, and_true, true_and, upd_same, atI_0, atI_1, atI_2, Nat.zero_add, Nat.reduceAdd, Nat.reduceSub, decide_eq_true_eq, Bool.not_eq_true', decide_eq_false_iff_not, reduceCtorEq, false_or, or_false, true_or, or_true, plainT_int, plainT_bool, plainT_tuple, plainT_list, plainT_str, Bool.false_eq_true, if_false, if_true, Bool.not_false, Bool.not_true, Bool.not_not, gSub, rSetL, ixN_00, upd_upd, rCat, iRng1, tFor_eq, tPar, iList, tComp, pick, tYes, iZip, gTup, gCons, gNil, rSum, rListH, List.map, Option.bind, iRng2, iRngD, tSl, rSlH, tPart, tNoPart, tPar3, tIf, tRev, tLRange, rIxT, rPopAt, tLRev, rExtend, rClear, rSortP, rSort1, rSortI, rMinL, rIn, tTest]) | simp only [tSeq, tAsg, gName, tTup, tLst, tCons, tNil, tVar, tC, tCB, tOp, rI, rI0, tTest, tIfS, tNext, tRet, tRetN, tDrop, tB, tAnd, tOr, tNot, tAndV, tOrV, tNotV, rU, tUn, tBM0, tBM, rBits, tCall, L2.start, rIxTH, rIxLH, rLenH, rEqTH, rEq, rNe, scal, tyV, CMul, CMulB, CDivB, CDivF, CPow, List.map_cons, List.map_nil, List.length_cons, List.length_nil, List.replicate, List.cons_append, List.nil_append, List.append_nil, List.set_cons_zero, List.set_cons_succ, List.getElem?_cons_zero, List.getElem?_cons_succ, Option.some.injEq, List.cons.injEq, V.int.injEq, V.bl.injEq, V.str.injEq, V.ref.injEq, V.ty.injEq, HO.tup.injEq, HO.lst.injEq, exists_eq_left, exists_eq_left', exists_and_left, and_assoc, and_true, true_and, upd_same, atI_0, atI_1, atI_2, Nat.zero_add, Nat.reduceAdd, Nat.reduceSub, decide_eq_true_eq, Bool.not_eq_true', decide_eq_false_iff_not, reduceCtorEq, false_or, or_false, true_or, or_true, plainT_int, plainT_bool, plainT_tuple, plainT_list, plainT_str, Bool.false_eq_true, if_false, if_true, Bool.not_false, Bool.not_true, Bool.not_not, gSub, rSetL, ixN_00, upd_upd, rCat, iRng1, tFor_eq, tPar, iList, tComp, pick, tYes, iZip, gTup, gCons, gNil, rSum, rListH, List.map, Option.bind, iRng2, iRngD, tSl, rSlH, tPart, tNoPart, tPar3, tIf, tRev, tLRange, rIxT, rPopAt, tLRev, rExtend, rClear, rSortP, rSort1, rSortI, rMinL, rIn, tTest])
variable {P : Program} {w : World} {K : PySem.W.Frag} {mg : Str → Option Value} {base : Heap}
def aroundP (xs : List Int) (t : Nat) : List Int := xs.drop ((xs.length - t) % xs.length) ++ xs.take ((xs.length - t) % xs.length)
def aheadP1 (xs : List Int) (t : Nat) : List Int × List Int := ((aroundP xs t).take (xs.length / 2), ((aroundP xs t).drop (xs.length / 2)).reverse)
def aheadP (xs : List Int) : List (List Int × List Int) := (List.range (xs.length / 2)).map (aheadP1 xs)
abbrev s_runs_with_least_ahead : Stmt := PySem.Challenge.pw_rimread_k46_facing_runs.main.body.getD 2 (.Pass ⟨0, 0, 0, 0⟩)
theorem sc_runs_with_least_ahead : FnScope ["numbers", "count", "runs", "turn", "start", "around"] ["numbers"] (defScope s_runs_with_least_ahead) := ⟨rfl, rfl, rfl, by decide +kernel, rfl, by decide +kernel, by decide +kernel⟩
theorem lk_runs_with_least_ahead_0 : (defScope s_runs_with_least_ahead).names.lookup ("numbers" : Str) = some PySem.NameKind.local := by decide +kernel
theorem lk_runs_with_least_ahead_1 : (defScope s_runs_with_least_ahead).names.lookup ("count" : Str) = some PySem.NameKind.local := by decide +kernel
theorem lk_runs_with_least_ahead_2 : (defScope s_runs_with_least_ahead).names.lookup ("runs" : Str) = some PySem.NameKind.local := by decide +kernel
theorem lk_runs_with_least_ahead_3 : (defScope s_runs_with_least_ahead).names.lookup ("turn" : Str) = some PySem.NameKind.local := by decide +kernel
theorem lk_runs_with_least_ahead_4 : (defScope s_runs_with_least_ahead).names.lookup ("start" : Str) = some PySem.NameKind.local := by decide +kernel
theorem lk_runs_with_least_ahead_5 : (defScope s_runs_with_least_ahead).names.lookup ("around" : Str) = some PySem.NameKind.local := by decide +kernel
theorem gk_runs_with_least_ahead_len : (defScope s_runs_with_least_ahead).names.lookup ("len" : Str) = some PySem.NameKind.globalImplicit := by decide +kernel
theorem gk_runs_with_least_ahead_list : (defScope s_runs_with_least_ahead).names.lookup ("list" : Str) = some PySem.NameKind.globalImplicit := by decide +kernel
theorem gk_runs_with_least_ahead_range : (defScope s_runs_with_least_ahead).names.lookup ("range" : Str) = some PySem.NameKind.globalImplicit := by decide +kernel
theorem gk_runs_with_least_ahead_reversed : (defScope s_runs_with_least_ahead).names.lookup ("reversed" : Str) = some PySem.NameKind.globalImplicit := by decide +kernel
def sp_ahead : Sp := fun vs H Q _ => ∃ (v : V) (ns : List Int), vs = [v] ∧ Rep H v (dIs ns) ∧ 1 ≤ ns.length ∧ ns.length ≤ 6 ∧ ∀ D H', Same H H' → Rep (newH H H') (.ref D) (.lst ((aheadP ns).map dPr)) → Q (.ref D) H'
theorem ok_ahead (T : Txt K mg) (F : Fn0 K mg "runs_with_least_ahead" s_runs_with_least_ahead) : Cal P w K mg base "runs_with_least_ahead" ["numbers"] 1 sp_ahead := by
  refine cal_of F sc_runs_with_least_ahead (fun _ _ _ _ _ _ us hl => match us, hl with | [_], _ => rfl) ?len ?body
  case len => rintro vs H Q E ⟨a, b, rfl, _⟩; rfl
  case body =>
    intro f cdv A outer s H vs Q E hr h
    obtain ⟨v, ns, rfl, hv, h1, h6, k⟩ := h
    obtain ⟨p, rfl, hp⟩ := rep_isn hv
    refine' ⟨_, ?D, ?R⟩
    case D =>
      refine' pss_cons ?g1 ?g2
      case g1 =>
        refine' ps_set1 (i := 1) sc_runs_with_least_ahead.nd rfl lk_runs_with_least_ahead_1 ?g3
        case g3 =>
          refine' pe_op op_fdivB ?g4 ?g5
          case g4 =>
            refine' pe_callE call_lenH gk_runs_with_least_ahead_len T.n_len bt_len ?g6
            case g6 =>
              refine' pa_c ?g7 ?g8
              case g7 => exact pv1 0 rfl lk_runs_with_least_ahead_0
              case g8 => exact pa_nil
          case g5 => exact pe_int
      case g2 =>
        refine' pss_cons ?g9 ?g10
        case g9 =>
          refine' ps_set1 (i := 2) sc_runs_with_least_ahead.nd rfl lk_runs_with_least_ahead_2 ?g11
          case g11 =>
            refine' pe_lst ?g12
            case g12 => exact pa_nil
        case g10 =>
          refine' pss_cons ?g13 ?g14
          case g13 =>
            refine' ps_for PassesOwn.never rfl ?g15 ?g16 ?g17
            case g15 =>
              refine' pi_range1 gk_runs_with_least_ahead_range T.n_range ?g18
              case g18 =>
                refine' pa_c ?g19 ?g20
                case g19 => exact pv1 1 rfl lk_runs_with_least_ahead_1
                case g20 => exact pa_nil
            case g16 => exact pg_name1 (i := 3) sc_runs_with_least_ahead.nd rfl lk_runs_with_least_ahead_3
            case g17 =>
              refine' pss_cons ?g21 ?g22
              case g21 =>
                refine' ps_set1 (i := 4) sc_runs_with_least_ahead.nd rfl lk_runs_with_least_ahead_4 ?g23
                case g23 =>
                  refine' pe_op op_mod ?g24 ?g25
                  case g24 =>
                    refine' pe_op op_sub ?g26 ?g27
                    case g26 =>
                      refine' pe_callE call_lenH gk_runs_with_least_ahead_len T.n_len bt_len ?g28
                      case g28 =>
                        refine' pa_c ?g29 ?g30
                        case g29 => exact pv1 0 rfl lk_runs_with_least_ahead_0
                        case g30 => exact pa_nil
                    case g27 => exact pv1 3 rfl lk_runs_with_least_ahead_3
                  case g25 =>
                    refine' pe_callE call_lenH gk_runs_with_least_ahead_len T.n_len bt_len ?g31
                    case g31 =>
                      refine' pa_c ?g32 ?g33
                      case g32 => exact pv1 0 rfl lk_runs_with_least_ahead_0
                      case g33 => exact pa_nil
              case g22 =>
                refine' pss_cons ?g34 ?g35
                case g34 =>
                  refine' ps_set1 (i := 5) sc_runs_with_least_ahead.nd rfl lk_runs_with_least_ahead_5 ?g36
                  case g36 =>
                    refine' pe_op op_cat ?g37 ?g38
                    case g37 =>
                      refine' pe_slice sl_listH ?g39 ?g40 ?g41
                      case g39 => exact pv1 0 rfl lk_runs_with_least_ahead_0
                      case g40 =>
                        refine' po_some ?g42
                        case g42 => exact pv1 4 rfl lk_runs_with_least_ahead_4
                      case g41 => exact po_none
                    case g38 =>
                      refine' pe_slice sl_listH ?g43 ?g44 ?g45
                      case g43 => exact pv1 0 rfl lk_runs_with_least_ahead_0
                      case g44 => exact po_none
                      case g45 =>
                        refine' po_some ?g46
                        case g46 => exact pv1 4 rfl lk_runs_with_least_ahead_4
                case g35 =>
                  refine' pss_one ?g47
                  case g47 =>
                    refine' ps_expr1 ?g48
                    case g48 =>
                      refine' pe_bm PySem.F.plainAttrs_list PySem.F.slot_list_append PySem.F.type_list_append mt_append ?g49 ?g50
                      case g49 => exact pv1 2 rfl lk_runs_with_least_ahead_2
                      case g50 =>
                        refine' pa_c ?g51 ?g52
                        case g51 =>
                          refine' pe_tup ?g53
                          case g53 =>
                            refine' pa_c ?g54 ?g55
                            case g54 =>
                              refine' pe_slice sl_listH ?g56 ?g57 ?g58
                              case g56 => exact pv1 5 rfl lk_runs_with_least_ahead_5
                              case g57 => exact po_none
                              case g58 =>
                                refine' po_some ?g59
                                case g59 => exact pv1 1 rfl lk_runs_with_least_ahead_1
                            case g55 =>
                              refine' pa_c ?g60 ?g61
                              case g60 =>
                                refine' pe_listReversed rfl gk_runs_with_least_ahead_list T.n_list gk_runs_with_least_ahead_reversed T.n_reversed ?g62
                                case g62 =>
                                  refine' pa_c ?g63 ?g64
                                  case g63 =>
                                    refine' pe_slice sl_listH ?g65 ?g66 ?g67
                                    case g65 => exact pv1 5 rfl lk_runs_with_least_ahead_5
                                    case g66 =>
                                      refine' po_some ?g68
                                      case g68 => exact pv1 1 rfl lk_runs_with_least_ahead_1
                                    case g67 => exact po_none
                                  case g64 => exact pa_nil
                              case g61 => exact pa_nil
                        case g52 => exact pa_nil
          case g14 =>
            refine' pss_one ?g69
            case g69 =>
              refine' ps_ret ?g70
              case g70 => exact pv1 2 rfl lk_runs_with_least_ahead_2
    case R =>
      walk_at "rd"
      refine ⟨_, .inl hp, by decide, by decide +kernel, by decide, fun l nl => ?_⟩
      rw [List.length_map]
      refine ⟨by omega, by omega, ?_⟩
      rw [show Int.toNat ((ns.length : Nat) / 2 : Int) = ns.length / 2 by omega]
      have Sl : Same H (upd H l (HO.lst [])) := Same.new nl
      have pl : p ≠ l := ne_of_none hp nl
      refine go_range (fun i σ H' => ∃ (e1 e2 e3 : Option V) (ys : List V), σ = [some (.ref p), some (.int ((ns.length / 2 : Nat) : Int)), some (.ref l), e1, e2, e3] ∧ (∀ b o, H b = some o → H' b = some o) ∧ H' l = some (.lst ys) ∧ Reps (cutH H l H') ys (((List.range i).map (aheadP1 ns)).map dPr)) ⟨none, none, none, [], rfl, Sl, upd_same, rfl⟩ ?_ ?_
      · rintro i σ H' hi ⟨e1, e2, e3, ys, rfl, s1, hl1, reps⟩
        have hi' : i < ns.length / 2 := hi
        have hp1 := s1 _ _ hp
        have eS : ((ns.length : Nat) : Int) - (0 + ((i : Nat) : Int)) = ((ns.length - i : Nat) : Int) := by omega
        have eT : (((ns.length - i : Nat) : Nat) : Int) % ((ns.length : Nat) : Int) = (((ns.length - i) % ns.length : Nat) : Int) := by omega
        have sl : (ns.length - i) % ns.length < ns.length := Nat.mod_lt _ (by omega)
        have eA : ns.drop ((ns.length - i) % ns.length) ++ ns.take ((ns.length - i) % ns.length) = aroundP ns i := rfl
        have c1 : cutV (ns.map V.int) (some (((ns.length - i) % ns.length : Nat) : Int)) none = (ns.drop ((ns.length - i) % ns.length)).map V.int := by rw [cut_from _ _ (by simp; omega), List.map_drop]
        have c2 : cutV (ns.map V.int) none (some (((ns.length - i) % ns.length : Nat) : Int)) = (ns.take ((ns.length - i) % ns.length)).map V.int := by rw [cut_to _ _ (by simp; omega), List.map_take]
        walk_at "rd"
        refine ⟨_, .inl hp1, _, .inl hp1, by rw [List.length_map]; omega, _, hp1, fun p5 n5 => ⟨_, (Same.new n5) _ _ hp1, fun p6 n6 => ?_⟩⟩
        simp only [List.length_map, eS, eT, c1] at n6 ⊢
        rw [c2]
        have al : (aroundP ns i).length = ns.length := by rw [← eA]; simp; omega
        have S6 : Same H' (upd (upd H' p5 (HO.lst ((ns.drop ((ns.length - i) % ns.length)).map V.int))) p6 (HO.lst ((ns.take ((ns.length - i) % ns.length)).map V.int))) := (Same.new n5).trans (Same.new n6)
        have h5 := (Same.new n6 (o := HO.lst ((ns.take ((ns.length - i) % ns.length)).map V.int))) _ _ (upd_same (H := H') (a := p5) (o := HO.lst ((ns.drop ((ns.length - i) % ns.length)).map V.int)))
        generalize upd (upd H' p5 (HO.lst ((ns.drop ((ns.length - i) % ns.length)).map V.int))) p6 (HO.lst ((ns.take ((ns.length - i) % ns.length)).map V.int)) = H6 at *
        refine ⟨_, h5, big_line (by simp; omega), fun p7 n7 => ?_⟩
        rw [← List.map_append, eA]
        have S7 : Same H' (upd H6 p7 (HO.lst ((aroundP ns i).map V.int))) := S6.trans (Same.new n7)
        have h7 := upd_same (H := H6) (a := p7) (o := HO.lst ((aroundP ns i).map V.int))
        generalize upd H6 p7 (HO.lst ((aroundP ns i).map V.int)) = H7 at *
        clear n5 n6 h5 S6 n7 c1 c2 eA
        have ec : ((ns.length / 2 : Nat) : Int) = ((ns.length / 2 : Nat) : Int) := rfl
        have c3 : cutV ((aroundP ns i).map V.int) none (some ((ns.length / 2 : Nat) : Int)) = (aheadP1 ns i).1.map V.int := by rw [cut_to _ _ (by simp; omega), ← List.map_take]; rfl
        have c4 : cutV ((aroundP ns i).map V.int) (some ((ns.length / 2 : Nat) : Int)) none = ((aroundP ns i).drop (ns.length / 2)).map V.int := by rw [cut_from _ _ (by simp; omega), ← List.map_drop]
        refine ⟨.inl ⟨_, .inl (.inl (S7 _ _ hl1))⟩, ?_⟩
        intro p8 n8
        rw [c3]
        refine ⟨_, (Same.new n8) _ _ h7, fun p9 n9 p10 n10 => ⟨by decide, fun p11 n11 => ?_⟩⟩
        rw [c4] at n10 n11 ⊢
        have e10 : (((aroundP ns i).drop (ns.length / 2)).map V.int).reverse = (aheadP1 ns i).2.map V.int := by rw [← List.map_reverse]; rfl
        rw [e10] at n11 ⊢
        have S8 : Same H' (upd H7 p8 (HO.lst ((aheadP1 ns i).1.map V.int))) := S7.trans (Same.new n8)
        have f8 : H' p8 = none := S7.free n8
        have h8 := upd_same (H := H7) (a := p8) (o := HO.lst ((aheadP1 ns i).1.map V.int))
        generalize upd H7 p8 (HO.lst ((aheadP1 ns i).1.map V.int)) = H8 at *
        have S9 : Same H' (upd H8 p9 (HO.lst (((aroundP ns i).drop (ns.length / 2)).map V.int))) := S8.trans (Same.new n9)
        have h8' := (Same.new n9 (o := HO.lst (((aroundP ns i).drop (ns.length / 2)).map V.int))) _ _ h8
        generalize upd H8 p9 (HO.lst (((aroundP ns i).drop (ns.length / 2)).map V.int)) = H9 at *
        have f10 : H' p10 = none := S9.free n10
        have S10 : Same H' (upd H9 p10 (HO.lst ((aheadP1 ns i).2.map V.int))) := S9.trans (Same.new n10)
        have h10 := upd_same (H := H9) (a := p10) (o := HO.lst ((aheadP1 ns i).2.map V.int))
        have h8'' := (Same.new n10 (o := HO.lst ((aheadP1 ns i).2.map V.int))) _ _ h8'
        generalize upd H9 p10 (HO.lst ((aheadP1 ns i).2.map V.int)) = H10 at *
        have f11 : H' p11 = none := S10.free n11
        have S11 : Same H' (upd H10 p11 (HO.tup [V.ref p8, V.ref p10])) := S10.trans (Same.new n11)
        have h11 := upd_same (H := H10) (a := p11) (o := HO.tup [V.ref p8, V.ref p10])
        have h10' := (Same.new n11 (o := HO.tup [V.ref p8, V.ref p10])) _ _ h10
        have h8r := (Same.new n11 (o := HO.tup [V.ref p8, V.ref p10])) _ _ h8''
        generalize upd H10 p11 (HO.tup [V.ref p8, V.ref p10]) = H11 at *
        have fr : ∀ {b : Addr}, H' b = none → H b = none ∧ b ≠ l := fun {b} hb => by
          refine ⟨?_, fun e => by rw [e, hl1] at hb; cases hb⟩
          cases e : H b with
          | none => rfl
          | some o => rw [s1 b o e] at hb; cases hb
        have yl : ys.length = i := by rw [reps.length]; simp
        refine ⟨l, ys, .ref p11, rfl, rfl, S11 _ _ hl1, small1000 (by omega), fun b o hb => ?_, ys ++ [.ref p11], upd_same, ?_⟩
        · rw [upd_ne (ne_of_none hb nl)]
          exact S11 _ _ (s1 b o hb)
        · rw [cutH_upd, List.range_succ, List.map_append, List.map_append]
          refine Reps.append (Reps.mono (cutH_mono S11) _ reps) ⟨_, _, rfl, ⟨p11, _, rfl, by rw [cutH_at (fr f11).2 (fr f11).1]; exact h11, _, _, rfl, rep_of_isn (by rw [cutH_at (fr f8).2 (fr f8).1]; exact h8r), _, _, rfl, rep_of_isn (by rw [cutH_at (fr f10).2 (fr f10).1]; exact h10'), rfl⟩, rfl⟩
      · rintro σ H' ⟨e1, e2, e3, ys, rfl, s1, hl1, reps⟩
        walk_at "rd"
        exact k l H' s1 ⟨l, ys, rfl, by rw [newH_at nl]; exact hl1, Reps.mono cutH_new _ reps⟩
end Rim46
set_option Elab.async false
set_option linter.all false
set_option maxRecDepth 100000
set_option maxHeartbeats 4000000
namespace Rim46
open PySem PySem.Spec PyProof.Rows PySem.W L2
local macro_rules | `(tactic| walk_at "rd") => `(tactic| first | (dsimp only [tSeq, tAsg, gName, tTup, tLst, tCons, tNil, tVar, tC, tCB, tOp, rI, rI0, tTest, tIfS, tNext, tRet, tRetN, tDrop, tB, tAnd, tOr, tNot, tAndV, tOrV, tNotV, rU, tUn, tBM0, tBM, rBits, tCall, L2.start, rIxTH, rIxLH, rLenH, rEqTH, rEq, rNe, CMul, CMulB, CDivB, CDivF, CPow, List.map_cons, List.map_nil, List.length_cons, List.length_nil, List.replicate, List.cons_append, List.nil_append, List.set_cons_zero, List.set_cons_succ, List.getElem?_cons_zero, List.getElem?_cons_succ, gSub, rSetL, rCat, iRng1, tPar, iList, tComp, pick, tYes, iZip, gTup, gCons, gNil, rSum, rListH, List.map, iRng2, iRngD, tSl, rSlH, tPart, tNoPart, tPar3, tIf, tRev, tLRange, rIxT, rPopAt, tLRev, rExtend, rClear, rSortI, rMinL, rIn, tTest]; try simp only [tSeq, tAsg, gName, tTup, tLst, tCons, tNil, tVar, tC, tCB, tOp, rI, rI0, tTest, tIfS, tNext, tRet, tRetN, tDrop, tB, tAnd, tOr, tNot, tAndV, tOrV, tNotV, rU, tUn, tBM0, tBM, rBits, tCall, L2.start, rIxTH, rIxLH, rLenH, rEqTH, rEq, rNe, scal, tyV, CMul, CMulB, CDivB, CDivF, CPow, List.map_cons, List.map_nil, List.length_cons, List.length_nil, List.replicate, List.cons_append, List.nil_append, List.append_nil, List.set_cons_zero, List.set_cons_succ, List.getElem?_cons_zero, List.getElem?_cons_succ, Option.some.injEq, List.cons.injEq, V.int.injEq, V.bl.injEq, V.str.injEq, V.ref.injEq, V.ty.injEq, HO.tup.injEq, HO.lst.injEq, exists_eq_left, exists_eq_left', exists_and_left, and_assoc, and_true, true_and, upd_same, atI_0, atI_1, atI_2, Nat.zero_add, Nat.reduceAdd, Nat.reduceSub, decide_eq_true_eq, Bool.not_eq_true', decide_eq_false_iff_not, reduceCtorEq, false_or, or_false, true_or, or_true, plainT_int, plainT_bool, plainT_tuple, plainT_list, plainT_str, Bool.false_eq_true, if_false, if_true, Bool.not_false, Bool.not_true, Bool.not_not, gSub, rSetL, ixN_00, upd_upd, rCat, iRng1, tFor_eq, tPar, iList, tComp, pick, tYes, iZip, gTup, gCons, gNil, rSum, rListH, List.map, Option.bind, iRng2, iRngD, tSl, rSlH, tPart, tNoPart, tPar3, tIf, tRev, tLRange, rIxT, rPopAt, tLRev, rExtend, rClear, rSortI, rMinL, rIn, tTest]) | simp only [tSeq, tAsg, gName, tTup, tLst, tCons, tNil, tVar, tC, tCB, tOp, rI, rI0, tTest, tIfS, tNext, tRet, tRetN, tDrop, tB, tAnd, tOr, tNot, tAndV, tOrV, tNotV, rU, tUn, tBM0, tBM, rBits, tCall, L2.start, rIxTH, rIxLH, rLenH, rEqTH, rEq, rNe, scal, tyV, CMul, CMulB, CDivB, CDivF, CPow, List.map_cons, List.map_nil, List.length_cons, List.length_nil, List.replicate, List.cons_append, List.nil_append, List.append_nil, List.set_cons_zero, List.set_cons_succ, List.getElem?_cons_zero, List.getElem?_cons_succ, Option.some.injEq, List.cons.injEq, V.int.injEq, V.bl.injEq, V.str.injEq, V.ref.injEq, V.ty.injEq, HO.tup.injEq, HO.lst.injEq, exists_eq_left, exists_eq_left', exists_and_left, and_assoc, and_true, true_and, upd_same, atI_0, atI_1, atI_2, Nat.zero_add, Nat.reduceAdd, Nat.reduceSub, decide_eq_true_eq, Bool.not_eq_true', decide_eq_false_iff_not, reduceCtorEq, false_or, or_false, true_or, or_true, plainT_int, plainT_bool, plainT_tuple, plainT_list, plainT_str, Bool.false_eq_true, if_false, if_true, Bool.not_false, Bool.not_true, Bool.not_not, gSub, rSetL, ixN_00, upd_upd, rCat, iRng1, tFor_eq, tPar, iList, tComp, pick, tYes, iZip, gTup, gCons, gNil, rSum, rListH, List.map, Option.bind, iRng2, iRngD, tSl, rSlH, tPart, tNoPart, tPar3, tIf, tRev, tLRange, rIxT, rPopAt, tLRev, rExtend, rClear, rSortI, rMinL, rIn, tTest])
variable {P : Program} {w : World} {K : PySem.W.Frag} {mg : Str → Option Value} {base : Heap}
def sortP (ds : List (List Int × List Int)) : List (List Int × List Int) := if ds.length < 2 then ds else match runT (fun i j => pLt (ds.getD i ([], [])) (ds.getD j ([], []))) ds.length (kas_sort ds.length) with
  | some pm => pm.toList.map fun i => ds.getD i ([], [])
  | none => []
theorem reps_pick {H : Hp} {ys : List V} {ds : List (List Int × List Int)} (h : Reps H ys (ds.map dPr)) : ∀ (is : List Nat), (∀ i ∈ is, i < ds.length) → Reps H (is.map fun i => ys.getD i .non) ((is.map fun i => ds.getD i ([], [])).map dPr)
  | [], _ => rfl
  | i :: is, hi => by
    have h1 := hi i List.mem_cons_self
    have hl : ys.length = ds.length := by rw [h.length, List.length_map]
    refine ⟨_, _, rfl, ?_, reps_pick h is fun j hj => hi j (List.mem_cons_of_mem _ hj)⟩
    obtain ⟨d, hd, hr⟩ := h.of_get (i := i) (x := ys[i]'(by omega)) (List.getElem?_eq_getElem (by omega))
    rw [List.getElem?_map, List.getElem?_eq_getElem h1] at hd
    rw [← Option.some.inj hd] at hr
    show Rep H (ys.getD i .non) (dPr (ds.getD i ([], [])))
    have e1 : ds.getD i ([], []) = ds[i] := by rw [List.getD_eq_getElem?_getD, List.getElem?_eq_getElem h1]; rfl
    have e2 : ys.getD i .non = ys[i]'(by omega) := by rw [List.getD_eq_getElem?_getD, List.getElem?_eq_getElem (by omega)]; rfl
    rw [e1, e2]
    exact hr
theorem sort_ok {G H : Hp} (hG : Same G H) {p : Addr} {ys : List V} {ds : List (List Int × List Int)} {Q : VK} (hp : H p = some (.lst ys)) (h : Reps G ys (ds.map dPr)) (h1 : 1 ≤ ds.length) (h64 : ds.length < 64)
    (q : ∀ l zs, H l = none → Reps G zs ((sortP ds).map dPr) → zs.length = ds.length → Q (.ref l) (upd H l (.lst zs))) : rSort1 [.ref p] H Q ∨ rSortP [.ref p] H Q := by
  have hl : ys.length = ds.length := by rw [h.length, List.length_map]
  by_cases h2 : ds.length < 2
  · obtain ⟨y, rfl⟩ : ∃ y, ys = [y] := List.length_eq_one_iff.mp (by omega)
    refine .inl ⟨p, y, rfl, hp, fun l nl => q l [y] nl ?_ (by simpa using hl)⟩
    unfold sortP
    rw [if_pos h2]
    exact h
  · obtain ⟨pm, hr, hpm⟩ := run_sort (lt := fun i j => pLt (ds.getD i ([], [])) (ds.getD j ([], []))) (N := ds.length) (by omega)
    have pl : pm.toList.length = ds.length := by
      have := (Array.perm_iff_toList_perm.mp hpm).length_eq
      simpa using this
    have e : sortP ds = pm.toList.map fun i => ds.getD i ([], []) := by
      unfold sortP
      rw [if_neg h2, hr]
    refine .inr ⟨p, ys, ds, pm, rfl, hp, Reps.mono hG _ h, by omega, h64, hr, by rw [← Array.length_toList]; omega, fun l nl => q l _ nl ?_ (by rw [List.length_map]; exact pl)⟩
    rw [e]
    refine reps_pick h _ fun i hi => ?_
    have := (Array.perm_iff_toList_perm.mp hpm).mem_iff.mp hi
    exact List.mem_range.mp (by simpa using this)
def numI (n : Nat) : List Int := (List.range n).map fun i : Nat => (i : Int)
def alikeP (n c : Nat) : List (List Int × List Int) := ((risingP (numI n) (2 * c)).map aheadP).flatten
def faceP (n : Nat) : List (List Int × List Int) := ((List.range (n / 2)).map fun c => sortP (alikeP n (c + 1))).flatten
theorem alike_ok : ∀ n, n < 7 → ∀ c, c < 4 → 1 ≤ c → c ≤ n / 2 → 1 ≤ (alikeP n c).length ∧ (alikeP n c).length < 64 := by decide +kernel
theorem flat_take {α : Type} (l : List (List α)) (j : Nat) : (l.take j).flatten.length ≤ l.flatten.length := by
  conv => rhs; rw [← List.take_append_drop j l, List.flatten_append, List.length_append]
  omega
abbrev s_facing_runs : Stmt := PySem.Challenge.pw_rimread_k46_facing_runs.main.body.getD 3 (.Pass ⟨0, 0, 0, 0⟩)
theorem sc_facing_runs : FnScope ["n", "runs", "count", "alike", "numbers"] ["n"] (defScope s_facing_runs) := ⟨rfl, rfl, rfl, by decide +kernel, rfl, by decide +kernel, by decide +kernel⟩
theorem lk_facing_runs_0 : (defScope s_facing_runs).names.lookup ("n" : Str) = some PySem.NameKind.local := by decide +kernel
theorem lk_facing_runs_1 : (defScope s_facing_runs).names.lookup ("runs" : Str) = some PySem.NameKind.local := by decide +kernel
theorem lk_facing_runs_2 : (defScope s_facing_runs).names.lookup ("count" : Str) = some PySem.NameKind.local := by decide +kernel
theorem lk_facing_runs_3 : (defScope s_facing_runs).names.lookup ("alike" : Str) = some PySem.NameKind.local := by decide +kernel
theorem lk_facing_runs_4 : (defScope s_facing_runs).names.lookup ("numbers" : Str) = some PySem.NameKind.local := by decide +kernel
theorem gk_facing_runs_list : (defScope s_facing_runs).names.lookup ("list" : Str) = some PySem.NameKind.globalImplicit := by decide +kernel
theorem gk_facing_runs_range : (defScope s_facing_runs).names.lookup ("range" : Str) = some PySem.NameKind.globalImplicit := by decide +kernel
theorem gk_facing_runs_rising_lists : (defScope s_facing_runs).names.lookup ("rising_lists" : Str) = some PySem.NameKind.globalImplicit := by decide +kernel
theorem gk_facing_runs_runs_with_least_ahead : (defScope s_facing_runs).names.lookup ("runs_with_least_ahead" : Str) = some PySem.NameKind.globalImplicit := by decide +kernel
theorem gk_facing_runs_sorted : (defScope s_facing_runs).names.lookup ("sorted" : Str) = some PySem.NameKind.globalImplicit := by decide +kernel
def sp_face : Sp := fun vs H Q _ => ∃ (n : Nat), vs = [.int n] ∧ 1 ≤ n ∧ n ≤ 6 ∧ ∀ D H', Same H H' → Rep (newH H H') (.ref D) (.lst ((faceP n).map dPr)) → Q (.ref D) H'
theorem ok_facing_runs (T : Txt K mg) (F : Fn0 K mg "facing_runs" s_facing_runs) (C_rising_lists : Cal P w K mg base "rising_lists" ["numbers", "count"] 1 sp_rise) (C_runs_with_least_ahead : Cal P w K mg base "runs_with_least_ahead" ["numbers"] 1 sp_ahead) : Cal P w K mg base "facing_runs" ["n"] 2 sp_face := by
  refine cal_of F sc_facing_runs (fun _ _ _ _ _ _ us hl => match us, hl with | [_], _ => rfl) ?len ?body
  case len => rintro vs H Q E ⟨a, rfl, _⟩; rfl
  case body =>
    intro f cdv A outer s H vs Q E hr h
    obtain ⟨n, rfl, n1, n6, k⟩ := h
    refine' ⟨_, ?D, ?R⟩
    case D =>
      refine' pss_cons ?g1 ?g2
      case g1 =>
        refine' ps_set1 (i := 1) sc_facing_runs.nd rfl lk_facing_runs_1 ?g3
        case g3 =>
          refine' pe_lst ?g4
          case g4 => exact pa_nil
      case g2 =>
        refine' pss_cons ?g5 ?g6
        case g5 =>
          refine' ps_for PassesOwn.never rfl ?g7 ?g8 ?g9
          case g7 =>
            refine' pi_range2 gk_facing_runs_range T.n_range ?g10
            case g10 =>
              refine' pa_c ?g11 ?g12
              case g11 => exact pe_int
              case g12 =>
                refine' pa_c ?g13 ?g14
                case g13 =>
                  refine' pe_op op_add ?g15 ?g16
                  case g15 =>
                    refine' pe_op op_fdivB ?g17 ?g18
                    case g17 => exact pv1 0 rfl lk_facing_runs_0
                    case g18 => exact pe_int
                  case g16 => exact pe_int
                case g14 => exact pa_nil
          case g8 => exact pg_name1 (i := 2) sc_facing_runs.nd rfl lk_facing_runs_2
          case g9 =>
            refine' pss_cons ?g19 ?g20
            case g19 =>
              refine' ps_set1 (i := 3) sc_facing_runs.nd rfl lk_facing_runs_3 ?g21
              case g21 =>
                refine' pe_lst ?g22
                case g22 => exact pa_nil
            case g20 =>
              refine' pss_cons ?g23 ?g24
              case g23 =>
                refine' ps_for PassesOwn.never rfl ?g25 ?g26 ?g27
                case g25 =>
                  refine' pi_listK (K := K) rfl ?g28
                  case g28 =>
                    refine' pe_callD C_rising_lists (hr.mono (by decide)) gk_facing_runs_rising_lists ?g29
                    case g29 =>
                      refine' pa_c ?g30 ?g31
                      case g30 =>
                        refine' pe_listRange rfl gk_facing_runs_list T.n_list gk_facing_runs_range T.n_range ?g32
                        case g32 =>
                          refine' pa_c ?g33 ?g34
                          case g33 => exact pv1 0 rfl lk_facing_runs_0
                          case g34 => exact pa_nil
                      case g31 =>
                        refine' pa_c ?g35 ?g36
                        case g35 =>
                          refine' pe_op op_mul ?g37 ?g38
                          case g37 => exact pe_int
                          case g38 => exact pv1 2 rfl lk_facing_runs_2
                        case g36 => exact pa_nil
                case g26 => exact pg_name1 (i := 4) sc_facing_runs.nd rfl lk_facing_runs_4
                case g27 =>
                  refine' pss_one ?g39
                  case g39 =>
                    refine' ps_expr1 ?g40
                    case g40 =>
                      refine' pe_bm PySem.F.plainAttrs_list PySem.F.slot_list_extend PySem.F.type_list_extend mt_extend ?g41 ?g42
                      case g41 => exact pv1 3 rfl lk_facing_runs_3
                      case g42 =>
                        refine' pa_c ?g43 ?g44
                        case g43 =>
                          refine' pe_callD C_runs_with_least_ahead (hr.mono (by decide)) gk_facing_runs_runs_with_least_ahead ?g45
                          case g45 =>
                            refine' pa_c ?g46 ?g47
                            case g46 => exact pv1 4 rfl lk_facing_runs_4
                            case g47 => exact pa_nil
                        case g44 => exact pa_nil
              case g24 =>
                refine' pss_one ?g48
                case g48 =>
                  refine' ps_expr1 ?g49
                  case g49 =>
                    refine' pe_bm PySem.F.plainAttrs_list PySem.F.slot_list_extend PySem.F.type_list_extend mt_extend ?g50 ?g51
                    case g50 => exact pv1 1 rfl lk_facing_runs_1
                    case g51 =>
                      refine' pa_c ?g52 ?g53
                      case g52 =>
                        refine' pe_callE (CallR.or call_sort1 (call_sortP hr.units)) gk_facing_runs_sorted T.n_sorted bt_sorted ?g54
                        case g54 =>
                          refine' pa_c ?g55 ?g56
                          case g55 => exact pv1 3 rfl lk_facing_runs_3
                          case g56 => exact pa_nil
                      case g53 => exact pa_nil
        case g6 =>
          refine' pss_one ?g57
          case g57 =>
            refine' ps_ret ?g58
            case g58 => exact pv1 1 rfl lk_facing_runs_1
    case R =>
      walk_at "rd"
      refine ⟨by decide, fun l nl => ?_⟩
      refine ⟨by decide, by decide +kernel, by decide, by omega, by omega, by omega, ?_⟩
      rw [show Int.toNat ((n : Int) / 2 + 1 - 1) = n / 2 by omega]
      refine go_range (fun i σ H' => ∃ (e2 e3 e4 : Option V) (zs : List V), σ = [some (.int n), some (.ref l), e2, e3, e4] ∧ (∀ b o, H b = some o → H' b = some o) ∧ H' l = some (.lst zs) ∧ Reps (cutH H l H') zs (((List.range i).map fun c => sortP (alikeP n (c + 1))).flatten.map dPr) ∧ zs.length ≤ 100 * i) ⟨none, none, none, [], rfl, Same.new nl, upd_same, rfl, by simp⟩ ?_ ?_
      · rintro i σ H' hi ⟨e2, e3, e4, zs, rfl, s1, hl1, reps, zl⟩
        have hi' : i < n / 2 := hi
        walk_at "rd"
        refine ⟨Nat.zero_le _, fun a na => ⟨n, rfl, by omega, fun nl2 nn2 => ⟨.inl ⟨by decide, by decide⟩, ?_⟩⟩⟩
        have eN : numsV n = (numI n).map V.int := by unfold numsV numI; rw [List.map_map]; rfl
        rw [eN]
        have ha2 := (Same.new nn2 (o := HO.lst ((numI n).map V.int))) _ _ (upd_same (H := H') (a := a) (o := HO.lst []))
        have hn2 := upd_same (H := upd H' a (HO.lst [])) (a := nl2) (o := HO.lst ((numI n).map V.int))
        have S12 : Same H' (upd (upd H' a (HO.lst [])) nl2 (HO.lst ((numI n).map V.int))) := (Same.new na).trans (Same.new nn2)
        generalize upd (upd H' a (HO.lst [])) nl2 (HO.lst ((numI n).map V.int)) = H2 at *
        rw [show (2 : Int) * (1 + (i : Nat)) = ((2 * (i + 1) : Nat) : Int) by omega]
        refine ⟨.ref nl2, numI n, 2 * (i + 1), rfl, rep_of_isn hn2, by simp [numI]; omega, fun R H3 s3 nR repR => ?_⟩
        obtain ⟨_, xs, e0, hR, hxs⟩ := id repR
        cases e0
        have ha3 := s3 _ _ ha2
        have Ra : R ≠ a := (ne_of_none ha2 nR).symm
        refine ⟨R, rfl, ⟨_, .inl (.inl hR)⟩, ?_⟩
        obtain ⟨ok1, ok2⟩ := alike_ok n (by omega) (i + 1) (by omega) (by omega) (by omega)
        have al : alikeP n (i + 1) = ((risingP (numI n) (2 * (i + 1))).map aheadP).flatten := rfl
        have rl : ∀ r ∈ risingP (numI n) (2 * (i + 1)), r.length = 2 * (i + 1) := fun r hr => of_decide_eq_true (List.mem_filter.mp hr).2
        generalize risingP (numI n) (2 * (i + 1)) = rs at *
        have hxl : xs.length = rs.length := by rw [hxs.length, List.length_map]
        refine go_list (xs := xs) (fun j σ H'' => ∃ (e5 : Option V) (ws : List V), σ = [some (.int n), some (.ref l), some (.int (1 + (i : Nat))), some (.ref a), e5] ∧ (∀ b o, b ≠ a → H3 b = some o → H'' b = some o) ∧ H'' a = some (.lst ws) ∧ Reps (cutH H' a H'') ws (((rs.take j).map aheadP).flatten.map dPr)) ⟨_, [], rfl, fun _ _ _ h => h, ha3, rfl⟩ ?_ ?_ ?_
        · rintro j σ H'' hj ⟨e5, ws, rfl, k3, ha4, reps4⟩
          exact .inl (.inl (k3 R _ Ra hR))
        · rintro j x σ H'' hx ⟨e5, ws, rfl, k3, ha4, reps4⟩
          obtain ⟨q, rfl, hq, hj⟩ := rep_at hxs hx
          have ejr : rs.getD j [] = rs[j] := by rw [List.getD_eq_getElem?_getD, List.getElem?_eq_getElem hj]; rfl
          rw [ejr] at hq
          have nl4 : (rs[j]).length = 2 * (i + 1) := rl _ (List.getElem_mem _)
          have qa : q ≠ a := fun e => by
            rw [e, ha3] at hq
            have z := congrArg List.length (HO.lst.inj (Option.some.inj hq))
            simp at z
            omega
          have k1 : Same H' H'' := fun b o hb => k3 b o (ne_of_none hb na) (s3 _ _ (S12 _ _ hb))
          walk_at "rd"
          refine ⟨.inl ⟨_, .inl (.inl ha4)⟩, .ref q, rs[j], rfl, rep_of_isn (k3 q _ qa hq), by omega, by omega, fun D4 H4 s4 rep4 => ?_⟩
          obtain ⟨_, us, e6, hD4, hus⟩ := id rep4
          cases e6
          obtain ⟨nD4, hD4'⟩ := newH_of hD4
          have fl := flat_take (rs.map aheadP) (j + 1)
          have tk : (rs.map aheadP).take (j + 1) = (rs.take j).map aheadP ++ [aheadP rs[j]] := by
            rw [List.take_succ, List.map_take, List.getElem?_map, List.getElem?_eq_getElem hj]
            rfl
          rw [tk, List.flatten_append, List.length_append] at fl
          have wl : ws.length = ((rs.take j).map aheadP).flatten.length := by rw [reps4.length, List.length_map]
          have ul : us.length = (aheadP rs[j]).length := by rw [hus.length, List.length_map]
          rw [al] at ok2
          have fl2 : [aheadP rs[j]].flatten = aheadP rs[j] := by simp
          rw [fl2] at fl
          have tk2 : (rs.take (j + 1)).map aheadP = (rs.take j).map aheadP ++ [aheadP rs[j]] := by
            rw [List.take_succ, List.getElem?_eq_getElem hj, List.map_append]
            rfl
          have D4a : D4 ≠ a := (ne_of_none ha4 nD4).symm
          refine ⟨D4, rfl, ws, s4 _ _ ha4, us, hD4', big_line (by omega), fun b o hb h => ?_, ?_⟩
          · rw [upd_ne hb]
            exact s4 _ _ (k3 b o hb h)
          · rw [cutH_upd, tk2, List.flatten_append, fl2, List.map_append]
            exact Reps.append (Reps.mono (cutH_mono s4) _ reps4) (Reps.mono (new_cut k1 ⟨_, ha4⟩) _ hus)
        · rintro σ H'' ⟨e5, ws, rfl, k3, ha4, reps4⟩
          rw [List.take_of_length_le (by omega), ← al] at reps4
          have k1 : Same H' H'' := fun b o hb => k3 b o (ne_of_none hb na) (s3 _ _ (S12 _ _ hb))
          walk_at "rd"
          refine ⟨.inl ⟨_, .inl (.inl (k1 _ _ hl1))⟩, ?_⟩
          refine sort_ok cutH_same ha4 reps4 ok1 ok2 fun D5 us n5 hus ul => ?_
          have zl2 : zs.length + us.length ≤ 100 * (i + 1) := by omega
          refine ⟨D5, rfl, zs, (Same.new n5) _ _ (k1 _ _ hl1), us, upd_same, big_line (by omega), fun b o hb => ?_, ?_, by rw [List.length_append]; exact zl2⟩
          · rw [upd_ne (ne_of_none hb nl)]
            exact (Same.new n5) _ _ (k1 _ _ (s1 b o hb))
          · have f1 : [sortP (alikeP n (i + 1))].flatten = sortP (alikeP n (i + 1)) := by simp
            rw [cutH_upd, List.range_succ, List.map_append, List.flatten_append, List.map_append, List.map_cons, List.map_nil, f1]
            refine Reps.append (Reps.mono (cutH_mono (k1.trans (Same.new n5))) _ reps) (Reps.mono (fun b o h => ?_) _ hus)
            obtain ⟨ba, hb', h2⟩ := cutH_of h
            have bl : b ≠ l := (ne_of_none hl1 hb').symm
            have hb0 : H b = none := by
              cases e : H b with
              | none => rfl
              | some o' => rw [s1 b o' e] at hb'; cases hb'
            rw [cutH_at bl hb0]
            exact (Same.new n5) _ _ h2
      · rintro σ H' ⟨e2, e3, e4, zs, rfl, s1, hl1, reps, zl⟩
        walk_at "rd"
        exact k l H' s1 ⟨l, zs, rfl, by rw [newH_at nl]; exact hl1, Reps.mono cutH_new _ reps⟩
end Rim46
set_option Elab.async false
set_option linter.all false
set_option maxRecDepth 100000
set_option maxHeartbeats 4000000
namespace Rim46
open PySem PySem.Spec PyProof.Rows PySem.W L2
local macro_rules | `(tactic| walk_at "rd") => `(tactic| first | (dsimp only [tSeq, tAsg, gName, tTup, tLst, tCons, tNil, tVar, tC, tCB, tOp, rI, rI0, tTest, tIfS, tNext, tRet, tRetN, tDrop, tB, tAnd, tOr, tNot, tAndV, tOrV, tNotV, rU, tUn, tBM0, tBM, rBits, tCall, L2.start, rIxTH, rIxLH, rLenH, rEqTH, rEq, rNe, CMul, CMulB, CDivB, CDivF, CPow, List.map_cons, List.map_nil, List.length_cons, List.length_nil, List.replicate, List.cons_append, List.nil_append, List.set_cons_zero, List.set_cons_succ, List.getElem?_cons_zero, List.getElem?_cons_succ, gSub, rSetL, rCat, iRng1, tPar, iList, tComp, pick, tYes, iZip, gTup, gCons, gNil, rSum, rListH, List.map, iRng2, iRngD, tSl, rSlH, tPart, tNoPart, tPar3, tIf, tRev, tLRange, rIxT, rPopAt, tLRev, rExtend, rClear, rSortI, rMinL, rIn, tTest]; try simp only [tSeq, tAsg, gName, tTup, tLst, tCons, tNil, tVar, tC, tCB, tOp, rI, rI0, tTest, tIfS, tNext, tRet, tRetN, tDrop, tB, tAnd, tOr, tNot, tAndV, tOrV, tNotV, rU, tUn, tBM0, tBM, rBits, tCall, L2.start, rIxTH, rIxLH, rLenH, rEqTH, rEq, rNe, scal, tyV, CMul, CMulB, CDivB, CDivF, CPow, List.map_cons, List.map_nil, List.length_cons, List.length_nil, List.replicate, List.cons_append, List.nil_append, List.append_nil, List.set_cons_zero, List.set_cons_succ, List.getElem?_cons_zero, List.getElem?_cons_succ, Option.some.injEq, List.cons.injEq, V.int.injEq, V.bl.injEq, V.str.injEq, V.ref.injEq, V.ty.injEq, HO.tup.injEq, HO.lst.injEq, exists_eq_left, exists_eq_left', exists_and_left, and_assoc, and_true, true_and, upd_same, atI_0, atI_1, atI_2, Nat.zero_add, Nat.reduceAdd, Nat.reduceSub, decide_eq_true_eq, Bool.not_eq_true', decide_eq_false_iff_not, reduceCtorEq, false_or, or_false, true_or, or_true, plainT_int, plainT_bool, plainT_tuple, plainT_list, plainT_str, Bool.false_eq_true, if_false, if_true, Bool.not_false, Bool.not_true, Bool.not_not, gSub, rSetL, ixN_00, upd_upd, rCat, iRng1, tFor_eq, tPar, iList, tComp, pick, tYes, iZip, gTup, gCons, gNil, rSum, rListH, List.map, Option.bind, iRng2, iRngD, tSl, rSlH, tPart, tNoPart, tPar3, tIf, tRev, tLRange, rIxT, rPopAt, tLRev, rExtend, rClear, rSortI, rMinL, rIn, tTest]) | simp only [tSeq, tAsg, gName, tTup, tLst, tCons, tNil, tVar, tC, tCB, tOp, rI, rI0, tTest, tIfS, tNext, tRet, tRetN, tDrop, tB, tAnd, tOr, tNot, tAndV, tOrV, tNotV, rU, tUn, tBM0, tBM, rBits, tCall, L2.start, rIxTH, rIxLH, rLenH, rEqTH, rEq, rNe, scal, tyV, CMul, CMulB, CDivB, CDivF, CPow, List.map_cons, List.map_nil, List.length_cons, List.length_nil, List.replicate, List.cons_append, List.nil_append, List.append_nil, List.set_cons_zero, List.set_cons_succ, List.getElem?_cons_zero, List.getElem?_cons_succ, Option.some.injEq, List.cons.injEq, V.int.injEq, V.bl.injEq, V.str.injEq, V.ref.injEq, V.ty.injEq, HO.tup.injEq, HO.lst.injEq, exists_eq_left, exists_eq_left', exists_and_left, and_assoc, and_true, true_and, upd_same, atI_0, atI_1, atI_2, Nat.zero_add, Nat.reduceAdd, Nat.reduceSub, decide_eq_true_eq, Bool.not_eq_true', decide_eq_false_iff_not, reduceCtorEq, false_or, or_false, true_or, or_true, plainT_int, plainT_bool, plainT_tuple, plainT_list, plainT_str, Bool.false_eq_true, if_false, if_true, Bool.not_false, Bool.not_true, Bool.not_not, gSub, rSetL, ixN_00, upd_upd, rCat, iRng1, tFor_eq, tPar, iList, tComp, pick, tYes, iZip, gTup, gCons, gNil, rSum, rListH, List.map, Option.bind, iRng2, iRngD, tSl, rSlH, tPart, tNoPart, tPar3, tIf, tRev, tLRange, rIxT, rPopAt, tLRev, rExtend, rClear, rSortI, rMinL, rIn, tTest])
variable {P : Program} {w : World} {K : PySem.W.Frag} {mg : Str → Option Value} {base : Heap}
theorem op_notInK {X : Cx} (hK : X.K = K) : OpR X (compareOp .NotIn) (rIn K true) := by
  subst hK
  exact op_notIn_seq
theorem op_inK {X : Cx} (hK : X.K = K) : OpR X (compareOp .In) (rIn K false) := by
  subst hK
  exact op_in_seq
theorem any_int (x : Int) : ∀ (r : List Int), inV (.int x) (r.map V.int) = r.any fun y => decide (y = x)
  | [] => rfl
  | y :: r => by
    have := any_int x r
    simp only [inV, List.map_cons, List.any_cons, eqV] at this ⊢
    rw [this]
    congr 1
theorem flat_int : ∀ (r : List Int), (r.map V.int).all flatV = true
  | [] => rfl
  | y :: r => by simp [flatV]
abbrev s__law_cell_at : Stmt := PySem.Challenge.pw_rimread_k46_facing_runs.main.body.getD 5 (.Pass ⟨0, 0, 0, 0⟩)
theorem sc__law_cell_at : FnScope ["_law_script", "_law_k"] ["_law_script", "_law_k"] (defScope s__law_cell_at) := ⟨rfl, rfl, rfl, by decide +kernel, rfl, by decide +kernel, by decide +kernel⟩
theorem lk__law_cell_at_0 : (defScope s__law_cell_at).names.lookup ("_law_script" : Str) = some PySem.NameKind.local := by decide +kernel
theorem lk__law_cell_at_1 : (defScope s__law_cell_at).names.lookup ("_law_k" : Str) = some PySem.NameKind.local := by decide +kernel
theorem gk__law_cell_at_len : (defScope s__law_cell_at).names.lookup ("len" : Str) = some PySem.NameKind.globalImplicit := by decide +kernel
def sp_cell (K : PySem.W.Frag) : Sp := fun vs H Q _ => ∃ (a : Addr) (ns : List Int) (i : Int), vs = [.ref a, .int i] ∧ SqL K H a (ns.map V.int) ∧ 0 ≤ i ∧ ∀ z, Q (.int z) H
theorem ok__law_cell_at (T : Txt K mg) (F : Fn0 K mg "_law_cell_at" s__law_cell_at) : Cal P w K mg base "_law_cell_at" ["_law_script", "_law_k"] 1 (sp_cell K) := by
  refine cal_of F sc__law_cell_at (fun _ _ _ _ _ _ us hl => match us, hl with | [_, _], _ => rfl) ?len ?body
  case len => rintro vs H Q E ⟨a, b, c, rfl, _⟩; rfl
  case body =>
    intro f cdv A outer s H vs Q E hr h
    obtain ⟨a, ns, i, rfl, hS, h0, k⟩ := h
    refine' ⟨_, ?D, ?R⟩
    case D =>
      refine' pss_cons ?g1 ?g2
      case g1 =>
        refine' ps_if ?g3 ?g4 ?g5
        case g3 =>
          refine' pt_cmpR op_lt ?g6 ?g7 (nomark _)
          case g6 => exact pv1 1 rfl lk__law_cell_at_1
          case g7 =>
            refine' pe_callE call_len_seq gk__law_cell_at_len T.n_len bt_len ?g8
            case g8 =>
              refine' pa_c ?g9 ?g10
              case g9 => exact pv1 0 rfl lk__law_cell_at_0
              case g10 => exact pa_nil
        case g4 =>
          refine' pss_one ?g11
          case g11 =>
            refine' ps_ret ?g12
            case g12 =>
              refine' pe_ix (ix_listK (K := K) rfl) ?g13 ?g14 (fun _ _ => rfl)
              case g13 => exact pv1 0 rfl lk__law_cell_at_0
              case g14 => exact pv1 1 rfl lk__law_cell_at_1
        case g5 => exact pss_nil
      case g2 =>
        refine' pss_one ?g15
        case g15 =>
          refine' ps_ret ?g16
          case g16 => exact pe_int
    case R =>
      walk_at "rd"
      refine ⟨_, .inl hS, ?_⟩
      rw [List.length_map]
      refine ite2 (fun hl => ?_) (fun hl => ?_)
      · refine ⟨a, _, i, V.int (ns.getD i.toNat 0), rfl, rfl, hS, atI_nn h0 ?_, k _⟩
        have : i.toNat < ns.length := by omega
        simp [List.getElem?_map, this, List.getD]
      · exact k 0
abbrev s__law_whole : Stmt := PySem.Challenge.pw_rimread_k46_facing_runs.main.body.getD 6 (.Pass ⟨0, 0, 0, 0⟩)
theorem sc__law_whole : FnScope ["_law_found"] ["_law_found"] (defScope s__law_whole) := ⟨rfl, rfl, rfl, by decide +kernel, rfl, by decide +kernel, by decide +kernel⟩
theorem lk__law_whole_0 : (defScope s__law_whole).names.lookup ("_law_found" : Str) = some PySem.NameKind.local := by decide +kernel
theorem gk__law_whole_bool : (defScope s__law_whole).names.lookup ("bool" : Str) = some PySem.NameKind.globalImplicit := by decide +kernel
theorem gk__law_whole_int : (defScope s__law_whole).names.lookup ("int" : Str) = some PySem.NameKind.globalImplicit := by decide +kernel
theorem gk__law_whole_isinstance : (defScope s__law_whole).names.lookup ("isinstance" : Str) = some PySem.NameKind.globalImplicit := by decide +kernel
def sp_whole : Sp := fun vs H Q _ => ∃ x t, vs = [x] ∧ kindV H x = some t ∧ ∀ H', Same H H' → Q (.bl (t == "int")) H'
theorem kind_cases {H : Hp} {x : V} {t : String} (h : kindV H x = some t) : t = "NoneType" ∨ t = "bool" ∨ t = "int" ∨ t = "str" ∨ t = "list" ∨ t = "tuple" := by
  cases x with
  | non => exact .inl (Option.some.inj h).symm
  | bl _ => exact .inr (.inl (Option.some.inj h).symm)
  | int _ => exact .inr (.inr (.inl (Option.some.inj h).symm))
  | str _ => exact .inr (.inr (.inr (.inl (Option.some.inj h).symm)))
  | ref p =>
    cases e : H p with
    | none => simp [kindV, e] at h
    | some o => cases o <;> simp [kindV, e] at h <;> simp [← h]
  | _ => cases h
theorem ok__law_whole (T : Txt K mg) (F : Fn0 K mg "_law_whole" s__law_whole) : Cal P w K mg base "_law_whole" ["_law_found"] 1 sp_whole := by
  refine cal_of F sc__law_whole (fun _ _ _ _ _ _ us hl => match us, hl with | [_], _ => rfl) ?len ?body
  case len => rintro vs H Q E ⟨a, b, rfl, _⟩; rfl
  case body =>
    intro f cdv A outer s H vs Q E hr h
    obtain ⟨x, t, rfl, ht, k⟩ := h
    refine' ⟨_, ?D, ?R⟩
    case D =>
      refine' pss_one ?g1
      case g1 =>
        refine' ps_ret ?g2
        case g2 =>
          refine' pe_and ?g3 ?g4
          case g3 =>
            refine' pe_callE call_isi gk__law_whole_isinstance T.n_isinstance bt_isinstance ?g5
            case g5 =>
              refine' pa_c ?g6 ?g7
              case g6 => exact pv1 0 rfl lk__law_whole_0
              case g7 =>
                refine' pa_c ?g8 ?g9
                case g8 => exact pe_bty gk__law_whole_int T.n_int bt_int
                case g9 => exact pa_nil
          case g4 =>
            refine' pe_one ?g10
            case g10 =>
              refine' pe_not ?g11
              case g11 =>
                refine' pe_callE call_isi gk__law_whole_isinstance T.n_isinstance bt_isinstance ?g12
                case g12 =>
                  refine' pa_c ?g13 ?g14
                  case g13 => exact pv1 0 rfl lk__law_whole_0
                  case g14 =>
                    refine' pa_c ?g15 ?g16
                    case g15 => exact pe_bty gk__law_whole_bool T.n_bool bt_bool
                    case g16 => exact pa_nil
    case R =>
      walk_at "rd"
      simp only [ht, Option.some.injEq, exists_eq_left']
      have k' := k H (Same.refl H)
      rcases kind_cases ht with rfl | rfl | rfl | rfl | rfl | rfl <;> exact k'
def nextP (n : Nat) (r : List Int) : List (List Int) := ((numI n).filter fun x => !(r.any fun y => decide (y = x))).map fun x => r ++ [x]
def stepP (n : Nat) (rs : List (List Int)) : List (List Int) := (rs.map (nextP n)).flatten
def rowsP (n : Nat) : Nat → List (List Int)
  | 0 => [[]]
  | k + 1 => stepP n (rowsP n k)
theorem rows_ok : ∀ n, n < 7 → ∀ k, k < 7 → (rowsP n k).length ≤ 1000 ∧ (rowsP n k).all (fun r => decide (r.length = k)) = true := by decide +kernel
abbrev s__law_rows : Stmt := PySem.Challenge.pw_rimread_k46_facing_runs.main.body.getD 7 (.Pass ⟨0, 0, 0, 0⟩)
theorem sc__law_rows : FnScope ["_law_n", "_law_size", "_law_rows_here", "_law_k", "_law_longer", "_law_row"] ["_law_n", "_law_size"] (defScope s__law_rows) := ⟨rfl, rfl, rfl, by decide +kernel, rfl, by decide +kernel, by decide +kernel⟩
theorem lk__law_rows_0 : (defScope s__law_rows).names.lookup ("_law_n" : Str) = some PySem.NameKind.local := by decide +kernel
theorem lk__law_rows_1 : (defScope s__law_rows).names.lookup ("_law_size" : Str) = some PySem.NameKind.local := by decide +kernel
theorem lk__law_rows_2 : (defScope s__law_rows).names.lookup ("_law_rows_here" : Str) = some PySem.NameKind.local := by decide +kernel
theorem lk__law_rows_3 : (defScope s__law_rows).names.lookup ("_law_k" : Str) = some PySem.NameKind.local := by decide +kernel
theorem lk__law_rows_4 : (defScope s__law_rows).names.lookup ("_law_longer" : Str) = some PySem.NameKind.local := by decide +kernel
theorem lk__law_rows_5 : (defScope s__law_rows).names.lookup ("_law_row" : Str) = some PySem.NameKind.cell := by decide +kernel
theorem gk__law_rows_range : (defScope s__law_rows).names.lookup ("range" : Str) = some PySem.NameKind.globalImplicit := by decide +kernel
def sp_rows : Sp := fun vs H Q _ => ∃ (n k : Nat), vs = [.int n, .int k] ∧ n ≤ 6 ∧ k ≤ 6 ∧ ∀ D H', Same H H' → H D = none → Rep H' (.ref D) (.lst ((rowsP n k).map dIs)) → Q (.ref D) H'
theorem ok__law_rows (T : Txt K mg) (F : Fn0 K mg "_law_rows" s__law_rows) : Cal P w K mg base "_law_rows" ["_law_n", "_law_size"] 1 sp_rows := by
  refine cal_of F sc__law_rows (fun _ _ _ _ _ _ us hl => match us, hl with | [_, _], _ => rfl) ?len ?body
  case len => rintro vs H Q E ⟨a, b, rfl, _⟩; rfl
  case body =>
    intro f cdv A outer s H vs Q E hr h
    obtain ⟨n, size, rfl, n6, s6, k⟩ := h
    refine' ⟨_, ?D, ?R⟩
    case D =>
      refine' pss_cons ?g1 ?g2
      case g1 =>
        refine' ps_set1 (i := 2) sc__law_rows.nd rfl lk__law_rows_2 ?g3
        case g3 =>
          refine' pe_lst ?g4
          case g4 =>
            refine' pa_c ?g5 ?g6
            case g5 =>
              refine' pe_lst ?g7
              case g7 => exact pa_nil
            case g6 => exact pa_nil
      case g2 =>
        refine' pss_cons ?g8 ?g9
        case g8 =>
          refine' ps_for PassesOwn.never rfl ?g10 ?g11 ?g12
          case g10 =>
            refine' pi_range1 gk__law_rows_range T.n_range ?g13
            case g13 =>
              refine' pa_c ?g14 ?g15
              case g14 => exact pv1 1 rfl lk__law_rows_1
              case g15 => exact pa_nil
          case g11 => exact pg_name1 (i := 3) sc__law_rows.nd rfl lk__law_rows_3
          case g12 =>
            refine' pss_cons ?g16 ?g17
            case g16 =>
              refine' ps_set1 (i := 4) sc__law_rows.nd rfl lk__law_rows_4 ?g18
              case g18 =>
                refine' pe_lst ?g19
                case g19 => exact pa_nil
            case g17 =>
              refine' pss_cons ?g20 ?g21
              case g20 =>
                refine' ps_for PassesOwn.never rfl ?g22 ?g23 ?g24
                case g22 =>
                  refine' pi_listK (K := K) rfl ?g25
                  case g25 => exact pv1 2 rfl lk__law_rows_2
                case g23 => exact pg_namec (i := 5) sc__law_rows.nd rfl lk__law_rows_5 rfl
                case g24 =>
                  refine' pss_one ?g26
                  case g26 =>
                    refine' ps_set1 (i := 4) sc__law_rows.nd rfl lk__law_rows_4 ?g27
                    case g27 =>
                      refine' pe_op op_cat ?g28 ?g29
                      case g28 => exact pv1 4 rfl lk__law_rows_4
                      case g29 =>
                        refine' pe_comp (N' := ["_law_post", "_law_row"]) (ix := [none, some 5]) rfl rfl (scp_of ?g30) ?g31 (fun _ _ _ => ?g32) (fun _ _ _ => ?g33) (fun _ _ _ => ?g34)
                        case g30 => exact (by show scpB (defScope s__law_rows) ["_law_n", "_law_size", "_law_rows_here", "_law_k", "_law_longer", "_law_row"] _ _ _ = true; decide +kernel)
                        case g31 =>
                          refine' pi_range1 gk__law_rows_range T.n_range ?g35
                          case g35 =>
                            refine' pa_c ?g36 ?g37
                            case g36 => exact pv1 0 rfl lk__law_rows_0
                            case g37 => exact pa_nil
                        case g32 => exact pg_name1 (i := 0) (by show List.Nodup (["_law_post", "_law_row"] : List Str); decide +kernel) rfl rfl
                        case g33 =>
                          refine' pf_one ?g38
                          case g38 =>
                            refine' pt_cmpR (op_notInK (K := K) rfl) ?g39 ?g40 (by with_unfolding_all rfl)
                            case g39 => exact pv1 0 rfl rfl
                            case g40 => exact pvc 1 rfl rfl
                        case g34 =>
                          refine' pe_op op_cat ?g41 ?g42
                          case g41 => exact pvc 1 rfl rfl
                          case g42 =>
                            refine' pe_lst ?g43
                            case g43 =>
                              refine' pa_c ?g44 ?g45
                              case g44 => exact pv1 0 rfl rfl
                              case g45 => exact pa_nil
              case g21 =>
                refine' pss_one ?g46
                case g46 =>
                  refine' ps_set1 (i := 2) sc__law_rows.nd rfl lk__law_rows_2 ?g47
                  case g47 => exact pv1 4 rfl lk__law_rows_4
        case g9 =>
          refine' pss_one ?g48
          case g48 =>
            refine' ps_ret ?g49
            case g49 => exact pv1 2 rfl lk__law_rows_2
    case R =>
      walk_at "rd"
      refine ⟨by decide, fun a na => ⟨by decide, fun b nb => ⟨by omega, by omega, ?_⟩⟩⟩
      rw [show Int.toNat (size : Int) = size by omega]
      have S0 : Same H (upd (upd H a (HO.lst [])) b (HO.lst [V.ref a])) := (Same.new na).trans (Same.new nb)
      have R0 : Rep (upd (upd H a (HO.lst [])) b (HO.lst [V.ref a])) (.ref b) (.lst ([[]].map dIs)) := ⟨b, _, rfl, upd_same, _, _, rfl, ⟨a, [], rfl, (Same.new nb) _ _ upd_same, rfl⟩, rfl⟩
      have nb0 : H b = none := (Same.new na).free nb
      generalize upd (upd H a (HO.lst [])) b (HO.lst [V.ref a]) = H0 at *
      refine go_range (fun i σ H' => ∃ (l : Addr) (e1 e2 e3 : Option V), σ = [some (.int n), some (.int size), some (.ref l), e1, e2, e3] ∧ H l = none ∧ Same H H' ∧ Rep H' (.ref l) (.lst ((rowsP n i).map dIs))) ⟨b, none, none, none, rfl, nb0, S0, R0⟩ ?_ ?_
      · rintro i σ H' hi ⟨l, e1, e2, e3, rfl, nl, s1, rep⟩
        have hi' : i < size := hi
        obtain ⟨b1, b2⟩ := rows_ok n (by omega) i (by omega)
        obtain ⟨b3, _⟩ := rows_ok n (by omega) (i + 1) (by omega)
        have eN : rowsP n (i + 1) = ((rowsP n i).map (nextP n)).flatten := rfl
        rw [eN] at b3 ⊢
        have rl : ∀ r ∈ rowsP n i, r.length = i := fun r hr => of_decide_eq_true (List.all_eq_true.mp b2 r hr)
        generalize rowsP n i = rs at *
        obtain ⟨_, xs, e0, hl0, hxs⟩ := id rep
        cases e0
        have hxl : xs.length = rs.length := by rw [hxs.length, List.length_map]
        walk_at "rd"
        refine ⟨by decide, fun c nc => ?_⟩
        refine ⟨⟨_, .inl (.inl ((Same.new nc) _ _ hl0))⟩, ?_⟩
        refine go_list (xs := xs) (fun j σ H2 => ∃ (c : Addr) (ys : List V) (e1 e3 : Option V), σ = [some (.int n), some (.int size), some (.ref l), e1, some (.ref c), e3] ∧ H c = none ∧ Same H' H2 ∧ H2 c = some (.lst ys) ∧ Reps H2 ys ((((rs.take j).map (nextP n)).flatten).map dIs)) ⟨c, [], _, _, rfl, s1.free nc, Same.new nc, upd_same, rfl⟩ ?_ ?_ ?_
        · rintro j σ H2 hj ⟨c, ys, e1, e3, rfl, nc0, s2, hc, reps⟩
          exact .inl (.inl (s2 _ _ hl0))
        · rintro j x σ H2 hx ⟨c, ys, e1, e3, rfl, nc0, s2, hc, reps⟩
          obtain ⟨q, rfl, hq, hj⟩ := rep_at hxs hx
          have ejr : rs.getD j [] = rs[j] := by rw [List.getD_eq_getElem?_getD, List.getElem?_eq_getElem hj]; rfl
          rw [ejr] at hq
          have rl2 := rl _ (List.getElem_mem hj)
          have tk2 : (rs.take (j + 1)).map (nextP n) = (rs.take j).map (nextP n) ++ [nextP n rs[j]] := by
            rw [List.take_succ, List.getElem?_eq_getElem hj, List.map_append]
            rfl
          have tk : (rs.map (nextP n)).take (j + 1) = (rs.take j).map (nextP n) ++ [nextP n rs[j]] := by rw [← List.map_take]; exact tk2
          have fl := flat_take (rs.map (nextP n)) (j + 1)
          have fl2 : [nextP n rs[j]].flatten = nextP n rs[j] := by simp
          rw [tk, List.flatten_append, List.length_append, fl2] at fl
          rw [tk2, List.flatten_append, fl2, List.map_append]
          have yl : ys.length = ((rs.take j).map (nextP n)).flatten.length := by rw [reps.length, List.length_map]
          have hq2 := s2 _ _ hq
          generalize rs[j] = r at *
          walk_at "rd"
          refine ⟨by omega, by omega, ?_⟩
          rw [show Int.toNat (n : Int) = n by omega]
          refine comp_fltD (n := n) (B := fun _ => none) (Pσ := fun σ => ∃ e, σ = [e, some (.ref q)]) (bs := fun i => !(r.any fun y => decide (y = (i : Int)))) (val := fun i => dIs (r ++ [(i : Int)])) (fun b o e => by cases e) ⟨_, rfl⟩ (by omega) (fun j H2 hj s2 => hj) (fun H2 s2 => Nat.le_refl _) ?_ ?_
          · rintro D i2 y σ' H3 H3' hD ⟨od, hDo⟩ hs3 hi2 ⟨rfl, rfl⟩ ⟨e2, rfl⟩ Y R kY kR
            have hq3 := hs3 _ _ hq2
            walk_at "rd"
            refine ⟨_, .inl (.inl (.inl hq3)), rfl, flat_int r, ?_⟩
            rw [Int.zero_add, any_int]
            cases hb : r.any fun y => decide (y = (i2 : Int)) with
            | false =>
              rw [if_pos rfl]
              refine ⟨by decide, fun p1 n1 => ⟨_, (Same.new n1) _ _ hq3, big_line (by rw [List.length_map]; show r.length + 1 ≤ 100000; omega), fun p2 n2 => kY (by rw [hb]; rfl) _ _ _ ⟨_, rfl⟩ ((Same.new n1).trans (Same.new n2)) (rep_of_isn ?_)⟩⟩
              have p2D : p2 ≠ D := (ne_of_none ((Same.new n1 (o := HO.lst [V.int i2])) _ _ hDo) n2).symm
              rw [cutH_at p2D rfl, upd_same, List.map_append]
              rfl
            | true =>
              rw [if_neg (by decide)]
              exact kR (by rw [hb]; rfl) _ _ ⟨_, rfl⟩ (Same.refl _)
          · intro D H3 hD s3 rep3
            have eM : (nextP n r).map dIs = ((List.range n).filter fun i : Nat => !(r.any fun y => decide (y = (i : Int)))).map fun i : Nat => dIs (r ++ [(i : Int)]) := by
              unfold nextP numI
              rw [List.filter_map, List.map_map, List.map_map]
              rfl
            rw [← eM] at rep3
            obtain ⟨_, zs, e3, hD2, hzs⟩ := id rep3
            cases e3
            have zl : zs.length = (nextP n r).length := by rw [hzs.length, List.length_map]
            obtain ⟨_, hD3⟩ := newH_of hD2
            refine ⟨D, rfl, ys, s3 _ _ hc, zs, hD3, big_line (by omega), fun p5 n5 => ⟨(s1.trans (s2.trans s3)).free n5, (s2.trans s3).trans (Same.new n5), ?_⟩⟩
            exact Reps.append (Reps.mono (s3.trans (Same.new n5)) _ reps) (Reps.mono (fun b o h => (Same.new n5) b o (newH_of h).2) _ hzs)
        · rintro σ H2 ⟨c, ys, e1, e3, rfl, nc0, s2, hc, reps⟩
          rw [List.take_of_length_le (by omega)] at reps
          walk_at "rd"
          exact ⟨nc0, s1.trans s2, c, ys, rfl, hc, reps⟩
      · rintro σ H' ⟨l, e1, e2, e3, rfl, nl, s1, rep⟩
        walk_at "rd"
        exact k l H' s1 nl rep
end Rim46
set_option Elab.async false
set_option linter.all false
set_option maxRecDepth 100000
set_option maxHeartbeats 4000000
namespace Rim46
open PySem PySem.Spec PyProof.Rows PySem.W L2
local macro_rules | `(tactic| walk_at "rd") => `(tactic| first | (dsimp only [tSeq, tAsg, gName, tTup, tLst, tCons, tNil, tVar, tC, tCB, tOp, rI, rI0, tTest, tIfS, tNext, tRet, tRetN, tDrop, tB, tAnd, tOr, tNot, tAndV, tOrV, tNotV, rU, tUn, tBM0, tBM, rBits, tCall, L2.start, rIxTH, rIxLH, rLenH, rEqTH, rEq, rNe, CMul, CMulB, CDivB, CDivF, CPow, List.map_cons, List.map_nil, List.length_cons, List.length_nil, List.replicate, List.cons_append, List.nil_append, List.set_cons_zero, List.set_cons_succ, List.getElem?_cons_zero, List.getElem?_cons_succ, gSub, rSetL, rCat, iRng1, tPar, iList, tComp, pick, tYes, iZip, gTup, gCons, gNil, rSum, rListH, List.map, iRng2, iRngD, tSl, rSlH, tPart, tNoPart, tPar3, tIf, tRev, tLRange, rIxT, rPopAt, tLRev, rExtend, rClear, rSortI, rMinL, rIn, tTest]; try simp only [tSeq, tAsg, gName, tTup, tLst, tCons, tNil, tVar, tC, tCB, tOp, rI, rI0, tTest, tIfS, tNext, tRet, tRetN, tDrop, tB, tAnd, tOr, tNot, tAndV, tOrV, tNotV, rU, tUn, tBM0, tBM, rBits, tCall, L2.start, rIxTH, rIxLH, rLenH, rEqTH, rEq, rNe, scal, tyV, CMul, CMulB, CDivB, CDivF, CPow, List.map_cons, List.map_nil, List.length_cons, List.length_nil, List.replicate, List.cons_append, List.nil_append, List.append_nil, List.set_cons_zero, List.set_cons_succ, List.getElem?_cons_zero, List.getElem?_cons_succ, Option.some.injEq, List.cons.injEq, V.int.injEq, V.bl.injEq, V.str.injEq, V.ref.injEq, V.ty.injEq, HO.tup.injEq, HO.lst.injEq, exists_eq_left, exists_eq_left', exists_and_left, and_assoc, and_true, true_and, upd_same, atI_0, atI_1, atI_2, Nat.zero_add, Nat.reduceAdd, Nat.reduceSub, decide_eq_true_eq, Bool.not_eq_true', decide_eq_false_iff_not, reduceCtorEq, false_or, or_false, true_or, or_true, plainT_int, plainT_bool, plainT_tuple, plainT_list, plainT_str, Bool.false_eq_true, if_false, if_true, Bool.not_false, Bool.not_true, Bool.not_not, gSub, rSetL, ixN_00, upd_upd, rCat, iRng1, tFor_eq, tPar, iList, tComp, pick, tYes, iZip, gTup, gCons, gNil, rSum, rListH, List.map, Option.bind, iRng2, iRngD, tSl, rSlH, tPart, tNoPart, tPar3, tIf, tRev, tLRange, rIxT, rPopAt, tLRev, rExtend, rClear, rSortI, rMinL, rIn, tTest]) | simp only [tSeq, tAsg, gName, tTup, tLst, tCons, tNil, tVar, tC, tCB, tOp, rI, rI0, tTest, tIfS, tNext, tRet, tRetN, tDrop, tB, tAnd, tOr, tNot, tAndV, tOrV, tNotV, rU, tUn, tBM0, tBM, rBits, tCall, L2.start, rIxTH, rIxLH, rLenH, rEqTH, rEq, rNe, scal, tyV, CMul, CMulB, CDivB, CDivF, CPow, List.map_cons, List.map_nil, List.length_cons, List.length_nil, List.replicate, List.cons_append, List.nil_append, List.append_nil, List.set_cons_zero, List.set_cons_succ, List.getElem?_cons_zero, List.getElem?_cons_succ, Option.some.injEq, List.cons.injEq, V.int.injEq, V.bl.injEq, V.str.injEq, V.ref.injEq, V.ty.injEq, HO.tup.injEq, HO.lst.injEq, exists_eq_left, exists_eq_left', exists_and_left, and_assoc, and_true, true_and, upd_same, atI_0, atI_1, atI_2, Nat.zero_add, Nat.reduceAdd, Nat.reduceSub, decide_eq_true_eq, Bool.not_eq_true', decide_eq_false_iff_not, reduceCtorEq, false_or, or_false, true_or, or_true, plainT_int, plainT_bool, plainT_tuple, plainT_list, plainT_str, Bool.false_eq_true, if_false, if_true, Bool.not_false, Bool.not_true, Bool.not_not, gSub, rSetL, ixN_00, upd_upd, rCat, iRng1, tFor_eq, tPar, iList, tComp, pick, tYes, iZip, gTup, gCons, gNil, rSum, rListH, List.map, Option.bind, iRng2, iRngD, tSl, rSlH, tPart, tNoPart, tPar3, tIf, tRev, tLRange, rIxT, rPopAt, tLRev, rExtend, rClear, rSortI, rMinL, rIn, tTest])
variable {P : Program} {w : World} {K : PySem.W.Frag} {mg : Str → Option Value} {base : Heap}
def minP : List Int → Int
  | [] => 0
  | a :: r => match r with
    | [] => a
    | _ :: _ => if a ≤ minP r then a else minP r
theorem min_ok : ∀ (r : List Int), r ≠ [] → minP r ∈ r ∧ ∀ x ∈ r, minP r ≤ x
  | [], h => absurd rfl h
  | [a], _ => ⟨List.mem_singleton.mpr rfl, fun x hx => by rw [List.mem_singleton.mp hx]; exact Int.le_refl _⟩
  | a :: b :: r, _ => by
    obtain ⟨h1, h2⟩ := min_ok (b :: r) (by simp)
    show (if a ≤ minP (b :: r) then a else minP (b :: r)) ∈ a :: b :: r ∧ ∀ x ∈ a :: b :: r, (if a ≤ minP (b :: r) then a else minP (b :: r)) ≤ x
    by_cases h : a ≤ minP (b :: r)
    · rw [if_pos h]
      refine ⟨List.mem_cons_self, fun x hx => ?_⟩
      rcases List.mem_cons.mp hx with e | hx
      · rw [e]; exact Int.le_refl _
      · exact Int.le_trans h (h2 x hx)
    · rw [if_neg h]
      refine ⟨List.mem_cons_of_mem _ h1, fun x hx => ?_⟩
      rcases List.mem_cons.mp hx with e | hx
      · rw [e]; omega
      · exact h2 x hx
theorem min_is {r : List Int} {z : Int} (hz : z ∈ r) (hl : ∀ x ∈ r, z ≤ x) : z = minP r := by
  obtain ⟨h1, h2⟩ := min_ok r (fun e => by rw [e] at hz; cases hz)
  have a := hl _ h1
  have b := h2 _ hz
  omega
def upB : List Int → Bool
  | [] => true
  | a :: r => (r.all fun b => decide (a ≤ b)) && upB r
theorem up_pair : ∀ (r : List Int), upB r = true ↔ r.Pairwise (· ≤ ·)
  | [] => by simp [upB]
  | a :: r => by
    have := up_pair r
    simp [upB, List.all_eq_true, this]
theorem sorted_eq {r zs : List Int} (hp : zs.Perm r) (hz : zs.Pairwise (· ≤ ·)) : decide (r = zs) = upB r := by
  cases h : upB r with
  | true =>
    have hr := (up_pair r).mp h
    refine decide_eq_true ?_
    exact List.Perm.eq_of_pairwise (fun a b _ _ h1 h2 => Int.le_antisymm h1 h2) hr hz hp.symm
  | false =>
    refine decide_eq_false fun e => ?_
    rw [← e] at hz
    rw [(up_pair r).mpr hz] at h
    cases h
def turnP (r : List Int) : Nat := ((List.range r.length).filter fun k => decide (r.getD k 0 = minP r)).headD 0
theorem turn_lt {r : List Int} (h : r ≠ []) : ∃ t, ((List.range r.length).filter fun k => decide (r.getD k 0 = minP r)) = turnP r :: t ∧ turnP r < r.length := by
  obtain ⟨h1, _⟩ := min_ok r h
  obtain ⟨i, hi, e⟩ := List.mem_iff_getElem.mp h1
  have hm : i ∈ (List.range r.length).filter fun k => decide (r.getD k 0 = minP r) := List.mem_filter.mpr ⟨List.mem_range.mpr hi, decide_eq_true (by rw [List.getD_eq_getElem?_getD, List.getElem?_eq_getElem hi]; exact e)⟩
  have ht : turnP r = ((List.range r.length).filter fun k => decide (r.getD k 0 = minP r)).headD 0 := rfl
  cases e2 : (List.range r.length).filter fun k => decide (r.getD k 0 = minP r) with
  | nil => rw [e2] at hm; cases hm
  | cons a t =>
    rw [e2] at ht
    have ha : a ∈ (List.range r.length).filter fun k => decide (r.getD k 0 = minP r) := by rw [e2]; exact List.mem_cons_self
    have := List.mem_range.mp (List.mem_filter.mp ha).1
    exact ⟨t, by rw [ht]; rfl, by rw [ht]; exact this⟩
def sunP (r : List Int) : Bool := upB (r.drop (turnP r) ++ r.take (turnP r))
theorem deps_le {α : Type} {f : α → Dt} {n : Nat} (h : ∀ a, dep (f a) ≤ n) : ∀ l : List α, deps (l.map f) ≤ n
  | [] => Nat.zero_le _
  | a :: l => Nat.max_le.mpr ⟨h a, deps_le h l⟩
theorem dep_dIs (r : List Int) : dep (dIs r) ≤ 1 := Nat.succ_le_succ (deps_le (f := Dt.int) (fun a => by simp [dep]) r)
abbrev s__law_is_sunwise : Stmt := PySem.Challenge.pw_rimread_k46_facing_runs.main.body.getD 8 (.Pass ⟨0, 0, 0, 0⟩)
theorem sc__law_is_sunwise : FnScope ["_law_row", "_law_turned"] ["_law_row"] (defScope s__law_is_sunwise) := ⟨rfl, rfl, rfl, by decide +kernel, rfl, by decide +kernel, by decide +kernel⟩
theorem lk__law_is_sunwise_0 : (defScope s__law_is_sunwise).names.lookup ("_law_row" : Str) = some PySem.NameKind.cell := by decide +kernel
theorem lk__law_is_sunwise_1 : (defScope s__law_is_sunwise).names.lookup ("_law_turned" : Str) = some PySem.NameKind.local := by decide +kernel
theorem gk__law_is_sunwise_len : (defScope s__law_is_sunwise).names.lookup ("len" : Str) = some PySem.NameKind.globalImplicit := by decide +kernel
theorem gk__law_is_sunwise_range : (defScope s__law_is_sunwise).names.lookup ("range" : Str) = some PySem.NameKind.globalImplicit := by decide +kernel
theorem gk__law_is_sunwise_sorted : (defScope s__law_is_sunwise).names.lookup ("sorted" : Str) = some PySem.NameKind.globalImplicit := by decide +kernel
def sp_sun : Sp := fun vs H Q _ => ∃ (v : V) (r : List Int), vs = [v] ∧ Rep H v (dIs r) ∧ r ≠ [] ∧ r.length ≤ 6 ∧ ∀ H', Same H H' → Q (.bl (sunP r)) H'
theorem ok__law_is_sunwise (T : Txt K mg) (F : Fn0 K mg "_law_is_sunwise" s__law_is_sunwise) : Cal P w K mg base "_law_is_sunwise" ["_law_row"] 1 sp_sun := by
  refine cal_of F sc__law_is_sunwise (fun _ _ _ _ _ _ us hl => match us, hl with | [_], _ => rfl) ?len ?body
  case len => rintro vs H Q E ⟨a, b, rfl, _⟩; rfl
  case body =>
    intro f cdv A outer s H vs Q E hr h
    obtain ⟨v, r, rfl, hv, r0, r6, k⟩ := h
    obtain ⟨p, rfl, hp⟩ := rep_isn hv
    refine' ⟨_, ?D, ?R⟩
    case D =>
      refine' pss_cons ?g1 ?g2
      case g1 =>
        refine' ps_set1 (i := 1) sc__law_is_sunwise.nd rfl lk__law_is_sunwise_1 ?g3
        case g3 =>
          refine' pe_ix ix_listH ?g4 ?g5 (fun _ _ => rfl)
          case g4 =>
            refine' pe_comp (N' := ["_law_k", "_law_row"]) (ix := [none, some 0]) rfl rfl (scp_of ?g6) ?g7 (fun _ _ _ => ?g8) (fun _ _ _ => ?g9) (fun _ _ _ => ?g10)
            case g6 => exact (by show scpB (defScope s__law_is_sunwise) ["_law_row", "_law_turned"] _ _ _ = true; decide +kernel)
            case g7 =>
              refine' pi_range1 gk__law_is_sunwise_range T.n_range ?g11
              case g11 =>
                refine' pa_c ?g12 ?g13
                case g12 =>
                  refine' pe_callE call_lenH gk__law_is_sunwise_len T.n_len bt_len ?g14
                  case g14 =>
                    refine' pa_c ?g15 ?g16
                    case g15 => exact pvc 0 rfl lk__law_is_sunwise_0
                    case g16 => exact pa_nil
                case g13 => exact pa_nil
            case g8 => exact pg_name1 (i := 0) (by show List.Nodup (["_law_k", "_law_row"] : List Str); decide +kernel) rfl rfl
            case g9 =>
              refine' pf_one ?g17
              case g17 =>
                refine' pt_cmpR op_eq ?g18 ?g19 (nomark _)
                case g18 =>
                  refine' pe_ix ix_listH ?g20 ?g21 (fun _ _ => rfl)
                  case g20 => exact pvc 1 rfl rfl
                  case g21 => exact pv1 0 rfl rfl
                case g19 =>
                  refine' pe_callE (call_minL rfl) rfl T.n_min bt_min ?g22
                  case g22 =>
                    refine' pa_c ?g23 ?g24
                    case g23 => exact pvc 1 rfl rfl
                    case g24 => exact pa_nil
            case g10 => exact pv1 0 rfl rfl
          case g5 => exact pe_int
      case g2 =>
        refine' pss_cons ?g25 ?g26
        case g25 =>
          refine' ps_setc (i := 0) sc__law_is_sunwise.nd rfl lk__law_is_sunwise_0 rfl ?g27 rfl
          case g27 =>
            refine' pe_op op_cat ?g28 ?g29
            case g28 =>
              refine' pe_slice sl_listH ?g30 ?g31 ?g32
              case g30 => exact pvc 0 rfl lk__law_is_sunwise_0
              case g31 =>
                refine' po_some ?g33
                case g33 => exact pv1 1 rfl lk__law_is_sunwise_1
              case g32 => exact po_none
            case g29 =>
              refine' pe_slice sl_listH ?g34 ?g35 ?g36
              case g34 => exact pvc 0 rfl lk__law_is_sunwise_0
              case g35 => exact po_none
              case g36 =>
                refine' po_some ?g37
                case g37 => exact pv1 1 rfl lk__law_is_sunwise_1
        case g26 =>
          refine' pss_one ?g38
          case g38 =>
            refine' ps_ret ?g39
            case g39 =>
              refine' pe_cmpR (op_eqD (hr.units)) ?g40 ?g41 (nomark _)
              case g40 => exact pvc 0 rfl lk__law_is_sunwise_0
              case g41 =>
                refine' pe_callE call_sortI gk__law_is_sunwise_sorted T.n_sorted bt_sorted ?g42
                case g42 =>
                  refine' pa_c ?g43 ?g44
                  case g43 => exact pvc 0 rfl lk__law_is_sunwise_0
                  case g44 => exact pa_nil
    case R =>
      walk_at "rd"
      refine ⟨_, .inl hp, ?_⟩
      rw [List.length_map]
      refine ⟨by omega, by omega, ?_⟩
      rw [show Int.toNat (r.length : Int) = r.length by omega]
      refine comp_fltD (n := r.length) (B := fun _ => none) (Pσ := fun σ => ∃ e, σ = [e, some (.ref p)]) (bs := fun i => decide (r.getD i 0 = minP r)) (val := fun i => Dt.int (i : Int)) (fun b o e => by cases e) ⟨_, rfl⟩ (by omega) (fun j H2 hj s2 => hj) (fun H2 s2 => Nat.le_refl _) ?_ ?_
      · rintro D i y σ' H3 H3' hD ⟨od, hDo⟩ hs3 hi ⟨rfl, rfl⟩ ⟨e2, rfl⟩ Y R kY kR
        have hp3 := hs3 _ _ hp
        walk_at "rd"
        have hrl : 0 < r.length := List.length_pos_iff.mpr r0
        refine ⟨_, hp3, V.int (r.getD i 0), ?_, r, hp3, hrl, fun z hz hl => ⟨rfl, ?_⟩⟩
        · rw [Int.zero_add]
          refine atI_nn (by omega) ?_
          rw [Int.toNat_natCast, List.getElem?_map, List.getElem?_eq_getElem hi, List.getD_eq_getElem?_getD, List.getElem?_eq_getElem hi]
          rfl
        · rw [min_is hz hl, Int.zero_add]
          by_cases hc : r.getD i 0 = minP r
          · rw [if_pos (by rw [hc])]
            exact kY (decide_eq_true hc) _ _ _ ⟨_, rfl⟩ (Same.refl _) rfl
          · rw [if_neg (fun e => hc (V.int.inj e))]
            exact kR (decide_eq_false hc) _ _ ⟨_, rfl⟩ (Same.refl _)
      · intro D H1 hD s1 rep1
        obtain ⟨t, et, tl⟩ := turn_lt r0
        rw [et] at rep1
        obtain ⟨_, zs, e3, hD1, hzs⟩ := id rep1
        cases e3
        obtain ⟨_, hD2⟩ := newH_of hD1
        obtain ⟨x, zs', rfl, hx, _⟩ := id hzs
        cases hx
        have hp1 := s1 _ _ hp
        have c1 : cutV (r.map V.int) (some ((turnP r : Nat) : Int)) none = (r.drop (turnP r)).map V.int := by rw [cut_from _ _ (by simp; omega), List.map_drop]
        have c2 : cutV (r.map V.int) none (some ((turnP r : Nat) : Int)) = (r.take (turnP r)).map V.int := by rw [cut_to _ _ (by simp; omega), List.map_take]
        refine ⟨D, rfl, _, hD2, _, atI_0, _, rfl, _, hp1, fun p2 n2 => ⟨_, rfl, _, (Same.new n2) _ _ hp1, fun p3 n3 => ?_⟩⟩
        rw [c1] at n3 ⊢
        rw [c2]
        have S3 := (Same.new n2).trans (Same.new n3 (o := HO.lst ((r.take (turnP r)).map V.int)))
        refine ⟨_, (Same.new n3) _ _ upd_same, big_line (by simp; omega), fun p4 n4 => ⟨r.drop (turnP r) ++ r.take (turnP r), by simp, by simp; omega, fun l zs n5 pm pw => ?_⟩⟩
        rw [← List.map_append] at n5 ⊢
        have S5 := (s1.trans S3).trans ((Same.new n4).trans (Same.new n5 (o := HO.lst (zs.map V.int))))
        refine ⟨p4, l, dIs (r.drop (turnP r) ++ r.take (turnP r)), dIs zs, _, rfl, rfl, rep_of_isn ((Same.new n5) _ _ upd_same), rep_of_isn upd_same, deq_ints _ _, Nat.le_trans (dep_dIs _) (by decide), ?_⟩
        rw [sorted_eq pm pw]
        exact k _ S5
end Rim46
set_option Elab.async false
set_option linter.all false
set_option maxRecDepth 100000
set_option maxHeartbeats 4000000
namespace Rim46
open PySem PySem.Spec PyProof.Rows PySem.W L2
local macro_rules | `(tactic| walk_at "rd") => `(tactic| first | (dsimp only [tSeq, tAsg, gName, tTup, tLst, tCons, tNil, tVar, tC, tCB, tOp, rI, rI0, tTest, tIfS, tNext, tRet, tRetN, tDrop, tB, tAnd, tOr, tNot, tAndV, tOrV, tNotV, rU, tUn, tBM0, tBM, rBits, tCall, L2.start, rIxTH, rIxLH, rLenH, rEqTH, rEq, rNe, CMul, CMulB, CDivB, CDivF, CPow, List.map_cons, List.map_nil, List.length_cons, List.length_nil, List.replicate, List.cons_append, List.nil_append, List.set_cons_zero, List.set_cons_succ, List.getElem?_cons_zero, List.getElem?_cons_succ, gSub, rSetL, rCat, iRng1, tPar, iList, tComp, pick, tYes, iZip, gTup, gCons, gNil, rSum, rListH, List.map, iRng2, iRngD, tSl, rSlH, tPart, tNoPart, tPar3, tIf, tRev, tLRange, rIxT, rPopAt, tLRev, rExtend, rClear, rSortI, rMinL, rIn, tTest]; try simp only [tSeq, tAsg, gName, tTup, tLst, tCons, tNil, tVar, tC, tCB, tOp, rI, rI0, tTest, tIfS, tNext, tRet, tRetN, tDrop, tB, tAnd, tOr, tNot, tAndV, tOrV, tNotV, rU, tUn, tBM0, tBM, rBits, tCall, L2.start, rIxTH, rIxLH, rLenH, rEqTH, rEq, rNe, scal, tyV, CMul, CMulB, CDivB, CDivF, CPow, List.map_cons, List.map_nil, List.length_cons, List.length_nil, List.replicate, List.cons_append, List.nil_append, List.append_nil, List.set_cons_zero, List.set_cons_succ, List.getElem?_cons_zero, List.getElem?_cons_succ, Option.some.injEq, List.cons.injEq, V.int.injEq, V.bl.injEq, V.str.injEq, V.ref.injEq, V.ty.injEq, HO.tup.injEq, HO.lst.injEq, exists_eq_left, exists_eq_left', exists_and_left, and_assoc, and_true, true_and, upd_same, atI_0, atI_1, atI_2, Nat.zero_add, Nat.reduceAdd, Nat.reduceSub, decide_eq_true_eq, Bool.not_eq_true', decide_eq_false_iff_not, reduceCtorEq, false_or, or_false, true_or, or_true, plainT_int, plainT_bool, plainT_tuple, plainT_list, plainT_str, Bool.false_eq_true, if_false, if_true, Bool.not_false, Bool.not_true, Bool.not_not, gSub, rSetL, ixN_00, upd_upd, rCat, iRng1, tFor_eq, tPar, iList, tComp, pick, tYes, iZip, gTup, gCons, gNil, rSum, rListH, List.map, Option.bind, iRng2, iRngD, tSl, rSlH, tPart, tNoPart, tPar3, tIf, tRev, tLRange, rIxT, rPopAt, tLRev, rExtend, rClear, rSortI, rMinL, rIn, tTest]) | simp only [tSeq, tAsg, gName, tTup, tLst, tCons, tNil, tVar, tC, tCB, tOp, rI, rI0, tTest, tIfS, tNext, tRet, tRetN, tDrop, tB, tAnd, tOr, tNot, tAndV, tOrV, tNotV, rU, tUn, tBM0, tBM, rBits, tCall, L2.start, rIxTH, rIxLH, rLenH, rEqTH, rEq, rNe, scal, tyV, CMul, CMulB, CDivB, CDivF, CPow, List.map_cons, List.map_nil, List.length_cons, List.length_nil, List.replicate, List.cons_append, List.nil_append, List.append_nil, List.set_cons_zero, List.set_cons_succ, List.getElem?_cons_zero, List.getElem?_cons_succ, Option.some.injEq, List.cons.injEq, V.int.injEq, V.bl.injEq, V.str.injEq, V.ref.injEq, V.ty.injEq, HO.tup.injEq, HO.lst.injEq, exists_eq_left, exists_eq_left', exists_and_left, and_assoc, and_true, true_and, upd_same, atI_0, atI_1, atI_2, Nat.zero_add, Nat.reduceAdd, Nat.reduceSub, decide_eq_true_eq, Bool.not_eq_true', decide_eq_false_iff_not, reduceCtorEq, false_or, or_false, true_or, or_true, plainT_int, plainT_bool, plainT_tuple, plainT_list, plainT_str, Bool.false_eq_true, if_false, if_true, Bool.not_false, Bool.not_true, Bool.not_not, gSub, rSetL, ixN_00, upd_upd, rCat, iRng1, tFor_eq, tPar, iList, tComp, pick, tYes, iZip, gTup, gCons, gNil, rSum, rListH, List.map, Option.bind, iRng2, iRngD, tSl, rSlH, tPart, tNoPart, tPar3, tIf, tRev, tLRange, rIxT, rPopAt, tLRev, rExtend, rClear, rSortI, rMinL, rIn, tTest])
variable {P : Program} {w : World} {K : PySem.W.Frag} {mg : Str → Option Value} {base : Heap}
def goodB (c : Nat) (r : List Int) : Bool := ((r.take c).any fun y => decide (y = minP r)) && sunP r
def pairP (c : Nat) (r : List Int) : List Int × List Int := (r.take c, (r.drop c).reverse)
def hereP (n c : Nat) : List (List Int × List Int) := ((rowsP n (2 * c)).filter (goodB c)).map (pairP c)
def dueP (n : Nat) : List (List Int × List Int) := ((List.range (n / 2)).map fun c => sortP (hereP n (c + 1))).flatten
theorem here_ok : ∀ n, n < 7 → ∀ c, c < 4 → 1 ≤ c → c ≤ n / 2 → 1 ≤ (hereP n c).length ∧ (hereP n c).length < 64 := by decide +kernel
theorem face_due : ∀ n, n < 7 → faceP n = dueP n := by decide +kernel
abbrev s__law_due : Stmt := PySem.Challenge.pw_rimread_k46_facing_runs.main.body.getD 9 (.Pass ⟨0, 0, 0, 0⟩)
theorem sc__law_due : FnScope ["_law_n", "_law_due_here", "_law_size", "_law_here", "_law_row"] ["_law_n"] (defScope s__law_due) := ⟨rfl, rfl, rfl, by decide +kernel, rfl, by decide +kernel, by decide +kernel⟩
theorem lk__law_due_0 : (defScope s__law_due).names.lookup ("_law_n" : Str) = some PySem.NameKind.local := by decide +kernel
theorem lk__law_due_1 : (defScope s__law_due).names.lookup ("_law_due_here" : Str) = some PySem.NameKind.local := by decide +kernel
theorem lk__law_due_2 : (defScope s__law_due).names.lookup ("_law_size" : Str) = some PySem.NameKind.local := by decide +kernel
theorem lk__law_due_3 : (defScope s__law_due).names.lookup ("_law_here" : Str) = some PySem.NameKind.local := by decide +kernel
theorem lk__law_due_4 : (defScope s__law_due).names.lookup ("_law_row" : Str) = some PySem.NameKind.local := by decide +kernel
theorem gk__law_due__law_is_sunwise : (defScope s__law_due).names.lookup ("_law_is_sunwise" : Str) = some PySem.NameKind.globalImplicit := by decide +kernel
theorem gk__law_due__law_rows : (defScope s__law_due).names.lookup ("_law_rows" : Str) = some PySem.NameKind.globalImplicit := by decide +kernel
theorem gk__law_due_min : (defScope s__law_due).names.lookup ("min" : Str) = some PySem.NameKind.globalImplicit := by decide +kernel
theorem gk__law_due_range : (defScope s__law_due).names.lookup ("range" : Str) = some PySem.NameKind.globalImplicit := by decide +kernel
theorem gk__law_due_sorted : (defScope s__law_due).names.lookup ("sorted" : Str) = some PySem.NameKind.globalImplicit := by decide +kernel
def sp_due : Sp := fun vs H Q _ => ∃ (n : Nat), vs = [.int n] ∧ 1 ≤ n ∧ n ≤ 6 ∧ ∀ D H', Same H H' → Rep H' (.ref D) (.lst ((dueP n).map dPr)) → Q (.ref D) H'
theorem ok__law_due (T : Txt K mg) (F : Fn0 K mg "_law_due" s__law_due) (C__law_rows : Cal P w K mg base "_law_rows" ["_law_n", "_law_size"] 1 sp_rows) (C__law_is_sunwise : Cal P w K mg base "_law_is_sunwise" ["_law_row"] 1 sp_sun) : Cal P w K mg base "_law_due" ["_law_n"] 2 sp_due := by
  refine cal_of F sc__law_due (fun _ _ _ _ _ _ us hl => match us, hl with | [_], _ => rfl) ?len ?body
  case len => rintro vs H Q E ⟨a, rfl, _⟩; rfl
  case body =>
    intro f cdv A outer s H vs Q E hr h
    obtain ⟨n, rfl, n1, n6, k⟩ := h
    refine' ⟨_, ?D, ?R⟩
    case D =>
      refine' pss_cons ?g1 ?g2
      case g1 =>
        refine' ps_set1 (i := 1) sc__law_due.nd rfl lk__law_due_1 ?g3
        case g3 =>
          refine' pe_lst ?g4
          case g4 => exact pa_nil
      case g2 =>
        refine' pss_cons ?g5 ?g6
        case g5 =>
          refine' ps_for PassesOwn.never rfl ?g7 ?g8 ?g9
          case g7 =>
            refine' pi_range2 gk__law_due_range T.n_range ?g10
            case g10 =>
              refine' pa_c ?g11 ?g12
              case g11 => exact pe_int
              case g12 =>
                refine' pa_c ?g13 ?g14
                case g13 =>
                  refine' pe_op op_add ?g15 ?g16
                  case g15 =>
                    refine' pe_op op_fdivB ?g17 ?g18
                    case g17 => exact pv1 0 rfl lk__law_due_0
                    case g18 => exact pe_int
                  case g16 => exact pe_int
                case g14 => exact pa_nil
          case g8 => exact pg_name1 (i := 2) sc__law_due.nd rfl lk__law_due_2
          case g9 =>
            refine' pss_cons ?g19 ?g20
            case g19 =>
              refine' ps_set1 (i := 3) sc__law_due.nd rfl lk__law_due_3 ?g21
              case g21 =>
                refine' pe_lst ?g22
                case g22 => exact pa_nil
            case g20 =>
              refine' pss_cons ?g23 ?g24
              case g23 =>
                refine' ps_for PassesOwn.never rfl ?g25 ?g26 ?g27
                case g25 =>
                  refine' pi_listK (K := K) rfl ?g28
                  case g28 =>
                    refine' pe_callD C__law_rows (hr.mono (by decide)) gk__law_due__law_rows ?g29
                    case g29 =>
                      refine' pa_c ?g30 ?g31
                      case g30 => exact pv1 0 rfl lk__law_due_0
                      case g31 =>
                        refine' pa_c ?g32 ?g33
                        case g32 =>
                          refine' pe_op op_mul ?g34 ?g35
                          case g34 => exact pe_int
                          case g35 => exact pv1 2 rfl lk__law_due_2
                        case g33 => exact pa_nil
                case g26 => exact pg_name1 (i := 4) sc__law_due.nd rfl lk__law_due_4
                case g27 =>
                  refine' pss_one ?g36
                  case g36 =>
                    refine' ps_if ?g37 ?g38 ?g39
                    case g37 =>
                      refine' PW.pt ?g40
                      case g40 =>
                        refine' pw_and ?g41 ?g42
                        case g41 =>
                          refine' pt_cmpR (op_inK (K := K) rfl) ?g43 ?g44 (by with_unfolding_all rfl)
                          case g43 =>
                            refine' pe_callE (call_minL rfl) gk__law_due_min T.n_min bt_min ?g45
                            case g45 =>
                              refine' pa_c ?g46 ?g47
                              case g46 => exact pv1 4 rfl lk__law_due_4
                              case g47 => exact pa_nil
                          case g44 =>
                            refine' pe_slice sl_listH ?g48 ?g49 ?g50
                            case g48 => exact pv1 4 rfl lk__law_due_4
                            case g49 => exact po_none
                            case g50 =>
                              refine' po_some ?g51
                              case g51 => exact pv1 2 rfl lk__law_due_2
                        case g42 =>
                          refine' pw_and1 ?g52
                          case g52 =>
                            refine' pt_val ?g53
                            case g53 =>
                              refine' pe_callD C__law_is_sunwise (hr.mono (by decide)) gk__law_due__law_is_sunwise ?g54
                              case g54 =>
                                refine' pa_c ?g55 ?g56
                                case g55 => exact pv1 4 rfl lk__law_due_4
                                case g56 => exact pa_nil
                    case g38 =>
                      refine' pss_one ?g57
                      case g57 =>
                        refine' ps_expr1 ?g58
                        case g58 =>
                          refine' pe_bm PySem.F.plainAttrs_list PySem.F.slot_list_append PySem.F.type_list_append mt_append ?g59 ?g60
                          case g59 => exact pv1 3 rfl lk__law_due_3
                          case g60 =>
                            refine' pa_c ?g61 ?g62
                            case g61 =>
                              refine' pe_tup ?g63
                              case g63 =>
                                refine' pa_c ?g64 ?g65
                                case g64 =>
                                  refine' pe_slice sl_listH ?g66 ?g67 ?g68
                                  case g66 => exact pv1 4 rfl lk__law_due_4
                                  case g67 => exact po_none
                                  case g68 =>
                                    refine' po_some ?g69
                                    case g69 => exact pv1 2 rfl lk__law_due_2
                                case g65 =>
                                  refine' pa_c ?g70 ?g71
                                  case g70 =>
                                    refine' pe_rev ?g72 (po_some ?g73)
                                    case g72 =>
                                      refine' pe_slice sl_listH ?g74 ?g75 ?g76
                                      case g74 => exact pv1 4 rfl lk__law_due_4
                                      case g75 =>
                                        refine' po_some ?g77
                                        case g77 => exact pv1 2 rfl lk__law_due_2
                                      case g76 => exact po_none
                                    case g73 =>
                                      refine' pe_un un_neg ?g78
                                      case g78 => exact pe_int
                                  case g71 => exact pa_nil
                            case g62 => exact pa_nil
                    case g39 => exact pss_nil
              case g24 =>
                refine' pss_one ?g79
                case g79 =>
                  refine' ps_set1 (i := 1) sc__law_due.nd rfl lk__law_due_1 ?g80
                  case g80 =>
                    refine' pe_op op_cat ?g81 ?g82
                    case g81 => exact pv1 1 rfl lk__law_due_1
                    case g82 =>
                      refine' pe_callE (CallR.or call_sort1 (call_sortP hr.units)) gk__law_due_sorted T.n_sorted bt_sorted ?g83
                      case g83 =>
                        refine' pa_c ?g84 ?g85
                        case g84 => exact pv1 3 rfl lk__law_due_3
                        case g85 => exact pa_nil
        case g6 =>
          refine' pss_one ?g86
          case g86 =>
            refine' ps_ret ?g87
            case g87 => exact pv1 1 rfl lk__law_due_1
    case R =>
      walk_at "rd"
      refine ⟨by decide, fun l nl => ?_⟩
      refine ⟨by decide, by decide +kernel, by decide, by omega, by omega, by omega, ?_⟩
      rw [show Int.toNat ((n : Int) / 2 + 1 - 1) = n / 2 by omega]
      refine go_range (fun i σ H' => ∃ (l : Addr) (e2 e3 e4 : Option V) (zs : List V), σ = [some (.int n), some (.ref l), e2, e3, e4] ∧ Same H H' ∧ H' l = some (.lst zs) ∧ Reps H' zs (((List.range i).map fun c => sortP (hereP n (c + 1))).flatten.map dPr) ∧ zs.length ≤ 100 * i) ⟨l, none, none, none, [], rfl, Same.new nl, upd_same, rfl, by simp⟩ ?_ ?_
      · rintro i σ H' hi ⟨l, e2, e3, e4, zs, rfl, s1, hl1, reps, zl⟩
        have hi' : i < n / 2 := hi
        walk_at "rd"
        refine ⟨Nat.zero_le _, fun a na => ⟨.inl ⟨by decide, by decide⟩, ?_⟩⟩
        have ha2 := upd_same (H := H') (a := a) (o := HO.lst [])
        have S12 : Same H' (upd H' a (HO.lst [])) := Same.new na
        generalize upd H' a (HO.lst []) = H2 at *
        rw [show (2 : Int) * (1 + (i : Nat)) = ((2 * (i + 1) : Nat) : Int) by omega]
        refine ⟨n, 2 * (i + 1), rfl, by omega, by omega, fun R H3 s3 nR repR => ?_⟩
        obtain ⟨_, xs, e0, hR, hxs⟩ := id repR
        cases e0
        have ha3 := s3 _ _ ha2
        have Ra : R ≠ a := (ne_of_none ha2 nR).symm
        refine ⟨R, rfl, ⟨_, .inl (.inl hR)⟩, ?_⟩
        obtain ⟨ok1, ok2⟩ := here_ok n (by omega) (i + 1) (by omega) (by omega) (by omega)
        have al : hereP n (i + 1) = ((rowsP n (2 * (i + 1))).filter (goodB (i + 1))).map (pairP (i + 1)) := rfl
        have rl : ∀ r ∈ rowsP n (2 * (i + 1)), r.length = 2 * (i + 1) := fun r hr => of_decide_eq_true (List.all_eq_true.mp (rows_ok n (by omega) (2 * (i + 1)) (by omega)).2 r hr)
        have rsl : (rowsP n (2 * (i + 1))).length ≤ 1000 := (rows_ok n (by omega) (2 * (i + 1)) (by omega)).1
        generalize rowsP n (2 * (i + 1)) = rs at *
        have hxl : xs.length = rs.length := by rw [hxs.length, List.length_map]
        refine go_list (xs := xs) (fun j σ H'' => ∃ (e5 : Option V) (ws : List V), σ = [some (.int n), some (.ref l), some (.int (1 + (i : Nat))), some (.ref a), e5] ∧ (∀ b o, b ≠ a → H3 b = some o → H'' b = some o) ∧ H'' a = some (.lst ws) ∧ Reps (cutH H' a H'') ws ((((rs.take j).filter (goodB (i + 1))).map (pairP (i + 1))).map dPr)) ⟨_, [], rfl, fun _ _ _ h => h, ha3, rfl⟩ ?_ ?_ ?_
        · rintro j σ H'' hj ⟨e5, ws, rfl, k3, ha4, reps4⟩
          exact .inl (.inl (k3 R _ Ra hR))
        · rintro j x σ H'' hx ⟨e5, ws, rfl, k3, ha4, reps4⟩
          obtain ⟨q, rfl, hq, hj⟩ := rep_at hxs hx
          have ejr : rs.getD j [] = rs[j] := by rw [List.getD_eq_getElem?_getD, List.getElem?_eq_getElem hj]; rfl
          rw [ejr] at hq
          have nl4 : (rs[j]).length = 2 * (i + 1) := rl _ (List.getElem_mem _)
          have qa : q ≠ a := fun e => by
            rw [e, ha3] at hq
            have z := congrArg List.length (HO.lst.inj (Option.some.inj hq))
            simp at z
            omega
          have hq4 := k3 q _ qa hq
          have k1 : Same H' H'' := fun b o hb => k3 b o (ne_of_none hb na) (s3 _ _ (S12 _ _ hb))
          have tk2 : (rs.take (j + 1)).filter (goodB (i + 1)) = (rs.take j).filter (goodB (i + 1)) ++ [rs[j]].filter (goodB (i + 1)) := by
            rw [List.take_succ, List.getElem?_eq_getElem hj, List.filter_append]
            rfl
          rw [tk2]
          have wl : ws.length ≤ rs.length := by
            rw [reps4.length, List.length_map, List.length_map]
            have := List.length_filter_le (goodB (i + 1)) (rs.take j)
            rw [List.length_take] at this
            omega
          generalize rs[j] = r at *
          have r0 : r ≠ [] := fun e => by rw [e] at nl4; simp at nl4
          have gB : goodB (i + 1) r = (((r.take (i + 1)).any fun y => decide (y = minP r)) && sunP r) := rfl
          have stay : ∀ {Hx : Hp}, goodB (i + 1) r = false → Same H'' Hx → (∀ (b : Addr) (o : HO), b ≠ a → H3 b = some o → Hx b = some o) ∧ ∃ x, Hx a = some (HO.lst x) ∧ Reps (cutH H' a Hx) x ((((rs.take j).filter (goodB (i + 1)) ++ [r].filter (goodB (i + 1))).map (pairP (i + 1))).map dPr) := fun {Hx} hg sx => by
            refine ⟨fun b o hb h => sx _ _ (k3 b o hb h), ws, sx _ _ ha4, ?_⟩
            have e : [r].filter (goodB (i + 1)) = [] := by simp [hg]
            rw [e, List.append_nil]
            exact Reps.mono (cutH_mono sx) _ reps4
          walk_at "rd"
          refine ⟨r, hq4, by omega, fun z hz hle => ?_⟩
          rw [min_is hz hle]
          have c1 : cutV (r.map V.int) none (some (1 + (i : Int))) = (r.take (i + 1)).map V.int := by rw [show (1 + (i : Int)) = ((i + 1 : Nat) : Int) by omega, cut_to _ _ (by simp; omega), List.map_take]
          have c2 : cutV (r.map V.int) (some (1 + (i : Int))) none = (r.drop (i + 1)).map V.int := by rw [show (1 + (i : Int)) = ((i + 1 : Nat) : Int) by omega, cut_from _ _ (by simp; omega), List.map_drop]
          refine ⟨_, hq4, fun p5 n5 => ?_⟩
          rw [c1]
          refine ⟨_, .inl (.inl (.inl upd_same)), rfl, flat_int _, ?_⟩
          rw [any_int]
          have S5 : Same H'' (upd H'' p5 (HO.lst ((r.take (i + 1)).map V.int))) := Same.new n5
          generalize upd H'' p5 (HO.lst ((r.take (i + 1)).map V.int)) = H5 at *
          refine ite2 (fun ht => ?_) (fun ht => ?_)
          · refine ⟨.ref q, r, rfl, rep_of_isn (S5 _ _ hq4), r0, by omega, fun H6 s6 => ⟨_, rfl, ?_⟩⟩
            have S6 := S5.trans s6
            refine ite2 (fun hs => ?_) (fun hs => ?_)
            · have hq6 := S6 _ _ hq4
              refine ⟨.inl ⟨_, .inl (.inl (S6 _ _ ha4))⟩, _, hq6, fun p8 n8 => ⟨_, (Same.new n8) _ _ hq6, fun p9 n9 p10 n10 => ⟨by decide, fun p11 n11 => ?_⟩⟩⟩
              rw [c1] at n9 n10 n11 ⊢
              rw [c2] at n10 n11 ⊢
              have e10 : ((r.drop (i + 1)).map V.int).reverse = (pairP (i + 1) r).2.map V.int := by rw [← List.map_reverse]; rfl
              rw [e10] at n11 ⊢
              have S7 : Same H' H6 := k1.trans S6
              have S8 : Same H' (upd H6 p8 (HO.lst ((r.take (i + 1)).map V.int))) := S7.trans (Same.new n8)
              have f8 : H' p8 = none := S7.free n8
              have S8t : Same H6 (upd H6 p8 (HO.lst ((r.take (i + 1)).map V.int))) := Same.new n8
              have h8 := upd_same (H := H6) (a := p8) (o := HO.lst ((r.take (i + 1)).map V.int))
              generalize upd H6 p8 (HO.lst ((r.take (i + 1)).map V.int)) = H8 at *
              have S9 : Same H' (upd H8 p9 (HO.lst ((r.drop (i + 1)).map V.int))) := S8.trans (Same.new n9)
              have S9t : Same H6 (upd H8 p9 (HO.lst ((r.drop (i + 1)).map V.int))) := S8t.trans (Same.new n9)
              have h8' := (Same.new n9 (o := HO.lst ((r.drop (i + 1)).map V.int))) _ _ h8
              generalize upd H8 p9 (HO.lst ((r.drop (i + 1)).map V.int)) = H9 at *
              have f10 : H' p10 = none := S9.free n10
              have S10 : Same H' (upd H9 p10 (HO.lst ((pairP (i + 1) r).2.map V.int))) := S9.trans (Same.new n10)
              have S10t : Same H6 (upd H9 p10 (HO.lst ((pairP (i + 1) r).2.map V.int))) := S9t.trans (Same.new n10)
              have h10 := upd_same (H := H9) (a := p10) (o := HO.lst ((pairP (i + 1) r).2.map V.int))
              have h8'' := (Same.new n10 (o := HO.lst ((pairP (i + 1) r).2.map V.int))) _ _ h8'
              generalize upd H9 p10 (HO.lst ((pairP (i + 1) r).2.map V.int)) = H10 at *
              have f11 : H' p11 = none := S10.free n11
              have S11 : Same H' (upd H10 p11 (HO.tup [V.ref p8, V.ref p10])) := S10.trans (Same.new n11)
              have S11t : Same H6 (upd H10 p11 (HO.tup [V.ref p8, V.ref p10])) := S10t.trans (Same.new n11)
              have h11 := upd_same (H := H10) (a := p11) (o := HO.tup [V.ref p8, V.ref p10])
              have h10' := (Same.new n11 (o := HO.tup [V.ref p8, V.ref p10])) _ _ h10
              have h8r := (Same.new n11 (o := HO.tup [V.ref p8, V.ref p10])) _ _ h8''
              generalize upd H10 p11 (HO.tup [V.ref p8, V.ref p10]) = H11 at *
              have S12t : Same H'' H11 := S6.trans S11t
              have fr : ∀ {b : Addr}, H' b = none → ∀ {Hy : Hp}, H'' b = none → b ≠ a := fun {b} _ _ hb e => by rw [e, ha4] at hb; cases hb
              have n8'' : H'' p8 = none := S6.free n8
              have n11'' : H'' p11 = none := (S6.trans S10t).free n11
              have n10'' : H'' p10 = none := (S6.trans S9t).free n10
              have gt : goodB (i + 1) r = true := by rw [gB, ht, hs]; rfl
              have e12 : [r].filter (goodB (i + 1)) = [r] := by simp [gt]
              refine ⟨a, ws, .ref p11, rfl, rfl, S12t _ _ ha4, small1000 (by omega), fun b o hb h => ?_, ws ++ [.ref p11], upd_same, ?_⟩
              · rw [upd_ne hb]
                exact S12t _ _ (k3 b o hb h)
              · rw [cutH_upd, e12, List.map_append, List.map_append]
                have na8 : p8 ≠ a := (ne_of_none ha4 n8'').symm
                have na10 : p10 ≠ a := (ne_of_none ha4 n10'').symm
                have na11 : p11 ≠ a := (ne_of_none ha4 n11'').symm
                refine Reps.append (Reps.mono (cutH_mono S12t) _ reps4) ⟨_, _, rfl, ⟨p11, _, rfl, by rw [cutH_at na11 f11]; exact h11, _, _, rfl, rep_of_isn (by rw [cutH_at na8 f8]; exact h8r), _, _, rfl, rep_of_isn (by rw [cutH_at na10 f10]; exact h10'), rfl⟩, rfl⟩
            · exact stay (by rw [gB, ht]; simpa using hs) S6
          · exact stay (by rw [gB]; simp only [Bool.not_eq_true] at ht; rw [ht]; rfl) S5
        · rintro σ H'' ⟨e5, ws, rfl, k3, ha4, reps4⟩
          rw [List.take_of_length_le (by omega), ← al] at reps4
          have k1 : Same H' H'' := fun b o hb => k3 b o (ne_of_none hb na) (s3 _ _ (S12 _ _ hb))
          walk_at "rd"
          refine sort_ok cutH_same ha4 reps4 ok1 ok2 fun D5 us n5 hus ul => ?_
          have zl2 : zs.length + us.length ≤ 100 * (i + 1) := by omega
          refine ⟨D5, rfl, zs, (Same.new n5) _ _ (k1 _ _ hl1), us, upd_same, big_line (by omega), fun p6 n6 => ⟨((s1.trans k1).trans (Same.new n5)).trans (Same.new n6), ?_, by rw [List.length_append]; exact zl2⟩⟩
          have f1 : [sortP (hereP n (i + 1))].flatten = sortP (hereP n (i + 1)) := by simp
          rw [List.range_succ, List.map_append, List.flatten_append, List.map_append, List.map_cons, List.map_nil, f1]
          exact Reps.append (Reps.mono (k1.trans ((Same.new n5).trans (Same.new n6))) _ reps) (Reps.mono (cutH_same.trans ((Same.new n5).trans (Same.new n6))) _ hus)
      · rintro σ H' ⟨l, e2, e3, e4, zs, rfl, s1, hl1, reps, zl⟩
        walk_at "rd"
        exact k l H' s1 ⟨l, zs, rfl, hl1, reps⟩
end Rim46
set_option Elab.async false
set_option linter.all false
set_option maxRecDepth 100000
set_option maxHeartbeats 4000000
namespace Rim46
open PySem PySem.Spec PyProof.Rows PySem.W L2
local macro_rules | `(tactic| walk_at "rd") => `(tactic| first | (dsimp only [tSeq, tAsg, gName, tTup, tLst, tCons, tNil, tVar, tC, tCB, tOp, rI, rI0, tTest, tIfS, tNext, tRet, tRetN, tDrop, tB, tAnd, tOr, tNot, tAndV, tOrV, tNotV, rU, tUn, tBM0, tBM, rBits, tCall, L2.start, rIxTH, rIxLH, rLenH, rEqTH, rEq, rNe, CMul, CMulB, CDivB, CDivF, CPow, List.map_cons, List.map_nil, List.length_cons, List.length_nil, List.replicate, List.cons_append, List.nil_append, List.set_cons_zero, List.set_cons_succ, List.getElem?_cons_zero, List.getElem?_cons_succ, gSub, rSetL, rCat, iRng1, tPar, iList, tComp, pick, tYes, iZip, gTup, gCons, gNil, rSum, rListH, List.map, iRng2, iRngD, tSl, rSlH, tPart, tNoPart, tPar3, tIf, tRev, tLRange, rIxT, rPopAt, tLRev, rExtend, rClear, rSortI, rMinL, rIn, tTest]; try simp only [tSeq, tAsg, gName, tTup, tLst, tCons, tNil, tVar, tC, tCB, tOp, rI, rI0, tTest, tIfS, tNext, tRet, tRetN, tDrop, tB, tAnd, tOr, tNot, tAndV, tOrV, tNotV, rU, tUn, tBM0, tBM, rBits, tCall, L2.start, rIxTH, rIxLH, rLenH, rEqTH, rEq, rNe, scal, tyV, CMul, CMulB, CDivB, CDivF, CPow, List.map_cons, List.map_nil, List.length_cons, List.length_nil, List.replicate, List.cons_append, List.nil_append, List.append_nil, List.set_cons_zero, List.set_cons_succ, List.getElem?_cons_zero, List.getElem?_cons_succ, Option.some.injEq, List.cons.injEq, V.int.injEq, V.bl.injEq, V.str.injEq, V.ref.injEq, V.ty.injEq, HO.tup.injEq, HO.lst.injEq, exists_eq_left, exists_eq_left', exists_and_left, and_assoc, and_true, true_and, upd_same, atI_0, atI_1, atI_2, Nat.zero_add, Nat.reduceAdd, Nat.reduceSub, decide_eq_true_eq, Bool.not_eq_true', decide_eq_false_iff_not, reduceCtorEq, false_or, or_false, true_or, or_true, plainT_int, plainT_bool, plainT_tuple, plainT_list, plainT_str, Bool.false_eq_true, if_false, if_true, Bool.not_false, Bool.not_true, Bool.not_not, gSub, rSetL, ixN_00, upd_upd, rCat, iRng1, tFor_eq, tPar, iList, tComp, pick, tYes, iZip, gTup, gCons, gNil, rSum, rListH, List.map, Option.bind, iRng2, iRngD, tSl, rSlH, tPart, tNoPart, tPar3, tIf, tRev, tLRange, rIxT, rPopAt, tLRev, rExtend, rClear, rSortI, rMinL, rIn, tTest]) | simp only [tSeq, tAsg, gName, tTup, tLst, tCons, tNil, tVar, tC, tCB, tOp, rI, rI0, tTest, tIfS, tNext, tRet, tRetN, tDrop, tB, tAnd, tOr, tNot, tAndV, tOrV, tNotV, rU, tUn, tBM0, tBM, rBits, tCall, L2.start, rIxTH, rIxLH, rLenH, rEqTH, rEq, rNe, scal, tyV, CMul, CMulB, CDivB, CDivF, CPow, List.map_cons, List.map_nil, List.length_cons, List.length_nil, List.replicate, List.cons_append, List.nil_append, List.append_nil, List.set_cons_zero, List.set_cons_succ, List.getElem?_cons_zero, List.getElem?_cons_succ, Option.some.injEq, List.cons.injEq, V.int.injEq, V.bl.injEq, V.str.injEq, V.ref.injEq, V.ty.injEq, HO.tup.injEq, HO.lst.injEq, exists_eq_left, exists_eq_left', exists_and_left, and_assoc, and_true, true_and, upd_same, atI_0, atI_1, atI_2, Nat.zero_add, Nat.reduceAdd, Nat.reduceSub, decide_eq_true_eq, Bool.not_eq_true', decide_eq_false_iff_not, reduceCtorEq, false_or, or_false, true_or, or_true, plainT_int, plainT_bool, plainT_tuple, plainT_list, plainT_str, Bool.false_eq_true, if_false, if_true, Bool.not_false, Bool.not_true, Bool.not_not, gSub, rSetL, ixN_00, upd_upd, rCat, iRng1, tFor_eq, tPar, iList, tComp, pick, tYes, iZip, gTup, gCons, gNil, rSum, rListH, List.map, Option.bind, iRng2, iRngD, tSl, rSlH, tPart, tNoPart, tPar3, tIf, tRev, tLRange, rIxT, rPopAt, tLRev, rExtend, rClear, rSortI, rMinL, rIn, tTest])
variable {P : Program} {w : World} {K : PySem.W.Frag} {mg : Str → Option Value} {base : Heap}
mutual
theorem deq_refl : ∀ d : Dt, deq d d = some true
  | .non => rfl
  | .bl a => by simp [deq]
  | .int a => by simp [deq]
  | .str a => by simp [deq]
  | .tup xs => deqs_refl xs
  | .lst xs => by rw [deq, if_pos rfl]; exact deqs_refl xs
theorem deqs_refl : ∀ ds : List Dt, deqs ds ds = some true
  | [] => rfl
  | d :: ds => by rw [deqs, deq_refl d, deqs_refl ds]; rfl
end
theorem dep_dPr (p : List Int × List Int) : dep (dPr p) ≤ 2 := by
  have h1 := dep_dIs p.1
  have h2 := dep_dIs p.2
  refine Nat.succ_le_succ (show deps [dIs p.1, dIs p.2] ≤ 1 from ?_)
  show max (dep (dIs p.1)) (max (dep (dIs p.2)) 0) ≤ 1
  omega
theorem dep_prs (ps : List (List Int × List Int)) : dep (.lst (ps.map dPr)) ≤ 60 := Nat.le_trans (Nat.succ_le_succ (deps_le dep_dPr ps)) (by decide)
theorem face_ok : ∀ n, n < 7 → (faceP n).length ≤ 100 ∧ (faceP n).all (fun p => decide (p.1.length ≤ 6) && decide (p.2.length ≤ 6)) = true := by decide +kernel
theorem rep_pr {H : Hp} {v : V} {p : List Int × List Int} (h : Rep H v (dPr p)) : ∃ q a b, v = .ref q ∧ H q = some (.tup [.ref a, .ref b]) ∧ H a = some (.lst (p.1.map V.int)) ∧ H b = some (.lst (p.2.map V.int)) := by
  obtain ⟨q, xs, rfl, hq, x, r, rfl, hx, y, r2, rfl, hy, rfl⟩ := h
  obtain ⟨a, rfl, ha⟩ := rep_isn hx
  obtain ⟨b, rfl, hb⟩ := rep_isn hy
  exact ⟨q, a, b, rfl, hq, ha, hb⟩
theorem prs_at {H : Hp} {xs : List V} {ps : List (List Int × List Int)} {i : Nat} {x : V} (h : Reps H xs (ps.map dPr)) (e : xs[i]? = some x) : ∃ p q a b, p ∈ ps ∧ x = .ref q ∧ H q = some (.tup [.ref a, .ref b]) ∧ H a = some (.lst (p.1.map V.int)) ∧ H b = some (.lst (p.2.map V.int)) := by
  obtain ⟨d, hd, hr⟩ := h.of_get e
  have hi : i < ps.length := by
    have := (List.getElem?_eq_some_iff.mp e).1
    have := h.length
    rw [List.length_map] at this
    omega
  rw [List.getElem?_map, List.getElem?_eq_getElem hi] at hd
  rw [← Option.some.inj hd] at hr
  obtain ⟨q, a, b, e1, e2, e3, e4⟩ := rep_pr hr
  exact ⟨ps[i], q, a, b, List.getElem_mem hi, e1, e2, e3, e4⟩
abbrev s_law : Stmt := PySem.Challenge.pw_rimread_k46_facing_runs.main.body.getD 10 (.Pass ⟨0, 0, 0, 0⟩)
theorem sc_law : FnScope ["_law_script", "_law_n", "_law_other", "_law_due_here", "_law_found", "_law_pair"] ["_law_script"] (defScope s_law) := ⟨rfl, rfl, rfl, by decide +kernel, rfl, by decide +kernel, by decide +kernel⟩
theorem lk_law_0 : (defScope s_law).names.lookup ("_law_script" : Str) = some PySem.NameKind.local := by decide +kernel
theorem lk_law_1 : (defScope s_law).names.lookup ("_law_n" : Str) = some PySem.NameKind.local := by decide +kernel
theorem lk_law_2 : (defScope s_law).names.lookup ("_law_other" : Str) = some PySem.NameKind.local := by decide +kernel
theorem lk_law_3 : (defScope s_law).names.lookup ("_law_due_here" : Str) = some PySem.NameKind.local := by decide +kernel
theorem lk_law_4 : (defScope s_law).names.lookup ("_law_found" : Str) = some PySem.NameKind.local := by decide +kernel
theorem lk_law_5 : (defScope s_law).names.lookup ("_law_pair" : Str) = some PySem.NameKind.local := by decide +kernel
theorem gk_law__law_cell_at : (defScope s_law).names.lookup ("_law_cell_at" : Str) = some PySem.NameKind.globalImplicit := by decide +kernel
theorem gk_law__law_due : (defScope s_law).names.lookup ("_law_due" : Str) = some PySem.NameKind.globalImplicit := by decide +kernel
theorem gk_law_facing_runs : (defScope s_law).names.lookup ("facing_runs" : Str) = some PySem.NameKind.globalImplicit := by decide +kernel
theorem gk_law_isinstance : (defScope s_law).names.lookup ("isinstance" : Str) = some PySem.NameKind.globalImplicit := by decide +kernel
theorem gk_law_list : (defScope s_law).names.lookup ("list" : Str) = some PySem.NameKind.globalImplicit := by decide +kernel
theorem gk_law_tuple : (defScope s_law).names.lookup ("tuple" : Str) = some PySem.NameKind.globalImplicit := by decide +kernel
def sp_law (K : PySem.W.Frag) : Sp := fun vs H Q _ => ∃ (a : Addr) (ns : List Int), vs = [.ref a] ∧ SqL K H a (ns.map V.int) ∧ ∀ H', Q (.bl true) H'
theorem ok_law {f : Addr} {fd : FuncData} (T : Txt K mg) (F : Fun K "law" "law" s_law f fd) (C__law_cell_at : Cal P w K mg base "_law_cell_at" ["_law_script", "_law_k"] 1 (sp_cell K)) (C__law_whole : Cal P w K mg base "_law_whole" ["_law_found"] 1 sp_whole) (C__law_due : Cal P w K mg base "_law_due" ["_law_n"] 2 sp_due) (C_facing_runs : Cal P w K mg base "facing_runs" ["n"] 2 sp_face) : FnOk P w K mg base CX0 3 f fd ["_law_script"] (sp_law K) := by
  refine F.ok sc_law ?len ?body
  case len => rintro vs H Q E ⟨a, b, rfl, _⟩; rfl
  case body =>
    intro cdv A outer s H vs Q E hr h
    obtain ⟨a, ns, rfl, hS, k⟩ := h
    refine' ⟨_, ?D, ?R⟩
    case D =>
      refine' pss_cons ?g1 ?g2
      case g1 =>
        refine' ps_set1 (i := 1) sc_law.nd rfl lk_law_1 ?g3
        case g3 =>
          refine' pe_op op_add ?g4 ?g5
          case g4 => exact pe_int
          case g5 =>
            refine' pe_op op_mod ?g6 ?g7
            case g6 =>
              refine' pe_callD C__law_cell_at (hr.mono (by decide)) gk_law__law_cell_at ?g8
              case g8 =>
                refine' pa_c ?g9 ?g10
                case g9 => exact pv1 0 rfl lk_law_0
                case g10 =>
                  refine' pa_c ?g11 ?g12
                  case g11 => exact pe_int
                  case g12 => exact pa_nil
            case g7 => exact pe_int
      case g2 =>
        refine' pss_cons ?g13 ?g14
        case g13 =>
          refine' ps_set1 (i := 2) sc_law.nd rfl lk_law_2 ?g15
          case g15 =>
            refine' pe_op op_add ?g16 ?g17
            case g16 => exact pe_int
            case g17 =>
              refine' pe_op op_mod ?g18 ?g19
              case g18 =>
                refine' pe_callD C__law_cell_at (hr.mono (by decide)) gk_law__law_cell_at ?g20
                case g20 =>
                  refine' pa_c ?g21 ?g22
                  case g21 => exact pv1 0 rfl lk_law_0
                  case g22 =>
                    refine' pa_c ?g23 ?g24
                    case g23 => exact pe_int
                    case g24 => exact pa_nil
              case g19 => exact pe_int
        case g14 =>
          refine' pss_cons ?g25 ?g26
          case g25 =>
            refine' ps_set1 (i := 3) sc_law.nd rfl lk_law_3 ?g27
            case g27 =>
              refine' pe_callD C__law_due (hr.mono (by decide)) gk_law__law_due ?g28
              case g28 =>
                refine' pa_c ?g29 ?g30
                case g29 => exact pv1 1 rfl lk_law_1
                case g30 => exact pa_nil
          case g26 =>
            refine' pss_cons ?g31 ?g32
            case g31 =>
              refine' ps_set1 (i := 4) sc_law.nd rfl lk_law_4 ?g33
              case g33 =>
                refine' pe_callD C_facing_runs (hr.mono (by decide)) gk_law_facing_runs ?g34
                case g34 =>
                  refine' pa_c ?g35 ?g36
                  case g35 => exact pv1 1 rfl lk_law_1
                  case g36 => exact pa_nil
            case g32 =>
              refine' pss_cons ?g37 ?g38
              case g37 =>
                refine' ps_if ?g39 ?g40 ?g41
                case g39 =>
                  refine' PW.pt ?g42
                  case g42 =>
                    refine' pw_or ?g43 ?g44
                    case g43 =>
                      refine' pt_not ?g45
                      case g45 =>
                        refine' pt_val ?g46
                        case g46 =>
                          refine' pe_callE call_isi gk_law_isinstance T.n_isinstance bt_isinstance ?g47
                          case g47 =>
                            refine' pa_c ?g48 ?g49
                            case g48 => exact pv1 4 rfl lk_law_4
                            case g49 =>
                              refine' pa_c ?g50 ?g51
                              case g50 => exact pe_bty gk_law_list T.n_list bt_list
                              case g51 => exact pa_nil
                    case g44 =>
                      refine' pw_or1 ?g52
                      case g52 =>
                        refine' pt_cmpR (op_neD (hr.units)) ?g53 ?g54 (nomark _)
                        case g53 => exact pv1 4 rfl lk_law_4
                        case g54 => exact pv1 3 rfl lk_law_3
                case g40 =>
                  refine' pss_one ?g55
                  case g55 =>
                    refine' ps_ret ?g56
                    case g56 => exact pe_bl
                case g41 => exact pss_nil
              case g38 =>
                refine' pss_cons ?g57 ?g58
                case g57 =>
                  refine' ps_for PassesOwn.never rfl ?g59 ?g60 ?g61
                  case g59 =>
                    refine' pi_listK (K := K) rfl ?g62
                    case g62 => exact pv1 4 rfl lk_law_4
                  case g60 => exact pg_name1 (i := 5) sc_law.nd rfl lk_law_5
                  case g61 =>
                    refine' pss_cons ?g63 ?g64
                    case g63 =>
                      refine' ps_if ?g65 ?g66 ?g67
                      case g65 =>
                        refine' PW.pt ?g68
                        case g68 =>
                          refine' pw_or ?g69 ?g70
                          case g69 =>
                            refine' pt_not ?g71
                            case g71 =>
                              refine' pt_val ?g72
                              case g72 =>
                                refine' pe_callE call_isi gk_law_isinstance T.n_isinstance bt_isinstance ?g73
                                case g73 =>
                                  refine' pa_c ?g74 ?g75
                                  case g74 => exact pv1 5 rfl lk_law_5
                                  case g75 =>
                                    refine' pa_c ?g76 ?g77
                                    case g76 => exact pe_bty gk_law_tuple T.n_tuple bt_tuple
                                    case g77 => exact pa_nil
                          case g70 =>
                            refine' pw_or ?g78 ?g79
                            case g78 =>
                              refine' pt_not ?g80
                              case g80 =>
                                refine' pt_val ?g81
                                case g81 =>
                                  refine' pe_callE call_isi gk_law_isinstance T.n_isinstance bt_isinstance ?g82
                                  case g82 =>
                                    refine' pa_c ?g83 ?g84
                                    case g83 =>
                                      refine' pe_ix ix_tupH ?g85 ?g86 (fun _ _ => rfl)
                                      case g85 => exact pv1 5 rfl lk_law_5
                                      case g86 => exact pe_int
                                    case g84 =>
                                      refine' pa_c ?g87 ?g88
                                      case g87 => exact pe_bty gk_law_list T.n_list bt_list
                                      case g88 => exact pa_nil
                            case g79 =>
                              refine' pw_or1 ?g89
                              case g89 =>
                                refine' pt_not ?g90
                                case g90 =>
                                  refine' pt_val ?g91
                                  case g91 =>
                                    refine' pe_callE call_isi gk_law_isinstance T.n_isinstance bt_isinstance ?g92
                                    case g92 =>
                                      refine' pa_c ?g93 ?g94
                                      case g93 =>
                                        refine' pe_ix ix_tupH ?g95 ?g96 (fun _ _ => rfl)
                                        case g95 => exact pv1 5 rfl lk_law_5
                                        case g96 => exact pe_int
                                      case g94 =>
                                        refine' pa_c ?g97 ?g98
                                        case g97 => exact pe_bty gk_law_list T.n_list bt_list
                                        case g98 => exact pa_nil
                      case g66 =>
                        refine' pss_one ?g99
                        case g99 =>
                          refine' ps_ret ?g100
                          case g100 => exact pe_bl
                      case g67 => exact pss_nil
                    case g64 =>
                      refine' pss_one ?g101
                      case g101 =>
                        refine' ps_if ?g102 ?g103 ?g104
                        case g102 =>
                          refine' pt_cmpR (op_neD (hr.units)) ?g105 ?g106 (nomark _)
                          case g105 =>
                            refine' pe_comp (N' := ["_law_post"]) (ix := [none]) rfl rfl (scp_of ?g107) ?g108 (fun _ _ _ => ?g109) (fun _ _ _ => ?g110) (fun _ _ _ => ?g111)
                            case g107 => exact (by show scpB (defScope s_law) ["_law_script", "_law_n", "_law_other", "_law_due_here", "_law_found", "_law_pair"] _ _ _ = true; decide +kernel)
                            case g108 =>
                              refine' pi_listK (K := K) rfl ?g112
                              case g112 =>
                                refine' pe_op op_cat ?g113 ?g114
                                case g113 =>
                                  refine' pe_ix ix_tupH ?g115 ?g116 (fun _ _ => rfl)
                                  case g115 => exact pv1 5 rfl lk_law_5
                                  case g116 => exact pe_int
                                case g114 =>
                                  refine' pe_ix ix_tupH ?g117 ?g118 (fun _ _ => rfl)
                                  case g117 => exact pv1 5 rfl lk_law_5
                                  case g118 => exact pe_int
                            case g109 => exact pg_name1 (i := 0) (by show List.Nodup (["_law_post"] : List Str); decide +kernel) rfl rfl
                            case g110 =>
                              refine' pf_one ?g119
                              case g119 =>
                                refine' pt_not ?g120
                                case g120 =>
                                  refine' pt_val ?g121
                                  case g121 =>
                                    refine' pe_callD C__law_whole (hr.mono (by decide)) rfl ?g122
                                    case g122 =>
                                      refine' pa_c ?g123 ?g124
                                      case g123 => exact pv1 0 rfl rfl
                                      case g124 => exact pa_nil
                            case g111 => exact pv1 0 rfl rfl
                          case g106 =>
                            refine' pe_lst ?g125
                            case g125 => exact pa_nil
                        case g103 =>
                          refine' pss_one ?g126
                          case g126 =>
                            refine' ps_ret ?g127
                            case g127 => exact pe_bl
                        case g104 => exact pss_nil
                case g58 =>
                  refine' pss_cons ?g128 ?g129
                  case g128 =>
                    refine' ps_if ?g130 ?g131 ?g132
                    case g130 =>
                      refine' PW.pt ?g133
                      case g133 =>
                        refine' pw_or ?g134 ?g135
                        case g134 =>
                          refine' pt_cmpR (op_neD (hr.units)) ?g136 ?g137 (nomark _)
                          case g136 =>
                            refine' pe_callD C_facing_runs (hr.mono (by decide)) gk_law_facing_runs ?g138
                            case g138 =>
                              refine' pa_c ?g139 ?g140
                              case g139 => exact pv1 2 rfl lk_law_2
                              case g140 => exact pa_nil
                          case g137 =>
                            refine' pe_callD C__law_due (hr.mono (by decide)) gk_law__law_due ?g141
                            case g141 =>
                              refine' pa_c ?g142 ?g143
                              case g142 => exact pv1 2 rfl lk_law_2
                              case g143 => exact pa_nil
                        case g135 =>
                          refine' pw_or1 ?g144
                          case g144 =>
                            refine' pt_cmpR (op_neD (hr.units)) ?g145 ?g146 (nomark _)
                            case g145 => exact pv1 4 rfl lk_law_4
                            case g146 => exact pv1 3 rfl lk_law_3
                    case g131 =>
                      refine' pss_one ?g147
                      case g147 =>
                        refine' ps_ret ?g148
                        case g148 => exact pe_bl
                    case g132 => exact pss_nil
                  case g129 =>
                    refine' pss_cons ?g149 ?g150
                    case g149 =>
                      refine' ps_for PassesOwn.never rfl ?g151 ?g152 ?g153
                      case g151 =>
                        refine' pi_listK (K := K) rfl ?g154
                        case g154 => exact pv1 4 rfl lk_law_4
                      case g152 => exact pg_name1 (i := 5) sc_law.nd rfl lk_law_5
                      case g153 =>
                        refine' pss_cons ?g155 ?g156
                        case g155 =>
                          refine' ps_expr1 ?g157
                          case g157 =>
                            refine' pe_bm PySem.F.plainAttrs_list PySem.F.slot_list_append PySem.F.type_list_append mt_append ?g158 ?g159
                            case g158 =>
                              refine' pe_ix ix_tupH ?g160 ?g161 (fun _ _ => rfl)
                              case g160 => exact pv1 5 rfl lk_law_5
                              case g161 => exact pe_int
                            case g159 =>
                              refine' pa_c ?g162 ?g163
                              case g162 => exact pe_int
                              case g163 => exact pa_nil
                        case g156 =>
                          refine' pss_one ?g164
                          case g164 =>
                            refine' ps_expr1 ?g165
                            case g165 =>
                              refine' pe_bm0 PySem.F.plainAttrs_list PySem.F.slot_list_clear PySem.F.type_list_clear mt_clear ?g166
                              case g166 =>
                                refine' pe_ix ix_tupH ?g167 ?g168 (fun _ _ => rfl)
                                case g167 => exact pv1 5 rfl lk_law_5
                                case g168 => exact pe_int
                    case g150 =>
                      refine' pss_cons ?g169 ?g170
                      case g169 =>
                        refine' ps_expr1 ?g171
                        case g171 =>
                          refine' pe_bm0 PySem.F.plainAttrs_list PySem.F.slot_list_clear PySem.F.type_list_clear mt_clear ?g172
                          case g172 => exact pv1 4 rfl lk_law_4
                      case g170 =>
                        refine' pss_one ?g173
                        case g173 =>
                          refine' ps_ret ?g174
                          case g174 =>
                            refine' pe_cmpR (op_eqD (hr.units)) ?g175 ?g176 (nomark _)
                            case g175 =>
                              refine' pe_callD C_facing_runs (hr.mono (by decide)) gk_law_facing_runs ?g177
                              case g177 =>
                                refine' pa_c ?g178 ?g179
                                case g178 => exact pv1 1 rfl lk_law_1
                                case g179 => exact pa_nil
                            case g176 => exact pv1 3 rfl lk_law_3
    case R =>
      walk_at "rd"
      refine ⟨a, ns, 0, rfl, hS, by decide, fun z0 => ?_⟩
      try walk_at "rd"
      refine ⟨by decide, a, ns, 1, rfl, hS, by decide, fun z1 => ⟨z1, rfl, by decide, ?_⟩⟩
      obtain ⟨n, hn, n1, n6⟩ : ∃ n : Nat, (1 + z0 % 6 : Int) = n ∧ 1 ≤ n ∧ n ≤ 6 := ⟨(1 + z0 % 6).toNat, by omega, by omega, by omega⟩
      obtain ⟨m, hm, m1, m6⟩ : ∃ n : Nat, (1 + z1 % 6 : Int) = n ∧ 1 ≤ n ∧ n ≤ 6 := ⟨(1 + z1 % 6).toNat, by omega, by omega, by omega⟩
      rw [hn, hm]
      have fd := face_due n (by omega)
      have fdm := face_due m (by omega)
      obtain ⟨fl, fo⟩ := face_ok n (by omega)
      have fo' : ∀ p ∈ faceP n, p.1.length ≤ 6 ∧ p.2.length ≤ 6 := fun p hp => by simpa using List.all_eq_true.mp fo p hp
      refine ⟨n, rfl, n1, n6, fun du S sS repD => ?_⟩
      refine ⟨n, rfl, n1, n6, fun l H1 s1 repF => ?_⟩
      rw [← fd] at repD
      obtain ⟨_, xs, e0, hl', hxs⟩ := id repF
      cases e0
      obtain ⟨nl, hl⟩ := newH_of hl'
      have hxl : xs.length = (faceP n).length := by rw [hxs.length, List.length_map]
      have repF1 : Rep H1 (.ref l) (.lst ((faceP n).map dPr)) := Rep.mono newH_same _ repF
      refine ⟨"list", by simp [kindV, hl], ?_⟩
      rw [if_neg (by decide)]
      refine ⟨l, du, _, _, true, rfl, rfl, repF1, Rep.mono s1 _ repD, deq_refl _, dep_prs _, false, rfl, ?_⟩
      rw [if_neg (by decide)]
      refine ⟨l, rfl, ⟨_, .inl (.inl hl)⟩, ?_⟩
      refine go_list (xs := xs) (fun j σ H2 => ∃ (e5 : Option V), σ = [some (.ref a), some (.int n), some (.int m), some (.ref du), some (.ref l), e5] ∧ Same H1 H2) ⟨_, rfl, Same.refl _⟩ ?_ ?_ ?_
      · rintro j σ H2 hj ⟨e5, rfl, s2⟩
        exact .inl (.inl (s2 _ _ hl))
      · rintro j x σ H2 hx ⟨e5, rfl, s2⟩
        obtain ⟨pq, q, pa, pb, hpq, rfl, hq', ha', hb'⟩ := prs_at hxs hx
        have hq := s2 _ _ (newH_of hq').2
        have ha := s2 _ _ (newH_of ha').2
        have hb := s2 _ _ (newH_of hb').2
        obtain ⟨l1, l2⟩ := fo' pq hpq
        have t1 : subT "tuple" "tuple" = true := by decide
        have t2 : subT "list" "list" = true := by decide
        have kq : kindV H2 (.ref q) = some "tuple" := by simp [kindV, hq]
        have ka : kindV H2 (.ref pa) = some "list" := by simp [kindV, ha]
        have kb : kindV H2 (.ref pb) = some "list" := by simp [kindV, hb]
        walk_at "rd"
        refine ⟨_, kq, ?_⟩
        rw [if_neg (by rw [t1]; decide)]
        refine ⟨_, hq, _, atI_0, _, ka, ?_⟩
        rw [if_neg (by rw [t2]; decide)]
        refine ⟨_, hq, _, atI_1, _, kb, ?_⟩
        rw [if_neg (by rw [t2]; decide)]
        refine ⟨_, hq, _, atI_0, _, hq, _, atI_1, pa, rfl, pb, rfl, _, ha, _, hb, big_line (by simp; omega), fun p1 n1 => ?_⟩
        rw [← List.map_append]
        have S3 : Same H2 (upd H2 p1 (HO.lst ((pq.1 ++ pq.2).map V.int))) := Same.new n1
        have hp1 := upd_same (H := H2) (a := p1) (o := HO.lst ((pq.1 ++ pq.2).map V.int))
        generalize upd H2 p1 (HO.lst ((pq.1 ++ pq.2).map V.int)) = H3 at *
        have yl : (pq.1 ++ pq.2).length ≤ 12 := by simp; omega
        generalize pq.1 ++ pq.2 = ys at *
        refine ⟨⟨_, .inl (.inl hp1)⟩, ?_⟩
        refine comp_fltD (n := ys.length) (B := fun _ => none) (Pσ := fun σ => ∃ e, σ = [e]) (bs := fun i => false) (val := fun i => Dt.int 0) (fun b o e => by cases e) ⟨_, rfl⟩ (by omega) (fun j H2 hj s2 => ⟨_, .int ys[j], .inl (.inl (s2 _ _ hp1)), by simp [hj]⟩) (fun H2 s2 => ⟨_, .inl (.inl (s2 _ _ hp1)), by simp⟩) ?_ ?_
        · rintro D i y σ' H6 H6' hD ⟨od, hDo⟩ hs6 hi ⟨rfl, hy⟩ ⟨e2, rfl⟩ Y R kY kR
          have hx2 := hy _ (.inl (.inl (hs6 _ _ hp1)))
          rw [List.getElem?_map, List.getElem?_eq_getElem hi] at hx2
          cases hx2
          walk_at "rd"
          refine ⟨.int ys[i], "int", rfl, rfl, fun H7 s7 => ⟨_, rfl, ?_⟩⟩
          rw [if_neg (by decide)]
          exact kR rfl _ _ ⟨_, rfl⟩ s7
        · intro D H6 hD s6 rep6
          have e6 : (((List.range ys.length).filter fun i => false).map fun i => Dt.int 0) = [] := by simp
          rw [e6] at rep6
          refine ⟨Nat.zero_le _, fun p9 n9 => ⟨D, p9, .lst [], .lst [], true, rfl, rfl, Rep.mono (newH_same.trans (Same.new n9)) _ rep6, ⟨p9, [], rfl, upd_same, rfl⟩, by decide, by decide, false, rfl, ?_⟩⟩
          rw [if_neg (by decide)]
          exact s2.trans (S3.trans (s6.trans (Same.new n9)))
      · rintro σ H2 ⟨e5, rfl, s2⟩
        walk_at "rd"
        refine ⟨m, rfl, m1, m6, fun fm H3 s3 repM => ?_⟩
        refine ⟨m, rfl, m1, m6, fun dm H4 s4 repM2 => ?_⟩
        rw [← fdm] at repM2
        refine ⟨fm, dm, _, _, true, rfl, rfl, Rep.mono (newH_same.trans s4) _ repM, repM2, deq_refl _, dep_prs _, false, rfl, ?_⟩
        rw [if_neg (by decide)]
        have s14 : Same H1 H4 := s2.trans (s3.trans s4)
        refine ⟨l, du, _, _, true, rfl, rfl, Rep.mono s14 _ repF1, Rep.mono (s1.trans s14) _ repD, deq_refl _, dep_prs _, false, rfl, ?_⟩
        rw [if_neg (by decide)]
        have hl4 := s14 _ _ hl
        refine ⟨⟨_, .inl (.inl hl4)⟩, ?_⟩
        have sS4 : Same S H4 := s1.trans s14
        have free : ∀ {b : Addr} {o : HO}, newH S H1 b = some o → S b = none ∧ H4 b = some o := fun {b o} h => ⟨(newH_of h).1, s14 _ _ (newH_of h).2⟩
        clear hl4 s2 s3 s4 repM repM2
        refine go_list (xs := xs) (fun j σ H5 => ∃ (e5 : Option V), σ = [some (.ref a), some (.int n), some (.int m), some (.ref du), some (.ref l), e5] ∧ Same S H5 ∧ H5 l = some (.lst xs) ∧ (∀ b zs, H4 b = some (.tup zs) → H5 b = some (.tup zs)) ∧ ∀ (b : Addr) (ns : List Int), ns.length ≤ 6 → H4 b = some (.lst (ns.map V.int)) → ∃ zs, H5 b = some (.lst zs) ∧ zs.length ≤ 6 + j) ⟨_, rfl, sS4, s14 _ _ hl, fun b zs h => h, fun b ns hn hb => ⟨_, hb, by simp; omega⟩⟩ ?_ ?_ ?_
        · rintro j σ H5 hj ⟨e5, rfl, s5, hl5, ht5, hk5⟩
          exact .inl (.inl hl5)
        · rintro j x σ H5 hx ⟨e5, rfl, s5, hl5, ht5, hk5⟩
          obtain ⟨pq, q, pa, pb, hpq, rfl, hq', ha', hb'⟩ := prs_at hxs hx
          obtain ⟨nq, hq⟩ := free hq'
          obtain ⟨na, ha⟩ := free ha'
          obtain ⟨nb, hb⟩ := free hb'
          obtain ⟨l1, l2⟩ := fo' pq hpq
          have jl : j < 100 := by
            have := (List.getElem?_eq_some_iff.mp hx).1
            omega
          have ne : ∀ (b : Addr) (ns : List Int), H4 b = some (.lst (ns.map V.int)) → b ≠ l := fun b ns hb e => by
            rw [e, s14 _ _ hl] at hb
            have hb2 := HO.lst.inj (Option.some.inj hb)
            rw [hb2, List.getElem?_map] at hx
            cases e2 : ns[j]? with
            | none => rw [e2] at hx; cases hx
            | some v => rw [e2] at hx; cases hx
          obtain ⟨za, hza, zal⟩ := hk5 pa pq.1 l1 ha
          have hq5 := ht5 _ _ hq
          have tupNe : ∀ {b c : Addr} {zs ws : List V} {Hx : Hp}, Hx b = some (.tup zs) → Hx c = some (.lst ws) → b ≠ c := fun {b c zs ws Hx} h1 h2 e => by rw [e, h2] at h1; cases h1
          walk_at "rd"
          refine ⟨_, hq5, V.ref pa, atI_0, .inl ⟨_, .inl (.inl hza)⟩, pa, za, .int 9, rfl, rfl, hza, small1000 (by omega), ?_⟩
          obtain ⟨zb, hzb, zbl⟩ : ∃ zs, upd H5 pa (HO.lst (za ++ [.int 9])) pb = some (.lst zs) ∧ zs.length ≤ 7 + j := by
            by_cases e : pb = pa
            · exact ⟨_, by rw [e]; exact upd_same, by simp; omega⟩
            · obtain ⟨zb, h1, h2⟩ := hk5 pb pq.2 l2 hb
              exact ⟨zb, by rw [upd_ne e]; exact h1, by omega⟩
          refine ⟨_, by rw [upd_ne (tupNe hq5 hza)]; exact hq5, V.ref pb, atI_1, .inl ⟨_, .inl (.inl hzb)⟩, pb, rfl, zb, hzb, fun b o hb0 => ?_, ?_, fun b zs hb0 => ?_, fun b ns hn hb0 => ?_⟩
          · rw [upd_ne (ne_of_none hb0 nb), upd_ne (ne_of_none hb0 na)]
            exact s5 _ _ hb0
          · rw [upd_ne (ne _ _ hb).symm, upd_ne (ne _ _ ha).symm]
            exact hl5
          · rw [upd_ne (tupNe hb0 hb), upd_ne (tupNe hb0 ha)]
            exact ht5 _ _ hb0
          · by_cases e1 : b = pb
            · exact ⟨_, by rw [e1]; exact upd_same, by simp⟩
            · rw [upd_ne e1]
              by_cases e2 : b = pa
              · exact ⟨_, by rw [e2]; exact upd_same, by simp; omega⟩
              · obtain ⟨zs, h1, h2⟩ := hk5 b ns hn hb0
                exact ⟨zs, by rw [upd_ne e2]; exact h1, by omega⟩
        · rintro σ H5 ⟨e5, rfl, s5, hl5, ht5, hk5⟩
          walk_at "rd"
          refine ⟨.inl ⟨_, .inl (.inl hl5)⟩, xs, hl5, ?_⟩
          have s6 : Same S (upd H5 l (HO.lst [])) := fun b o hb0 => by
            rw [upd_ne (ne_of_none hb0 nl)]
            exact s5 _ _ hb0
          generalize upd H5 l (HO.lst []) = H6 at *
          try walk_at "rd"
          refine ⟨n, rfl, n1, n6, fun l7 H7 s7 rep7 => ?_⟩
          exact ⟨l7, du, _, _, true, rfl, rfl, Rep.mono newH_same _ rep7, Rep.mono (s6.trans s7) _ repD, deq_refl _, dep_prs _, k H7⟩
end Rim46
set_option Elab.async false
set_option linter.all false
set_option maxRecDepth 100000
set_option maxHeartbeats 4000000
namespace Rim46
open PySem PySem.Spec PyProof.Rows L2
theorem all_mk {l : PySem.W.OpenLaw} {w : World} {K : PySem.W.Frag} {mg : Str → Option Value} {fa : Addr} (hfa : mg "law" = some (.ref fa)) (T : Txt K mg)  (F_rising_lists : Fn0 K mg "rising_lists" s_rising_lists) (F_runs_with_least_ahead : Fn0 K mg "runs_with_least_ahead" s_runs_with_least_ahead) (F_facing_runs : Fn0 K mg "facing_runs" s_facing_runs) (F__law_cell_at : Fn0 K mg "_law_cell_at" s__law_cell_at) (F__law_whole : Fn0 K mg "_law_whole" s__law_whole) (F__law_rows : Fn0 K mg "_law_rows" s__law_rows) (F__law_is_sunwise : Fn0 K mg "_law_is_sunwise" s__law_is_sunwise) (F__law_due : Fn0 K mg "_law_due" s__law_due) (F_law : Fn0 K mg "law" s_law) :
    ∃ fd : FuncData, (∀ (s : Shared) (v : Value), BindsTo s fd ⟨[v], []⟩ [("_law_script", v)]) ∧ ∀ base : Heap, K.In base → base.Ns mainGlobals mg → FnOk l.prog w K mg base CX0 3 fa fd ["_law_script"] (sp_law K) := by
  obtain ⟨f, fd, FL, m⟩ := F_law
  have e := hfa.symm.trans m
  cases e
  refine ⟨fd, ?_, fun base _ _ => ?_⟩
  · obtain ⟨oc, od, kV, doc, pm, an, cdv, ct, osl, rfl, lk, hcd⟩ := FL.ex
    exact fun s v => .of_eq rfl
  · have c1 := ok_rising_lists (P := l.prog) (w := w) (base := base) T F_rising_lists
    have c2 := ok_ahead (P := l.prog) (w := w) (base := base) T F_runs_with_least_ahead
    have c3 := ok_facing_runs T F_facing_runs c1 c2
    have d1 := ok__law_cell_at (P := l.prog) (w := w) (base := base) T F__law_cell_at
    have d2 := ok__law_whole (P := l.prog) (w := w) (base := base) T F__law_whole
    have d3 := ok__law_rows (P := l.prog) (w := w) (base := base) T F__law_rows
    have d4 := ok__law_is_sunwise (P := l.prog) (w := w) (base := base) T F__law_is_sunwise
    have d5 := ok__law_due T F__law_due d3 d4
    exact ok_law T FL d1 d2 d5 c3
theorem walk {l : PySem.W.OpenLaw} {q : Program} {loose : List Str} {XP : (Str → Option Value) → Heap → Prop} {YP : World → Heap → Prop} {d : DefRec} {K : Params → PySem.W.Frag} (hn : l.most = some 63) (hdf : d.params.defaults = [])
    (hY : ∀ (w : World) (h : Heap), YP w h → (K w.params).In h)
    (F : ∀ (w : World) (mg : Str → Option Value) (fa : Addr) (h : Heap), (K w.params).In h → h.Ns mainGlobals mg → mg d.name = some (.ref fa) →
      ∃ fd : FuncData, (∀ (s : Shared) (u : Value), BindsTo s fd ⟨[u], []⟩ [("_law_script", u)]) ∧ ∀ base : Heap, (K w.params).In base → base.Ns mainGlobals mg → FnOk l.prog w (K w.params) mg base CX0 3 fa fd ["_law_script"] (sp_law (K w.params))) :
    PySem.W.WalkO q loose XP YP l.row.toRowW d [] (fun f vs => PySem.call f vs) :=
  L2.walk_of (n := 63) (k := 3) (x := "_law_script") (CX := fun _ => CX0) (sp := fun w => sp_law (K w.params)) hn (by decide) hdf ⟨rfl, by decide, by decide⟩ hY F (fun _ _ a ns hl _ hS => ⟨a, ns, rfl, hS, fun _ => rfl⟩) fun _ _ _ _ _ z => z
end Rim46
open PySem PySem.W PyProof.Rows
set_option maxRecDepth 100000 in
set_option maxHeartbeats 0 in
theorem PySem.Challenge.cw_rimread_k46_facing_runs_holds : PySem.Challenge.rw_rimread_k46_facing_runs.Holds := by
  w_on; o_law; k_head; (case hw => w_witness2)
  k_fill
  refine Rim46.walk (l := PySem.Challenge.rw_rimread_k46_facing_runs) rfl rfl (fun w h Y => PySem.W.kIn_of Y) ?F
  case F =>
    intro w mg fa h KX G hmg
    refine Rim46.all_mk  hmg ⟨?n_len, ?n_isinstance, ?n_int, ?n_bool, ?n_tuple, ?n_range, ?n_list, ?n_min, ?n_sorted, ?n_reversed⟩ ?f_rising_lists ?f_runs_with_least_ahead ?f_facing_runs ?f__law_cell_at ?f__law_whole ?f__law_rows ?f__law_is_sunwise ?f__law_due ?f_law
    case n_len => refine' PySem.W.mg_none_of KX G ?a; (case a => k_is)
    case n_isinstance => refine' PySem.W.mg_none_of KX G ?a; (case a => k_is)
    case n_int => refine' PySem.W.mg_none_of KX G ?a; (case a => k_is)
    case n_bool => refine' PySem.W.mg_none_of KX G ?a; (case a => k_is)
    case n_tuple => refine' PySem.W.mg_none_of KX G ?a; (case a => k_is)
    case n_range => refine' PySem.W.mg_none_of KX G ?a; (case a => k_is)
    case n_list => refine' PySem.W.mg_none_of KX G ?a; (case a => k_is)
    case n_min => refine' PySem.W.mg_none_of KX G ?a; (case a => k_is)
    case n_sorted => refine' PySem.W.mg_none_of KX G ?a; (case a => k_is)
    case n_reversed => refine' PySem.W.mg_none_of KX G ?a; (case a => k_is)
    case f_rising_lists => refine' L2.fn0_mk KX G ?a ?l ?c ?k; (case a => k_is); (case l => k_is); (case c => k_is); (case k => k_is)
    case f_runs_with_least_ahead => refine' L2.fn0_mk KX G ?a ?l ?c ?k; (case a => k_is); (case l => k_is); (case c => k_is); (case k => k_is)
    case f_facing_runs => refine' L2.fn0_mk KX G ?a ?l ?c ?k; (case a => k_is); (case l => k_is); (case c => k_is); (case k => k_is)
    case f__law_cell_at => refine' L2.fn0_mk KX G ?a ?l ?c ?k; (case a => k_is); (case l => k_is); (case c => k_is); (case k => k_is)
    case f__law_whole => refine' L2.fn0_mk KX G ?a ?l ?c ?k; (case a => k_is); (case l => k_is); (case c => k_is); (case k => k_is)
    case f__law_rows => refine' L2.fn0_mk KX G ?a ?l ?c ?k; (case a => k_is); (case l => k_is); (case c => k_is); (case k => k_is)
    case f__law_is_sunwise => refine' L2.fn0_mk KX G ?a ?l ?c ?k; (case a => k_is); (case l => k_is); (case c => k_is); (case k => k_is)
    case f__law_due => refine' L2.fn0_mk KX G ?a ?l ?c ?k; (case a => k_is); (case l => k_is); (case c => k_is); (case k => k_is)
    case f_law => refine' L2.fn0_mk KX G ?a ?l ?c ?k; (case a => k_is); (case l => k_is); (case c => k_is); (case k => k_is)
