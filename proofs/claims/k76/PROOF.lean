import PyProof.Rows.All
import Wide.All
import OpenK.AllK
import Wide.FinOn
import Lean
import PyProof.EqAt
import PyProof.EqKinds
import PyProof.TupleCall
import PySem.Challenge.RW_rimread_k76_grids_written
set_option Elab.async false
set_option linter.all false
set_option maxRecDepth 100000
namespace L2
open PySem PySem.Spec PyProof.Rows
abbrev Key := Sum Int Str
def keyIs : Key → Value → Bool
  | .inl k, v => Value.isInt k v
  | .inr x, v => Value.isStrOf x v
def keyH (w : World) : Key → Int
  | .inl k => hashInt k
  | .inr x => hashStr w x
theorem keyIs_shape : ∀ {k : Key} {v : Value}, keyIs k v = true → (∃ i t, k = Sum.inl i ∧ v = Value.int i t) ∨ (∃ x t, k = Sum.inr x ∧ v = Value.str x t)
  | .inl i, v, h => by
    obtain ⟨t, e⟩ := Value.isInt_shape (k := i) (v := v) h
    exact .inl ⟨i, t, rfl, e⟩
  | .inr x, v, h => by
    obtain ⟨t, e⟩ := Value.isStrOf_shape (x := x) (v := v) h
    exact .inr ⟨x, t, rfl, e⟩
theorem key_ll (a b : Int) : decide ((Sum.inl a : Key) = Sum.inl b) = (a == b) := by
  by_cases e : a = b
  · subst e; simp
  · have h : ¬ (Sum.inl a : Key) = Sum.inl b := fun q => e (Sum.inl.inj q)
    rw [decide_eq_false h]
    exact (beq_eq_false_iff_ne.mpr e).symm
theorem key_rr (a b : Str) : decide ((Sum.inr a : Key) = Sum.inr b) = decide (a = b) := by
  by_cases e : a = b
  · subst e; simp
  · have h : ¬ (Sum.inr a : Key) = Sum.inr b := fun q => e (Sum.inr.inj q)
    rw [decide_eq_false h, decide_eq_false e]
theorem key_lr (a : Int) (b : Str) : decide ((Sum.inl a : Key) = Sum.inr b) = false := decide_eq_false (fun q => nomatch q)
theorem key_rl (a : Str) (b : Int) : decide ((Sum.inr a : Key) = Sum.inl b) = false := decide_eq_false (fun q => nomatch q)
def mixKind (prog : Program) (w : World) : PySem.KeyKind prog w Key where
  is := keyIs
  hash := keyH w
  inj := fun v a b ha hb => by
    rcases keyIs_shape ha with ⟨i, t, rfl, rfl⟩ | ⟨x, t, rfl, rfl⟩
    · rcases keyIs_shape hb with ⟨j, u, rfl, e⟩ | ⟨y, u, rfl, e⟩
      · injection e with e1 _; rw [e1]
      · exact nomatch e
    · rcases keyIs_shape hb with ⟨j, u, rfl, e⟩ | ⟨y, u, rfl, e⟩
      · exact nomatch e
      · injection e with e1 _; rw [e1]
  byValue := fun k v h => by
    rcases keyIs_shape h with ⟨i, t, rfl, rfl⟩ | ⟨x, t, rfl, rfl⟩ <;> rfl
  pyHash := fun hv h => by
    rcases keyIs_shape hv with ⟨i, t, rfl, rfl⟩ | ⟨x, t, rfl, rfl⟩
    · exact wpAny_pyHash_int h
    · exact wpAny_pyHash_str h
  eqBool := fun hu hv h => by
    rcases keyIs_shape hu with ⟨i, t, rfl, rfl⟩ | ⟨x, t, rfl, rfl⟩
    · rcases keyIs_shape hv with ⟨j, u, rfl, rfl⟩ | ⟨y, u, rfl, rfl⟩
      · rw [key_ll] at h; exact wpAny_eqBool_int h
      · rw [key_lr] at h; exact SeqAt.EqAt.int_str i t y u _ _ _ _ h
    · rcases keyIs_shape hv with ⟨j, u, rfl, rfl⟩ | ⟨y, u, rfl, rfl⟩
      · rw [key_rl] at h; exact SeqAt.EqAt.str_int x t j u _ _ _ _ h
      · rw [key_rr] at h; exact wpAny_eqBool_str h
  «strs» := fun k x t v h => by
    rcases keyIs_shape h with ⟨i, u, rfl, e⟩ | ⟨y, u, rfl, e⟩
    · exact nomatch e
    · injection e with e1 _
      subst e1
      cases v <;> rfl
end L2
namespace L2
open PySem PySem.Spec PyProof.Rows
inductive V where
  | non | bl (b : Bool) | int (i : Int) | str (x : Str) | byt (b : Array UInt8) | flt (b : UInt64) | ref (a : Addr) | ty (n : String)
  deriving DecidableEq
def RelV : V → Value → Prop
  | .non, u => u = Value.none
  | .bl b, u => u = Value.bool b
  | .int i, u => ∃ t, u = Value.int i t
  | .str x, u => ∃ t, u = Value.str x t
  | .byt b, u => ∃ t, u = Value.bytes b t
  | .flt b, u => ∃ t, u = Value.float b t
  | .ref a, u => u = Value.ref a
  | .ty n, u => u = Value.type n
abbrev Vals : List V → List Value → Prop := Paired RelV
theorem Vals.length {xs : List V} {us : List Value} (r : Vals xs us) : xs.length = us.length := Paired.length r
theorem Vals.get : ∀ {xs : List V} {us : List Value} {i : Nat} {x : V}, Vals xs us → xs[i]? = some x → ∃ u, us[i]? = some u ∧ RelV x u
  | _, _, _, _, .nil, e => by simp at e
  | _, _, 0, _, .cons r _, e => by simp at e; subst e; exact ⟨_, rfl, r⟩
  | _, _, i + 1, x, .cons _ t, e => by
    obtain ⟨u, h1, h2⟩ := Vals.get (i := i) (x := x) t (by simpa using e)
    exact ⟨u, by simpa using h1, h2⟩
theorem Vals.set {x : V} {u : Value} (r : RelV x u) : ∀ {xs : List V} {us : List Value} (i : Nat), Vals xs us → Vals (xs.set i x) (us.set i u)
  | _, _, _, .nil => .nil
  | _, _, 0, .cons _ t => .cons r t
  | _, _, i + 1, .cons q t => .cons q (Vals.set r i t)
theorem Vals.append : ∀ {xs ys : List V} {us ws : List Value}, Vals xs us → Vals ys ws → Vals (xs ++ ys) (us ++ ws)
  | _, _, _, _, .nil, s => s
  | _, _, _, _, .cons r t, s => .cons r (Vals.append t s)
theorem Vals.take : ∀ {xs : List V} {us : List Value} (n : Nat), Vals xs us → Vals (xs.take n) (us.take n)
  | _, _, 0, _ => .nil
  | _, _, _ + 1, .nil => .nil
  | _, _, n + 1, .cons r t => .cons r (Vals.take n t)
theorem Vals.drop : ∀ {xs : List V} {us : List Value} (n : Nat), Vals xs us → Vals (xs.drop n) (us.drop n)
  | _, _, 0, r => r
  | _, _, _ + 1, .nil => .nil
  | _, _, n + 1, .cons _ t => Vals.drop n t
def RelO : Option V → Option Value → Prop
  | some v, some u => RelV v u
  | none, none => True
  | _, _ => False
def KV {κ : Type} : List (κ × V) → List (κ × Value) → Prop := Paired fun (p : κ × V) (q : κ × Value) => p.1 = q.1 ∧ RelV p.2 q.2
def kV : Key → V
  | .inl i => .int i
  | .inr x => .str x
inductive HO where
  | lst (xs : List V)
  | tup (xs : List V)
  | dK (kvs : List (Key × V)) | dT (kvs : List (List Key × V))
  | set (S : Int → Bool) (n : Nat)
  | ins (C dx : Addr) (fs : List (Str × V))
  | own (x : Addr)
  | xd (fs : List (Str × V))
  | met (f x : Addr)
  | rng (lo hi : Int)
  | frz (o : Obj) (u : HO)
  | tbl (ps : Array Value)
  | ext (φ : Heap → Prop)
abbrev Hp := Addr → Option HO
def upd (H : Hp) (a : Addr) (o : HO) : Hp := fun b => if b = a then some o else H b
theorem upd_same {H : Hp} {a : Addr} {o : HO} : upd H a o a = some o := by unfold upd; rw [if_pos rfl]
theorem upd_ne {H : Hp} {a b : Addr} {o : HO} (h : b ≠ a) : upd H a o b = H b := by unfold upd; rw [if_neg h]
theorem upd_upd {H : Hp} {a : Addr} {o u : HO} : upd (upd H a o) a u = upd H a u := by
  funext b; unfold upd; split <;> rfl
theorem ne_of_none {H : Hp} {a b : Addr} {o : HO} (h : H a = some o) (h' : H b = none) : a ≠ b := by
  intro e; subst e; rw [h] at h'; cases h'
section
variable (P : Program) (w : World)
def ObjOk (H : Hp) (h : Heap) (a : Addr) : HO → Prop
  | .lst xs => xs.length ≤ sizeLine ∧ ∃ (its : List Value) (n : Nat), Vals xs its ∧ h.get? a = some { cls := .type "list", data := .seq its.toArray n }
  | .tup xs => xs.length ≤ sizeLine ∧ ∃ its : List Value, Vals xs its ∧ IsTup h a its.toArray
  | .dK kvs => kvs.length ≤ sizeLine ∧ (a == sysModules) = false ∧ ∃ vs, KV kvs vs ∧ h.DictOf (mixKind P w) a vs
  | .dT kvs => kvs.length ≤ sizeLine ∧ (a == sysModules) = false ∧ ∃ xs : List (List Key × Addr × Value),
      Paired (fun (p : List Key × V) (q : List Key × Addr × Value) => p.1 = q.1 ∧ H q.2.1 = some (.tup (p.1.map kV)) ∧ RelV p.2 q.2.2) kvs xs ∧
      ∃ o es ep, h.get? a = some o ∧ o.ExactDict ∧ o.data = .dict es ep ∧ es.toList = xs.map (entryOfKey (tupleKind (mixKind P w))) ∧ (xs.map (·.1)).Nodup
  | .set S n => h.SetOf (intKind P w) a S n
  | .ins C dx fs => H dx = some (.own a) ∧ fs.length ≤ 1000 ∧ dx ≠ a ∧ h.get? a = some (PySem.W.instObj C dx) ∧
      ∃ mA, h.Ns1 dx mA ∧ (∀ f, RelO (fs.lookup f) (mA f)) ∧ PySem.Within mA (fs.map (·.1))
  | .own _ => ∃ o, h.get? a = some o
  | .xd fs => ∃ mA, h.Ns1 a mA ∧ ∀ f, RelO (fs.lookup f) (mA f)
  | .rng lo hi => ∃ t u v, h.get? a = some { cls := .type "range", data := .fields #[.int lo t, .int hi u, .int 1 v] }
  | .frz o u => h.get? a = some o ∧ ObjOk H h a u
  | .tbl ps => h.get? a = some { cls := .none, data := .fields ps }
  | .met f x => h.get? a = some (PySem.W.methodObj (.ref f) (.ref x))
  | .ext φ => φ h ∧ (∃ o, h.get? a = some o) ∧ ∀ h1 h2 : Heap, φ h1 → (∀ o, h1.get? a = some o → h2.get? a = some o) → φ h2
def HOk (H : Hp) (h : Heap) : Prop := ∀ a o, H a = some o → ObjOk P w H h a o
end
section
variable {P : Program} {w : World} {H H' : Hp} {h h' : Heap} {a : Addr} {o : HO}
theorem ObjOk.lt (x : ObjOk P w H h a o) : a < h.objs.size := by
  cases o with
  | lst xs => obtain ⟨_, _, _, _, e⟩ := x; exact Heap.lt_size e
  | tup xs => obtain ⟨_, _, _, p⟩ := x; exact p.lt
  | dK kvs => obtain ⟨_, _, _, _, o, _, _, e, _⟩ := x; exact Heap.lt_size e
  | dT kvs => obtain ⟨_, _, _, _, o, _, _, e, _⟩ := x; exact Heap.lt_size e
  | set S n => obtain ⟨o, _, _, _, e, _⟩ := x; exact Heap.lt_size e
  | ins C dx fs => obtain ⟨_, _, _, e, _⟩ := x; exact Heap.lt_size e
  | own y => obtain ⟨_, e⟩ := x; exact Heap.lt_size e
  | xd fs => obtain ⟨_, ⟨_, _, _, e, _⟩, _⟩ := x; exact Heap.lt_size e
  | rng lo hi => obtain ⟨_, _, _, e⟩ := x; exact Heap.lt_size e
  | frz ob u => obtain ⟨e, _⟩ := x; exact Heap.lt_size e
  | tbl ps => exact Heap.lt_size (show h.get? a = some _ from x)
  | met f y => exact Heap.lt_size (show h.get? a = some _ from x)
  | ext φ => obtain ⟨_, ⟨_, e⟩, _⟩ := x; exact Heap.lt_size e
theorem Paired.mapP {α β : Type} {F G : α → β → Prop} : ∀ {l₁ : List α} {l₂ : List β}, Paired F l₁ l₂ → (∀ a b, F a b → G a b) → Paired G l₁ l₂
  | _, _, .nil, _ => .nil
  | _, _, .cons r t, f => .cons (f _ _ r) (Paired.mapP t f)
theorem ObjOk.stay (x : ObjOk P w H h a o) (k : ∀ b u, (b = a ∨ H b = some (.own a)) → h.get? b = some u → h'.get? b = some u)
    (ho : ∀ b, H b = some (.own a) → H' b = some (.own a)) (ht : ∀ b xs, H b = some (.tup xs) → H' b = some (.tup xs)) : ObjOk P w H' h' a o := by
  induction o with
  | lst xs => obtain ⟨z, its, n, r, e⟩ := x; exact ⟨z, its, n, r, k _ _ (.inl rfl) e⟩
  | tup xs => obtain ⟨z, its, r, ob, e, c⟩ := x; exact ⟨z, its, r, ob, k _ _ (.inl rfl) e, c⟩
  | dK kvs => obtain ⟨z, y, vs, r, ob, es, ep, e, c⟩ := x; exact ⟨z, y, vs, r, ob, es, ep, k _ _ (.inl rfl) e, c⟩
  | dT kvs =>
    obtain ⟨z, y, xs, r, ob, es, ep, e, c⟩ := x
    exact ⟨z, y, xs, Paired.mapP r fun p q z => ⟨z.1, ht _ _ z.2.1, z.2.2⟩, ob, es, ep, k _ _ (.inl rfl) e, c⟩
  | set S n => obtain ⟨ob, es, ep, t, e, c⟩ := x; exact ⟨ob, es, ep, t, k _ _ (.inl rfl) e, c⟩
  | ins C dx fs =>
    obtain ⟨d, z, ne, e, mA, ⟨od, es, ep, e2, c⟩, r⟩ := x
    exact ⟨ho _ d, z, ne, k _ _ (.inl rfl) e, mA, ⟨od, es, ep, k _ _ (.inr d) e2, c⟩, r⟩
  | own y => obtain ⟨ob, e⟩ := x; exact ⟨ob, k _ _ (.inl rfl) e⟩
  | xd fs => obtain ⟨mA, ⟨od, es, ep, e, c⟩, r⟩ := x; exact ⟨mA, ⟨od, es, ep, k _ _ (.inl rfl) e, c⟩, r⟩
  | rng lo hi => obtain ⟨t, u, v, e⟩ := x; exact ⟨t, u, v, k _ _ (.inl rfl) e⟩
  | frz ob u ih => obtain ⟨e, q⟩ := x; exact ⟨k _ _ (.inl rfl) e, ih q⟩
  | tbl ps =>
    have e : h.get? a = some { cls := .none, data := .fields ps } := x
    show h'.get? a = some { cls := .none, data := .fields ps }
    exact k a _ (.inl rfl) e
  | met f y =>
    have e : h.get? a = some (PySem.W.methodObj (.ref f) (.ref y)) := x
    show h'.get? a = some (PySem.W.methodObj (.ref f) (.ref y))
    exact k a _ (.inl rfl) e
  | ext φ => obtain ⟨p, ⟨o, e⟩, st⟩ := x; exact ⟨st _ _ p fun o q => k _ _ (.inl rfl) q, ⟨o, k _ _ (.inl rfl) e⟩, st⟩
theorem HOk.lt (x : HOk P w H h) (e : H a = some o) : a < h.objs.size := (x a o e).lt
theorem HOk.fresh (x : HOk P w H h) (e : h.objs.size ≤ a) : H a = none := by
  cases q : H a with
  | none => rfl
  | some u => exact absurd (Nat.lt_of_lt_of_le (x.lt q) e) (Nat.lt_irrefl _)
theorem HOk.kept (x : HOk P w H h) (k : ∀ b u, h.get? b = some u → h'.get? b = some u) : HOk P w H h' := fun a o e =>
  (x a o e).stay (fun b u _ q => k b u q) (fun _ q => q) fun _ _ q => q
theorem HOk.laid (x : HOk P w H h) (k : ∀ b u, h.get? b = some u → h'.get? b = some u) (hp : h.objs.size ≤ a) (new : ObjOk P w (upd H a o) h' a o) : HOk P w (upd H a o) h' := fun b u e => by
  have hn := x.fresh hp
  by_cases hb : b = a
  · subst hb; rw [upd_same] at e; cases e; exact new
  · rw [upd_ne hb] at e
    exact (x b u e).stay (fun c v _ q => k c v q) (fun c q => by rw [upd_ne (ne_of_none q hn)]; exact q) fun c xs q => by rw [upd_ne (ne_of_none q hn)]; exact q
end
def Rd (H : Hp) (a : Addr) (u : HO) : Prop := H a = some u ∨ ∃ o, H a = some (.frz o u)
theorem Rd.of {H : Hp} {a : Addr} {u : HO} (h : H a = some u) : Rd H a u := .inl h
theorem Rd.ok {P : Program} {w : World} {H : Hp} {h : Heap} {a : Addr} {u : HO} (r : Rd H a u) (x : HOk P w H h) : ObjOk P w H h a u := by
  rcases r with r | ⟨o, r⟩
  · exact x a u r
  · obtain ⟨_, q⟩ := x a _ r
    exact q
def Mut : Option HO → Prop
  | some (.lst _) => True
  | some (.dK _) => True
  | some (.dT _) => True
  | some (.set _ _) => True
  | some (.ins _ _ _) => True
  | some (.ext _) => True
  | _ => False
section
variable {P : Program} {w : World} {H : Hp} {h h' : Heap} {x e : Addr} {o' : HO}
theorem HOk.write (ok : HOk P w H h) (mu : Mut (H x)) (he : e = x ∨ H e = some (.own x)) (k : ∀ b u, b ≠ e → h.get? b = some u → h'.get? b = some u) (heo : ∃ u, h'.get? e = some u)
    (new : ObjOk P w (upd H x o') h' x o') : HOk P w (upd H x o') h' := fun b u q => by
  have nown : ∀ c y, H c = some (.own y) → c ≠ x := fun c y r z => by subst z; rw [r] at mu; exact mu
  have ntup : ∀ c xs, H c = some (.tup xs) → c ≠ x := fun c xs r z => by subst z; rw [r] at mu; exact mu
  by_cases hb : b = x
  · subst hb; rw [upd_same] at q; cases q; exact new
  · rw [upd_ne hb] at q
    by_cases hbe : b = e
    · have q' : H b = some (.own x) := by
        rcases he with z | z
        · exact absurd (hbe.trans z) hb
        · rw [hbe]; exact z
      rw [q] at q'; cases q'
      obtain ⟨v, hv⟩ := heo
      exact ⟨v, by rw [hbe]; exact hv⟩
    · refine (ok b u q).stay (fun c v hc r => k c v ?_ r) (fun c r => by rw [upd_ne (nown c b r)]; exact r) fun c xs r => by rw [upd_ne (ntup c xs r)]; exact r
      rcases hc with rfl | hc
      · exact hbe
      · rintro rfl
        rcases he with z | z
        · exact nown c b hc z
        · rw [hc] at z; cases z; exact hb rfl
end
structure Un (fs ex : List Addr) (H H' : Hp) (h h' : Heap) : Prop where
  keep : ∀ b o, h.get? b = some o → H b = none → b ∉ fs → b ∉ ex → h'.get? b = some o
  slot : ∀ b o, h.get? b = some o → H b = none → b ∈ fs → b ∉ ex → ∃ sl, h'.get? b = some { o with slots := sl }
  free : ∀ b o, h.get? b = some o → H b = none → b ∉ ex → H' b = none
  there : ∀ b o, h.get? b = some o → b ∉ ex → ∃ o', h'.get? b = some o'
  tups : ∀ b xs, H b = some (.tup xs) → H' b = some (.tup xs)
  frzs : ∀ b o u, H b = some (.frz o u) → H' b = some (.frz o u)
  tbls : ∀ b ps, H b = some (.tbl ps) → ∃ more, H' b = some (.tbl (ps ++ more))
section
variable {fs fs' ex ex' : List Addr} {H H1 H2 : Hp} {h h1 h2 h' : Heap} {a x e : Addr} {o : HO}
theorem Un.any (u : Un fs ex H H1 h h1) {b : Addr} {ob : Obj} (q : h.get? b = some ob) (n : H b = none) (hx : b ∉ ex) : ∃ sl, h1.get? b = some { ob with slots := sl } := by
  by_cases hb : b ∈ fs
  · exact u.slot b ob q n hb hx
  · exact ⟨ob.slots, u.keep b ob q n hb hx⟩
theorem Un.trans (a : Un fs ex H H1 h h1) (b : Un fs ex H1 H2 h1 h2) : Un fs ex H H2 h h2 where
  keep := fun c ob q n hc hx => b.keep c ob (a.keep c ob q n hc hx) (a.free c ob q n hx) hc hx
  slot := fun c ob q n hc hx => by
    obtain ⟨sl, e1⟩ := a.slot c ob q n hc hx
    obtain ⟨sl', e2⟩ := b.slot c _ e1 (a.free c ob q n hx) hc hx
    exact ⟨sl', e2⟩
  free := fun c ob q n hx => by
    obtain ⟨o', e1⟩ := a.there c ob q hx
    exact b.free c o' e1 (a.free c ob q n hx) hx
  there := fun c ob q hx => by
    obtain ⟨o', e1⟩ := a.there c ob q hx
    exact b.there c o' e1 hx
  tups := fun c xs q => b.tups c xs (a.tups c xs q)
  frzs := fun c ob xs q => b.frzs c ob xs (a.frzs c ob xs q)
  tbls := fun c ps q => by
    obtain ⟨m1, e1⟩ := a.tbls c ps q
    obtain ⟨m2, e2⟩ := b.tbls c _ e1
    exact ⟨m1 ++ m2, by rw [e2, Array.append_assoc]⟩
theorem Un.kept (k : ∀ b u, h.get? b = some u → h'.get? b = some u) : Un fs ex H H h h' :=
  ⟨fun b ob q _ _ _ => k b ob q, fun b ob q _ _ _ => ⟨ob.slots, k b ob q⟩, fun _ _ _ n _ => n, fun b ob q _ => ⟨ob, k b ob q⟩, fun _ _ q => q, fun _ _ _ q => q, fun _ ps q => ⟨#[], by rw [q]; simp⟩⟩
theorem Un.refl : Un fs ex H H h h := Un.kept fun _ _ q => q
theorem Un.laid (k : ∀ b u, h.get? b = some u → h'.get? b = some u) (hp : h.objs.size ≤ a) (hn : H a = none) : Un fs ex H (upd H a o) h h' where
  keep := fun b u q _ _ _ => k b u q
  slot := fun b u q _ _ _ => ⟨u.slots, k b u q⟩
  free := fun b u q n _ => by rw [upd_ne (Nat.ne_of_lt (Nat.lt_of_lt_of_le (Heap.lt_size q) hp))]; exact n
  there := fun b u q _ => ⟨u, k b u q⟩
  tups := fun b xs q => by rw [upd_ne (ne_of_none q hn)]; exact q
  frzs := fun b u xs q => by rw [upd_ne (ne_of_none q hn)]; exact q
  tbls := fun b ps q => ⟨#[], by rw [upd_ne (ne_of_none q hn), q]; simp⟩
theorem Un.write (mu : Mut (H x)) (he : e = x ∨ H e = some (.own x)) (k : ∀ b u, b ≠ e → h.get? b = some u → h'.get? b = some u) (heo : ∃ u, h'.get? e = some u) : Un fs ex H (upd H x o) h h' := by
  have hx : ∀ b, H b = none → b ≠ x := fun b n z => by subst z; rw [n] at mu; exact mu
  have hb : ∀ b, H b = none → b ≠ e := fun b n z => by
    subst z
    rcases he with r | r
    · exact hx b n r
    · rw [n] at r; cases r
  have hm : ∀ b u, H b = some u → ¬ Mut (some u) → b ≠ x := fun b u q nm z => by subst z; rw [q] at mu; exact nm mu
  refine ⟨fun b u q n _ _ => k b u (hb b n) q, fun b u q n _ _ => ⟨u.slots, k b u (hb b n) q⟩, fun b u q n _ => by rw [upd_ne (hx b n)]; exact n, fun b u q _ => ?_,
    fun b xs q => by rw [upd_ne (hm b _ q fun z => z)]; exact q, fun b u xs q => by rw [upd_ne (hm b _ q fun z => z)]; exact q, fun b ps q => ⟨#[], by rw [upd_ne (hm b _ q fun z => z), q]; simp⟩⟩
  by_cases hbe : b = e
  · subst hbe; exact heo
  · exact ⟨u, k b u hbe q⟩
theorem Un.mono (u : Un fs ex H H1 h h1) (hs : ∀ b ∈ fs, b ∈ fs') (hx : ∀ b ∈ ex, b ∈ ex') : Un fs' ex' H H1 h h1 :=
  ⟨fun b ob q n hb he => u.keep b ob q n (fun z => hb (hs b z)) fun z => he (hx b z), fun _ _ q n _ he => u.any q n fun z => he (hx _ z), fun b ob q n he => u.free b ob q n fun z => he (hx b z), fun b ob q he => u.there b ob q fun z => he (hx b z), u.tups, u.frzs, u.tbls⟩
end
def trk (h : Heap) (H : Hp) : List Addr := (List.range h.objs.size).filter fun a => (H a).isSome
def hidT (h : Heap) (H : Hp) : Heap := PySem.W.hideAll h (trk h H)
theorem hidT_size (h : Heap) (H : Hp) : (hidT h H).objs.size = h.objs.size := PySem.W.hideAll_size _ _
theorem hidT_get {h : Heap} {H : Hp} {b : Addr} {o : Obj} (e : h.get? b = some o) (n : H b = none) : (hidT h H).get? b = some o :=
  PySem.W.hideAll_get _ e fun hm => by
    have q : (H b).isSome = true := (List.mem_filter.mp hm).2
    rw [n] at q; simp at q
theorem of_hidT {h : Heap} {H : Hp} {b : Addr} {o : Obj} (e : (hidT h H).get? b = some o) : h.get? b = some o ∧ H b = none := by
  have e' : h.get? b = some o := PySem.W.of_hideAll (trk h H) e
  refine ⟨e', ?_⟩
  cases q : H b with
  | none => rfl
  | some x =>
    have hm : b ∈ trk h H := List.mem_filter.mpr ⟨List.mem_range.mpr (Heap.lt_size e'), by simp [q]⟩
    have z : (hidT h H).get? b = none := PySem.W.hideAll_none (trk h H) hm
    rw [z] at e; cases e
def allNews (g h : Heap) (L : Addr) : List (Addr × Obj) := (List.range h.objs.size).filterMap fun a => if a = L ∨ (g.get? a).isSome = true then none else (h.get? a).map fun o => (a, o)
theorem mem_allNews {g h : Heap} {L a : Addr} {o : Obj} (h1 : a ≠ L) (h2 : g.get? a = none) (h3 : h.get? a = some o) : (a, o) ∈ allNews g h L :=
  List.mem_filterMap.mpr ⟨a, List.mem_range.mpr (Heap.lt_size h3), by simp [h1, h2, h3]⟩
def rest (g h : Heap) (L d : Addr) : List (Addr × Obj) := (allNews g h L).filter fun p => decide (p.1 ≠ d)
end L2
namespace L2
open PySem PySem.Spec PyProof.Rows
structure Mod (K : PySem.W.Frag) (mg : Str → Option Value) (base : Heap) : Prop where
  kin : K.In base
  glob : base.Ns mainGlobals mg
  blt : ∃ mb, base.Ns builtinsNs mb ∧ ∀ x : Str, x ≠ "__name__" → mb x = bootBuiltins x
  nolimit : base.NoLimit
structure Cx where
  prog : Program
  w : World
  K : PySem.W.Frag
  mg : Str → Option Value
  base : Heap
  A : Around
  N : List Str
  s₀ : Shared
  H₀ : Hp
  env : Env
  outer : List Env
  stack : List Env
  ex : List Addr
  fn : Str → Bool
  calm : Bool
  pn : List (Addr × Obj)
  xe : Value → Shared → Prop
def frs (l : List Env) : List Addr := l.filterMap (·.frame)
abbrev Cx.fs (X : Cx) : List Addr := frs X.outer
def Vis (sc : Scope) (x : Str) : Prop := sc.names.lookup x = some .local ∨ sc.names.lookup x = some .cell ∨ sc.names.lookup x = some .free
def Loc (sc : Scope) (x : Str) : Prop := sc.names.lookup x = some .local ∨ sc.names.lookup x = some .cell
def Look (env : Env) (h : Heap) (m : Str → Option Value) (x : Str) (u : Value) : Prop :=
  (env.kindOf x = some .local ∧ m x = some u) ∨ ((env.kindOf x = some .cell ∨ env.kindOf x = some .free) ∧ ∃ c, env.cells.lookup x = some c ∧ h.IsCell c (some u))
structure Cx.Ok (X : Cx) : Prop where
  mod : Mod X.K X.mg X.base
  kind : X.env.scope.kind = .function
  glob : X.env.globals = mainGlobals
  blt : X.env.builtins = builtinsNs
  above : X.s₀.heap.objs.size ≤ X.env.locals
  inj : ∀ x y c, X.env.cells.lookup x = some c → X.env.cells.lookup y = some c → x = y
  has : ∀ x, (X.env.kindOf x = some .cell ∨ X.env.kindOf x = some .free) → ∃ c, X.env.cells.lookup x = some c
  cab : ∀ x c, X.fn x = true → X.env.cells.lookup x = some c → X.s₀.heap.objs.size ≤ c
  hd : X.calm = true → X.A.handled = none
  frames : X.A.frames = some X.stack
  stk : X.stack = X.outer ∨ (X.stack = X.env :: X.outer ∧ X.env.frame = some X.env.locals)
  exf : ∀ b ∈ X.ex, b ≠ X.env.locals ∧ ∀ x c, X.env.cells.lookup x = some c → c ≠ b
  bs : ∀ b o, X.base.get? b = some o → X.s₀.heap.get? b = some o ∧ X.H₀ b = none
  bsz : X.base.objs.size ≤ X.s₀.heap.objs.size
  noex : ∀ b o, X.base.get? b = some o → b ∉ X.ex
  exfs : ∀ b ∈ X.ex, b ∉ X.fs
  funs : X.s₀.heap.FunFrames X.base X.outer
  frf : ∀ b ∈ X.fs, X.H₀ b = none
structure Inv (X : Cx) (pins : List (Addr × Obj)) (σ : List (Option V)) (H : Hp) (s : Shared) : Prop where
  ok : X.Ok
  os : s.os = X.s₀.os
  bare : AllBare s.gens
  base : Un X.fs X.ex X.H₀ H X.s₀.heap s.heap
  loc : ∃ m, s.heap.Ns X.env.locals m ∧ ∀ (i : Nat) (x : Str) (v : V), X.N[i]? = some x → σ[i]? = some (some v) → Vis X.env.scope x → ∃ u, RelV v u ∧ Look X.env s.heap m x u
  cell : ∀ x c, X.env.cells.lookup x = some c → ∃ v, s.heap.IsCell c v
  free : H X.env.locals = none
  freeC : ∀ x c, X.env.cells.lookup x = some c → H c = none
  pin : ∀ p ∈ X.pn ++ pins, s.heap.get? p.1 = some p.2 ∧ H p.1 = none ∧ p.1 ≠ X.env.locals ∧ p.1 ∉ X.fs ∧ ∀ v, p.2.data ≠ .cell v
  hok : HOk X.prog X.w H s.heap
  len : σ.length = X.N.length
section
variable {X : Cx} {pins : List (Addr × Obj)} {σ : List (Option V)} {H H' : Hp} {s : Shared} {h' : Heap}
theorem Cx.Ok.nofr (ok : X.Ok) {b : Addr} {o : Obj} (e : X.base.get? b = some o) : b ∉ X.fs := fun hb => by
  have := (ok.funs.mem hb).1
  rw [e] at this; cases this
theorem Inv.bs (I : Inv X pins σ H s) : ∀ b o, X.base.get? b = some o → s.heap.get? b = some o ∧ H b = none := fun b o e =>
  ⟨I.base.keep b o (I.ok.bs b o e).1 (I.ok.bs b o e).2 (I.ok.nofr e) (I.ok.noex b o e), I.base.free b o (I.ok.bs b o e).1 (I.ok.bs b o e).2 (I.ok.noex b o e)⟩
theorem Inv.bk (I : Inv X pins σ H s) : ∀ b o, X.base.get? b = some o → s.heap.get? b = some o := fun b o e => (I.bs b o e).1
theorem Inv.mod (I : Inv X pins σ H s) : Mod X.K X.mg X.base := I.ok.mod
theorem Inv.kIn (I : Inv X pins σ H s) : X.K.In s.heap := I.ok.mod.kin.keeps I.bk
theorem Inv.nolimit (I : Inv X pins σ H s) : s.heap.NoLimit := I.ok.mod.nolimit.keeps I.bk
theorem Inv.fr (I : Inv X pins σ H s) : ∃ m, Fr X.base X.env.locals s.heap m :=
  let ⟨m, hn, _⟩ := I.loc
  ⟨m, hn, I.bk, Nat.le_trans I.ok.bsz I.ok.above⟩
theorem Inv.lt (I : Inv X pins σ H s) : X.env.locals < s.heap.objs.size := let ⟨_, hn, _⟩ := I.loc; hn.lt
theorem Inv.sz (I : Inv X pins σ H s) : X.s₀.heap.objs.size ≤ s.heap.objs.size := Nat.le_trans I.ok.above (Nat.le_of_lt I.lt)
theorem Inv.nofs (I : Inv X pins σ H s) {a : Addr} (h : s.heap.objs.size ≤ a) : a ∉ X.fs := fun hb => by
  obtain ⟨_, o, ho, _⟩ := I.ok.funs.mem hb
  exact absurd (Nat.lt_of_lt_of_le (Heap.lt_size ho) (Nat.le_trans I.sz h)) (Nat.lt_irrefl _)
theorem Inv.cne (I : Inv X pins σ H s) : ∀ x c, X.env.cells.lookup x = some c → c ≠ X.env.locals := fun x c e z => by
  obtain ⟨v, o, ho, hd⟩ := I.cell x c e
  obtain ⟨m, ⟨o', es, ep, ho', hd', _⟩, _⟩ := I.loc
  rw [z, ho'] at ho; cases ho; rw [hd'] at hd; cases hd
theorem Inv.funs (I : Inv X pins σ H s) : s.heap.FunFrames X.base X.outer := by
  have all : ∀ (l : List Env), (∀ b ∈ frs l, b ∈ X.fs) → X.s₀.heap.FunFrames X.base l → s.heap.FunFrames X.base l := by
    intro l
    induction l with
    | nil => intro _ _; trivial
    | cons env r ih =>
      intro hs hl
      obtain ⟨hk, ⟨L, o, hf, hn, ho, hd⟩, hr⟩ := hl
      have hL : L ∈ X.fs := hs L (by unfold frs; rw [List.filterMap_cons, hf]; exact List.mem_cons_self)
      obtain ⟨sl, e⟩ := I.base.slot L o ho (I.ok.frf L hL) hL fun z => I.ok.exfs L z hL
      exact ⟨hk, ⟨L, _, hf, hn, e, hd⟩, ih (fun b hb => hs b (by unfold frs; rw [List.filterMap_cons, hf]; exact List.mem_cons_of_mem _ hb)) hr⟩
  exact all X.outer (fun _ hb => hb) I.ok.funs
theorem Inv.stack (I : Inv X pins σ H s) : s.heap.FunFrames X.base X.stack := by
  rcases I.ok.stk with e | ⟨e, hf⟩
  · rw [e]; exact I.funs
  · rw [e]
    obtain ⟨m, hn, _⟩ := I.loc
    refine .cons (by rw [I.ok.kind]; decide) hf hn ?_ I.funs
    exact Heap.get?_none_of_le (Nat.le_trans I.ok.bsz I.ok.above)
theorem Inv.stkSub (I : Inv X pins σ H s) : ∀ b ∈ frs X.stack, b ∈ X.env.locals :: X.fs := fun b hb => by
  rcases I.ok.stk with e | ⟨e, hf⟩
  · rw [e] at hb; exact List.mem_cons_of_mem _ hb
  · rw [e] at hb
    unfold frs at hb
    rw [List.filterMap_cons, hf] at hb
    exact hb
theorem Inv.stkFree (I : Inv X pins σ H s) : ∀ b ∈ frs X.stack, H b = none := fun b hb => by
  rcases List.mem_cons.mp (I.stkSub b hb) with e | hb
  · rw [e]; exact I.free
  · obtain ⟨_, o, ho, _⟩ := I.ok.funs.mem hb
    exact I.base.free b o ho (I.ok.frf b hb) fun z => I.ok.exfs b z hb
theorem Inv.step {g' : Array GenState} {t' : Nat} {d' : Drawn} {ch : List Addr} (I : Inv X pins σ H s)
    (hch : ∀ b ∈ ch, (b ∈ X.ex ∨ X.s₀.heap.objs.size ≤ b) ∧ b ≠ X.env.locals ∧ (∀ x c, X.env.cells.lookup x = some c → c ≠ b) ∧ ∀ p ∈ X.pn ++ pins, p.1 ≠ b)
    (keep : ∀ b o, b ≠ X.env.locals → b ∉ X.fs → b ∉ ch → s.heap.get? b = some o → H b = none → h'.get? b = some o)
    (slot : ∀ b o, b ≠ X.env.locals → b ∈ X.fs → b ∉ ch → s.heap.get? b = some o → H b = none → ∃ sl, h'.get? b = some { o with slots := sl }) (free : ∀ b o, b ∉ ch → s.heap.get? b = some o → H b = none → H' b = none)
    (there : ∀ b o, b ∉ ch → s.heap.get? b = some o → ∃ o', h'.get? b = some o')
    (tups : ∀ b xs, H b = some (.tup xs) → H' b = some (.tup xs)) (frzs : ∀ b o u, H b = some (.frz o u) → H' b = some (.frz o u)) (tbls : ∀ b ps, H b = some (.tbl ps) → ∃ more, H' b = some (.tbl (ps ++ more)))
    (ns : ∀ m, s.heap.Ns X.env.locals m → h'.Ns X.env.locals m) (hok : HOk X.prog X.w H' h') (hg : AllBare g') :
    Inv X pins σ H' { s with heap := h', gens := g', drawn := d', toks := t' } := by
  have neL : ∀ b o, X.s₀.heap.get? b = some o → b ≠ X.env.locals := fun b o e => Nat.ne_of_lt (Nat.lt_of_lt_of_le (Heap.lt_size e) I.ok.above)
  have neC : ∀ b o, X.s₀.heap.get? b = some o → b ∉ X.ex → b ∉ ch := fun b o e hx hb => by
    rcases (hch b hb).1 with z | z
    · exact hx z
    · exact absurd (Nat.lt_of_lt_of_le (Heap.lt_size e) z) (Nat.lt_irrefl _)
  have cellK : ∀ x c, X.env.cells.lookup x = some c → ∀ v, s.heap.IsCell c v → h'.IsCell c v := fun x c e v ⟨o, ho, hd⟩ => by
    have nch : c ∉ ch := fun z => (hch c z).2.2.1 x c e rfl
    by_cases hc : c ∈ X.fs
    · obtain ⟨sl, q⟩ := slot c o (I.cne x c e) hc nch ho (I.freeC x c e)
      exact ⟨_, q, hd⟩
    · exact ⟨o, keep c o (I.cne x c e) hc nch ho (I.freeC x c e), hd⟩
  refine ⟨I.ok, I.os, hg, ⟨fun b o e n hb hx => ?_, fun b o e n hb hx => ?_, fun b o e n hx => ?_, fun b o e hx => ?_, fun b xs e => tups b xs (I.base.tups b xs e), fun b o xs e => frzs b o xs (I.base.frzs b o xs e), fun b ps e => ?_⟩, ?_, fun x c e => ?_, ?_, fun x c e => ?_, fun p hp => ?_, hok, I.len⟩
  · exact keep b o (neL b o e) hb (neC b o e hx) (I.base.keep b o e n hb hx) (I.base.free b o e n hx)
  · obtain ⟨sl, e1⟩ := I.base.slot b o e n hb hx
    obtain ⟨sl', e2⟩ := slot b _ (neL b o e) hb (neC b o e hx) e1 (I.base.free b o e n hx)
    exact ⟨sl', e2⟩
  · obtain ⟨o', e1⟩ := I.base.there b o e hx
    exact free b o' (neC b o e hx) e1 (I.base.free b o e n hx)
  · obtain ⟨o', e1⟩ := I.base.there b o e hx
    exact there b o' (neC b o e hx) e1
  · obtain ⟨m1, e1⟩ := I.base.tbls b ps e
    obtain ⟨m2, e2⟩ := tbls b _ e1
    exact ⟨m1 ++ m2, by rw [e2, Array.append_assoc]⟩
  · obtain ⟨m, hn, hl⟩ := I.loc
    refine ⟨m, ns m hn, fun i x v e1 e2 e3 => ?_⟩
    obtain ⟨u, r, l⟩ := hl i x v e1 e2 e3
    refine ⟨u, r, ?_⟩
    rcases l with l | ⟨k, c, e, z⟩
    · exact .inl l
    · exact .inr ⟨k, c, e, cellK x c e _ z⟩
  · obtain ⟨v, z⟩ := I.cell x c e
    exact ⟨v, cellK x c e v z⟩
  · obtain ⟨m, ⟨o, _, _, ho, _⟩, _⟩ := I.loc
    exact free _ o (fun z => (hch _ z).2.1 rfl) ho I.free
  · obtain ⟨v, o, ho, hd⟩ := I.cell x c e
    exact free c o (fun z => (hch c z).2.2.1 x c e rfl) ho (I.freeC x c e)
  · obtain ⟨e, n, ne, nf, d⟩ := I.pin p hp
    have nch : p.1 ∉ ch := fun z => (hch p.1 z).2.2.2 p hp rfl
    exact ⟨keep p.1 p.2 ne nf nch e n, free p.1 p.2 nch e n, ne, nf, d⟩
theorem Inv.un {t' : Nat} (I : Inv X pins σ H s) (u : Un X.fs [] H H' s.heap h') (hok : HOk X.prog X.w H' h') : Inv X pins σ H' { s with heap := h', toks := t' } := by
  obtain ⟨m, ⟨o, es, ep, ho, r⟩, _⟩ := id I.loc
  obtain ⟨sl, hL⟩ := u.any ho I.free (by simp)
  exact I.step (g' := s.gens) (d' := s.drawn) (ch := []) (fun _ z => nomatch z) (fun b o _ hb _ e n => u.keep b o e n hb (by simp)) (fun b o _ hb _ e n => u.slot b o e n hb (by simp)) (fun b o _ e n => u.free b o e n (by simp)) (fun b o _ e => u.there b o e (by simp)) u.tups u.frzs u.tbls (fun m' hm => by
    obtain ⟨o', es', ep', ho', r'⟩ := hm
    rw [ho] at ho'; cases ho'
    exact ⟨_, es', ep', hL, r'⟩) hok I.bare
theorem Inv.call {g' : Array GenState} {t' : Nat} {d' : Drawn} {ch : List Addr} (I : Inv X pins σ H s) (u : Un (frs X.stack) ch H H' s.heap h') (hok : HOk X.prog X.w H' h') (hg : AllBare g')
    (hch : ∀ b ∈ ch, (b ∈ X.ex ∨ X.s₀.heap.objs.size ≤ b) ∧ b ≠ X.env.locals ∧ (∀ x c, X.env.cells.lookup x = some c → c ≠ b) ∧ ∀ p ∈ X.pn ++ pins, p.1 ≠ b) :
    Inv X pins σ H' { s with heap := h', gens := g', drawn := d', toks := t' } := by
  obtain ⟨m, ⟨o, es, ep, ho, r⟩, _⟩ := id I.loc
  obtain ⟨sl, hL⟩ := u.any ho I.free fun z => (hch _ z).2.1 rfl
  exact I.step (ch := ch) hch (fun b o hL hb hc e n => u.keep b o e n (fun z => (List.mem_cons.mp (I.stkSub b z)).elim hL hb) hc) (fun b o _ _ hc e n => u.any e n hc) (fun b o hc e n => u.free b o e n hc) (fun b o hc e => u.there b o e hc) u.tups u.frzs u.tbls (fun m' hm => by
    obtain ⟨o', es', ep', ho', r'⟩ := hm
    rw [ho] at ho'; cases ho'
    exact ⟨_, es', ep', hL, r'⟩) hok hg
theorem Inv.turned {t' : Nat} {it : Addr} (I : Inv X pins σ H s) (k : ∀ b o, b ≠ it → s.heap.get? b = some o → h'.get? b = some o) (hn : H it = none) (hL : it ≠ X.env.locals)
    (h1 : it ∈ X.ex ∨ X.s₀.heap.objs.size ≤ it) (h2 : ∀ x c, X.env.cells.lookup x = some c → c ≠ it) (h3 : ∀ p ∈ X.pn ++ pins, p.1 ≠ it) : Inv X pins σ H { s with heap := h', toks := t' } := by
  have nit : ∀ b u, H b = some u → b ≠ it := fun b u e z => by rw [z, hn] at e; cases e
  refine I.step (g' := s.gens) (d' := s.drawn) (ch := [it]) (fun b hb => ?_) (fun b o _ _ hc e _ => k b o (fun z => hc (by simp [z])) e) (fun b o _ _ hc e _ => ⟨o.slots, k b o (fun z => hc (by simp [z])) e⟩) (fun _ _ _ _ n => n)
    (fun b o hc e => ⟨o, k b o (fun z => hc (by simp [z])) e⟩) (fun _ _ e => e) (fun _ _ _ e => e) (fun b ps e => ⟨#[], by rw [e]; simp⟩) (fun m hm => ?_) (fun b u e => ?_) I.bare
  · have e : b = it := by simpa using hb
    subst e
    exact ⟨h1, hL, h2, h3⟩
  · obtain ⟨o, es, ep, ho, r⟩ := hm
    exact ⟨o, es, ep, k _ o (Ne.symm hL) ho, r⟩
  · refine (I.hok b u e).stay (fun c v hc q => k c v ?_ q) (fun _ q => q) fun _ _ q => q
    rcases hc with z | z
    · rw [z]; exact nit b u e
    · exact nit c _ z
theorem Inv.tok (I : Inv X pins σ H s) (t : Nat) : Inv X pins σ H { s with toks := t } := I.un (h' := s.heap) (t' := t) Un.refl I.hok
theorem Inv.kept {t' : Nat} (I : Inv X pins σ H s) (k : ∀ b u, s.heap.get? b = some u → h'.get? b = some u) : Inv X pins σ H { s with heap := h', toks := t' } := I.un (Un.kept k) (I.hok.kept k)
theorem Inv.laid {a : Addr} {o : HO} {t' : Nat} (I : Inv X pins σ H s) (k : ∀ b u, s.heap.get? b = some u → h'.get? b = some u) (hp : s.heap.objs.size ≤ a) (new : ObjOk X.prog X.w (upd H a o) h' a o) :
    Inv X pins σ (upd H a o) { s with heap := h', toks := t' } := I.un (Un.laid k hp (I.hok.fresh hp)) (I.hok.laid k hp new)
theorem Inv.write {x e : Addr} {o : HO} {t' : Nat} (I : Inv X pins σ H s) (mu : Mut (H x)) (he : e = x ∨ H e = some (.own x)) (k : ∀ b u, b ≠ e → s.heap.get? b = some u → h'.get? b = some u) (heo : ∃ u, h'.get? e = some u)
    (new : ObjOk X.prog X.w (upd H x o) h' x o) : Inv X pins σ (upd H x o) { s with heap := h', toks := t' } := I.un (Un.write mu he k heo) (I.hok.write mu he k heo new)
theorem Inv.pins_of {pins' : List (Addr × Obj)} (I : Inv X pins σ H s) (h : ∀ p ∈ pins', s.heap.get? p.1 = some p.2 ∧ H p.1 = none ∧ p.1 ≠ X.env.locals ∧ p.1 ∉ X.fs ∧ ∀ v, p.2.data ≠ .cell v) : Inv X pins' σ H s :=
  ⟨I.ok, I.os, I.bare, I.base, I.loc, I.cell, I.free, I.freeC, fun p hp => (List.mem_append.mp hp).elim (fun z => I.pin p (List.mem_append_left _ z)) (h p), I.hok, I.len⟩
theorem nodup_ix {N : List Str} (hN : N.Nodup) {i j : Nat} {x : Str} (a : N[i]? = some x) (b : N[j]? = some x) : i = j := by
  obtain ⟨h1, e1⟩ := List.getElem?_eq_some_iff.mp a
  obtain ⟨h2, e2⟩ := List.getElem?_eq_some_iff.mp b
  exact (List.getElem_inj hN).mp (e1.trans e2.symm)
theorem store_ok2 {M : Model} {A : Around} {E : Value → Shared → Prop} {i : Nat} {x : Str} {v : V} {u : Value} {Q : Unit → Shared → Prop} (I : Inv X pins σ H s) (hN : X.N.Nodup) (hi : X.N[i]? = some x) (hx : Loc X.env.scope x) (r : RelV v u)
    (h : ∀ s', Inv X pins (σ.set i (some v)) H s' → (∃ a, Heap.SameBut a s.heap s'.heap ∧ (a = X.env.locals ∨ X.env.cells.lookup x = some a)) → Q () s') (hf : X.fn x = true ∨ X.env.scope.names.lookup x = some .local := by first | exact .inl rfl | exact .inr rfl | assumption) : wpAny M A (storeName X.env x u) Q E s := by
  obtain ⟨m, hn, hl⟩ := id I.loc
  have hcls : (X.env.scope.kind == .class || (X.env.scope.kind == .module && X.env.locals != X.env.globals)) = false := by rw [I.ok.kind]; rfl
  have hiσ : i < σ.length := by rw [I.len]; exact (List.getElem?_eq_some_iff.mp hi).1
  have cne := I.cne
  have tracked : ∀ {a : Addr} {h' : Heap}, (∃ o, s.heap.get? a = some o ∧ H a = none) → Heap.SameBut a s.heap h' → HOk X.prog X.w H h' := fun {a h'} ha hs b ob e => by
    obtain ⟨_, _, hfree⟩ := ha
    refine (I.hok b ob e).stay (fun c w' hc q => (hs.2 c ?_).trans q) (fun _ q => q) fun _ _ q => q
    rintro rfl
    rcases hc with rfl | hc
    · rw [hfree] at e; cases e
    · rw [hfree] at hc; cases hc
  rcases hx with hk | hk
  · refine wpAny_storeName_local hk hn (fun h' hn' hs => ?_) hcls
    obtain ⟨oL, _, _, hoL, _⟩ := id hn
    refine h _ ⟨I.ok, I.os, I.bare, ⟨fun b o e n hb hx => ?_, fun b o e n hb hx => ?_, I.base.free, fun b o e hx => ?_, I.base.tups, I.base.frzs, I.base.tbls⟩, ⟨_, hn', fun j y v' e1 e2 e3 => ?_⟩, fun y c e => ?_, I.free, I.freeC, fun p hp => ?_, tracked ⟨oL, hoL, I.free⟩ hs, by simpa using I.len⟩ ⟨_, hs, .inl rfl⟩
    · exact (hs.2 b (Nat.ne_of_lt (Nat.lt_of_lt_of_le (Heap.lt_size e) I.ok.above))).trans (I.base.keep b o e n hb hx)
    · obtain ⟨sl, e1⟩ := I.base.slot b o e n hb hx
      exact ⟨sl, (hs.2 b (Nat.ne_of_lt (Nat.lt_of_lt_of_le (Heap.lt_size e) I.ok.above))).trans e1⟩
    · obtain ⟨o', e1⟩ := I.base.there b o e hx
      exact ⟨o', (hs.2 b (Nat.ne_of_lt (Nat.lt_of_lt_of_le (Heap.lt_size e) I.ok.above))).trans e1⟩
    · by_cases hj : j = i
      · subst hj
        rw [hi] at e1; cases e1
        rw [List.getElem?_set_self hiσ] at e2
        cases e2
        exact ⟨u, r, .inl ⟨hk, by simp⟩⟩
      · rw [List.getElem?_set_ne (Ne.symm hj)] at e2
        obtain ⟨u', r', q⟩ := hl j y v' e1 e2 e3
        refine ⟨u', r', ?_⟩
        rcases q with ⟨k, e⟩ | ⟨k, c, e, z⟩
        · refine .inl ⟨k, ?_⟩
          have : y ≠ x := fun e => hj (nodup_ix hN e1 (e ▸ hi))
          simp [this, e]
        · exact .inr ⟨k, c, e, z.sameBut hs (cne y c e)⟩
    · obtain ⟨w', z⟩ := I.cell y c e
      exact ⟨w', z.sameBut hs (cne y c e)⟩
    · obtain ⟨e, n, ne, nf, d⟩ := I.pin p hp
      exact ⟨(hs.2 p.1 ne).trans e, n, ne, nf, d⟩
  · have hfn : X.fn x = true := by
      rcases hf with z | z
      · exact z
      · rw [z] at hk; cases hk
    obtain ⟨c, hc⟩ := I.ok.has x (.inl hk)
    obtain ⟨w', z⟩ := I.cell x c hc
    refine wpAny_storeName_cell I.ok.kind hk hc z (fun h' hc' hs => ?_)
    obtain ⟨oc, hoc, hocd⟩ := id z
    refine h { s with heap := h' } ⟨I.ok, I.os, I.bare, ⟨fun b o e n hb hx => ?_, fun b o e n hb hx => ?_, I.base.free, fun b o e hx => ?_, I.base.tups, I.base.frzs, I.base.tbls⟩, ⟨m, hn.sameBut hs (Ne.symm (cne x c hc)), fun j y v' e1 e2 e3 => ?_⟩, fun y c' e => ?_, I.free, I.freeC, fun p hp => ?_, tracked ⟨oc, hoc, I.freeC x c hc⟩ hs, by simpa using I.len⟩ ⟨c, hs, .inr hc⟩
    · exact (hs.2 b (Nat.ne_of_lt (Nat.lt_of_lt_of_le (Heap.lt_size e) (I.ok.cab x c hfn hc)))).trans (I.base.keep b o e n hb hx)
    · obtain ⟨sl, e1⟩ := I.base.slot b o e n hb hx
      exact ⟨sl, (hs.2 b (Nat.ne_of_lt (Nat.lt_of_lt_of_le (Heap.lt_size e) (I.ok.cab x c hfn hc)))).trans e1⟩
    · obtain ⟨o', e1⟩ := I.base.there b o e hx
      exact ⟨o', (hs.2 b (Nat.ne_of_lt (Nat.lt_of_lt_of_le (Heap.lt_size e) (I.ok.cab x c hfn hc)))).trans e1⟩
    · by_cases hj : j = i
      · subst hj
        rw [hi] at e1; cases e1
        rw [List.getElem?_set_self hiσ] at e2
        cases e2
        exact ⟨u, r, .inr ⟨.inl hk, c, hc, hc'⟩⟩
      · rw [List.getElem?_set_ne (Ne.symm hj)] at e2
        obtain ⟨u', r', q⟩ := hl j y v' e1 e2 e3
        refine ⟨u', r', ?_⟩
        rcases q with q | ⟨k, c', e, z'⟩
        · exact .inl q
        · refine .inr ⟨k, c', e, z'.sameBut hs ?_⟩
          rintro rfl
          exact hj (nodup_ix hN e1 (I.ok.inj _ _ _ e hc ▸ hi))
    · by_cases hcc : c' = c
      · subst hcc; exact ⟨_, hc'⟩
      · obtain ⟨w2, z2⟩ := I.cell y c' e
        exact ⟨w2, z2.sameBut hs hcc⟩
    · obtain ⟨e, n, ne, nf, d⟩ := I.pin p hp
      refine ⟨(hs.2 p.1 ?_).trans e, n, ne, nf, d⟩
      intro q
      rw [q, hoc] at e
      have q' : oc = p.2 := Option.some.inj e
      exact d w' (by rw [← q']; exact hocd)
theorem store_ok {M : Model} {A : Around} {E : Value → Shared → Prop} {i : Nat} {x : Str} {v : V} {u : Value} {Q : Unit → Shared → Prop} (I : Inv X pins σ H s) (hN : X.N.Nodup) (hi : X.N[i]? = some x) (hx : Loc X.env.scope x) (r : RelV v u)
    (h : ∀ s', Inv X pins (σ.set i (some v)) H s' → Q () s') (hf : X.fn x = true ∨ X.env.scope.names.lookup x = some .local := by first | exact .inl rfl | exact .inr rfl | assumption) : wpAny M A (storeName X.env x u) Q E s :=
  store_ok2 I hN hi hx r (fun s' I' _ => h s' I') hf
theorem Inv.call' {s' : Shared} {ch : List Addr} (I : Inv X pins σ H s) (ho : s'.os = s.os) (u : Un (frs X.stack) ch H H' s.heap s'.heap) (hok : HOk X.prog X.w H' s'.heap) (hg : AllBare s'.gens)
    (hch : ∀ b ∈ ch, (b ∈ X.ex ∨ X.s₀.heap.objs.size ≤ b) ∧ b ≠ X.env.locals ∧ (∀ x c, X.env.cells.lookup x = some c → c ≠ b) ∧ ∀ p ∈ X.pn ++ pins, p.1 ≠ b) : Inv X pins σ H' s' := by
  obtain ⟨h', g', d', t', o'⟩ := s'
  have e : o' = s.os := ho
  subst e
  exact I.call (g' := g') (t' := t') (d' := d') u hok hg hch
end
abbrev XK := Value → Option Addr → Hp → Prop
abbrev St := List (Option V)
abbrev VK := V → Hp → Prop
abbrev TE := St → Hp → VK → Prop
abbrev TT := St → Hp → (Bool → Hp → Prop) → Prop
abbrev TA := St → Hp → (List V → Hp → Prop) → Prop
structure Ends where
  nx : St → Hp → Prop
  rt : VK
  bk : St → Hp → Prop := fun _ _ => False
  ct : St → Hp → Prop := fun _ _ => False
abbrev TS := Ends → St → Hp → Prop
def EP (X : Cx) (pins : List (Addr × Obj)) (σ : St) (Q : VK) (u : Value) (s' : Shared) : Prop := ∃ v H', Inv X pins σ H' s' ∧ RelV v u ∧ Q v H'
def TP (X : Cx) (pins : List (Addr × Obj)) (σ : St) (Q : Bool → Hp → Prop) (b : Bool) (s' : Shared) : Prop := ∃ H', Inv X pins σ H' s' ∧ Q b H'
def AP (X : Cx) (pins : List (Addr × Obj)) (σ : St) (Q : List V → Hp → Prop) (us : List Value) (s' : Shared) : Prop := ∃ vs H', Inv X pins σ H' s' ∧ Vals vs us ∧ Q vs H'
def SP (X : Cx) (pins : List (Addr × Obj)) (D : Ends) (f : Flow) (s' : Shared) : Prop :=
  match f with
  | .next => ∃ σ' H', Inv X pins σ' H' s' ∧ D.nx σ' H'
  | .brk => ∃ σ' H', Inv X pins σ' H' s' ∧ D.bk σ' H'
  | .cont => ∃ σ' H', Inv X pins σ' H' s' ∧ D.ct σ' H'
  | .ret u => ∃ v σ' H', Inv X pins σ' H' s' ∧ RelV v u ∧ D.rt v H'
def PE (X : Cx) (e : Expr) (t : TE) : Prop :=
  ∀ (pins : List (Addr × Obj)) (s : Shared) (σ : St) (H : Hp) (Q : VK), Inv X pins σ H s → t σ H Q → wpAny (model X.prog X.w) X.A (eval e X.env) (EP X pins σ Q) X.xe s
def PT (X : Cx) (e : Expr) (t : TT) : Prop :=
  ∀ (pins : List (Addr × Obj)) (s : Shared) (σ : St) (H : Hp) (Q : Bool → Hp → Prop), Inv X pins σ H s → t σ H Q → wpAny (model X.prog X.w) X.A (isTrue e X.env (eval e X.env)) (TP X pins σ Q) X.xe s
def PW (X : Cx) (e : Expr) (t : TT) : Prop :=
  ∀ (whole : Sem Value) (pins : List (Addr × Obj)) (s : Shared) (σ : St) (H : Hp) (Q : Bool → Hp → Prop), Inv X pins σ H s → t σ H Q → wpAny (model X.prog X.w) X.A (isTrue e X.env whole) (TP X pins σ Q) X.xe s
theorem PW.pt {X : Cx} {e : Expr} {t : TT} (h : PW X e t) : PT X e t := h _
def PA (X : Cx) (es : List Expr) (t : TA) : Prop :=
  ∀ (pos : Pos) (pins : List (Addr × Obj)) (s : Shared) (σ : St) (H : Hp) (Q : List V → Hp → Prop), Inv X pins σ H s → t σ H Q → wpAny (model X.prog X.w) X.A (spliced (backTo pos (starEach es X.env))) (AP X pins σ Q) X.xe s
def PS (X : Cx) (st : Stmt) (t : TS) : Prop :=
  ∀ (pins : List (Addr × Obj)) (s : Shared) (σ : St) (H : Hp) (D : Ends), Inv X pins σ H s → t D σ H → wpAny (model X.prog X.w) X.A (exec st X.env) (SP X pins D) X.xe s
def PSs (X : Cx) (st : List Stmt) (t : TS) : Prop :=
  ∀ (pins : List (Addr × Obj)) (s : Shared) (σ : St) (H : Hp) (D : Ends), Inv X pins σ H s → t D σ H → wpAny (model X.prog X.w) X.A (execs st X.env) (SP X pins D) X.xe s
theorem thn {α : Type} {t : Sem α} {Q Q' : α → Shared → Prop} {M : Model} {A : Around} {E : Value → Shared → Prop} {s : Shared} (h : wpAny M A t Q E s) (hQ : ∀ a s, Q a s → Q' a s) : wpAny M A t Q' E s := wpAny_mono h hQ fun _ _ x => x
end L2
namespace L2
open PySem PySem.Spec PyProof.Rows
section
variable {X : Cx}
def tVar (i : Nat) : TE := fun σ H Q => ∃ v, σ[i]? = some (some v) ∧ Q v H
def tC (v : V) : TE := fun _ H Q => Q v H
theorem pe_var {i : Nat} {x : Str} {pos : Pos} (hN : X.N[i]? = some x) (hv : Vis X.env.scope x) (hd : (x == ("__debug__" : Str)) = false := by decide) (hcd : (x == ("__classdict__" : Str)) = false := by decide) : PE X (.Name x pos) (tVar i) := by
  intro pins s σ H Q I h
  obtain ⟨v, e, h⟩ := h
  obtain ⟨m, hn, hl⟩ := I.loc
  obtain ⟨u, r, l⟩ := hl i x v hN e hv
  have fin : EP X pins σ Q u s := ⟨v, H, I, r, h⟩
  rcases l with ⟨hk, hm⟩ | ⟨hk, c, hc, hcell⟩
  · exact wpAny_Name (wpAny_loadName_local I.ok.kind hk hn hm fin) hd
  · rcases hk with hk | hk
    · exact wpAny_Name (wpAny_loadName_cell I.ok.kind hk hc hcell fin) hd
    · exact wpAny_Name (wpAny_loadName_free I.ok.kind hk hc hcell fin hcd) hd
theorem pe_int {i j pos} : PE X (.Constant (.int i) j pos) (tC (.int i)) := fun _ _ _ H _ I h => wpAny_Constant_int ⟨.int i, H, I.tok _, ⟨_, rfl⟩, h⟩
theorem pe_str {x j pos} : PE X (.Constant (.str x) j pos) (tC (.str x)) := fun _ _ _ H _ I h => Calls.Constant_str ⟨.str x, H, I.tok _, ⟨_, rfl⟩, h⟩
def Gl (X : Cx) (x : Str) : Prop := X.env.kindOf x = some .globalImplicit
theorem ld_glob {E : Value → Shared → Prop} {pins : List (Addr × Obj)} {s : Shared} {σ : St} {H : Hp} {x : Str} {u : Value} {pos : Pos} {Q : Value → Shared → Prop} (I : Inv X pins σ H s) (hg : Gl X x) (hm : X.mg x = some u) (h : Q u s)
    (hd : (x == ("__debug__" : Str)) = false := by decide) : wpAny (model X.prog X.w) X.A (eval (.Name x pos) X.env) Q E s :=
  Calls.Name_function_global I.ok.kind hg (Calls.loadGlobal_global (by rw [I.ok.glob]; exact I.mod.glob.keeps I.bk) hm h) hd
theorem ld_blt {E : Value → Shared → Prop} {pins : List (Addr × Obj)} {s : Shared} {σ : St} {H : Hp} {x : Str} {u : Value} {pos : Pos} {Q : Value → Shared → Prop} (I : Inv X pins σ H s) (hg : Gl X x) (hm : X.mg x = none) (hv : bootBuiltins x = some u) (h : Q u s)
    (hn : x ≠ "__name__" := by decide) (hd : (x == ("__debug__" : Str)) = false := by decide) : wpAny (model X.prog X.w) X.A (eval (.Name x pos) X.env) Q E s := by
  obtain ⟨mb, h1, h2⟩ := I.mod.blt
  exact Calls.Name_function_global I.ok.kind hg (Calls.loadGlobal_builtin (by rw [I.ok.glob]; exact I.mod.glob.keeps I.bk) hm (by rw [I.ok.blt]; exact h1.keeps I.bk) ((h2 x hn).trans hv) h) hd
theorem pe_bltn {x : Str} {v : V} {u : Value} {pos : Pos} (hg : Gl X x) (hm : X.mg x = none) (hv : bootBuiltins x = some u) (r : RelV v u) (hn : x ≠ "__name__" := by decide) (hd : (x == ("__debug__" : Str)) = false := by decide) : PE X (.Name x pos) (tC v) :=
  fun _ _ _ H _ I h => ld_blt I hg hm hv ⟨v, H, I, r, h⟩ hn hd
variable {a b : Expr} {ta tb : TE} {pos : Pos}
def tB (t : TE) : TT := fun σ H Q => t σ H fun x H1 => ∃ c, x = .bl c ∧ Q c H1
variable {tA tB' : TT} {rest : List Expr}
def tAnd (t u : TT) : TT := fun σ H Q => t σ H fun c H1 => if c = true then u σ H1 Q else Q false H1
def tOr (t u : TT) : TT := fun σ H Q => t σ H fun c H1 => if c = true then Q true H1 else u σ H1 Q
def tNot (t : TT) : TT := fun σ H Q => t σ H fun c H1 => Q (!c) H1
def tAndV (ta tb : TE) : TE := fun σ H Q => ta σ H fun x H1 => ∃ c, x = .bl c ∧ if c = true then tb σ H1 Q else Q (.bl false) H1
def tOrV (ta tb : TE) : TE := fun σ H Q => ta σ H fun x H1 => ∃ c, x = .bl c ∧ if c = true then Q (.bl true) H1 else tb σ H1 Q
def tNotV (ta : TE) : TE := fun σ H Q => ta σ H fun x H1 => ∃ c, x = .bl c ∧ Q (.bl (!c)) H1
theorem pe_one {op} {t : TE} (h : PE X a t) : PE X (.BoolOp op [a] pos) t := fun pins s σ H Q I hw => BoolOp_one (h pins s σ H Q I hw)
theorem pe_and (ha : PE X a ta) (hb : PE X (.BoolOp .And (b :: rest) pos) tb) : PE X (.BoolOp .And (a :: b :: rest) pos) (tAndV ta tb) := by
  intro pins s σ H Q I h
  refine BoolOp_and (thn (ha pins s σ H _ I h) fun v s1 ⟨x, H1, I1, r1, q1⟩ => ?_)
  obtain ⟨c, rfl, q1⟩ := q1
  cases r1
  refine wpAny_truthy_bool ?_
  cases c with
  | true => exact hb pins s1 σ H1 Q I1 q1
  | false => exact ⟨.bl false, H1, I1, rfl, q1⟩
def tIf (t : TT) (ta tb : TE) : TE := fun σ H Q => t σ H fun c H1 => if c = true then ta σ H1 Q else tb σ H1 Q
end
end L2
namespace L2
open PySem PySem.Spec PyProof.Rows
def SqL (K : PySem.W.Frag) (H : Hp) (a : Addr) (xs : List V) : Prop :=
  Rd H a (.lst xs) ∨
    ∃ (o : Obj) (its : Array Value) (n : Nat), K.lookup a = some o ∧ o.cls = .type "list" ∧ o.dict = none ∧ o.data = .seq its n ∧ its.size ≤ sizeLine ∧ Vals xs its.toList
def SqT (K : PySem.W.Frag) (H : Hp) (a : Addr) (xs : List V) : Prop :=
  Rd H a (.tup xs) ∨
    ∃ (o : Obj) (its : Array Value) (n : Nat), K.lookup a = some o ∧ o.cls = .type "tuple" ∧ o.data = .seq its n ∧ its.size ≤ sizeLine ∧ Vals xs its.toList
def absV : Value → Option V
  | .none => some .non
  | .bool b => some (.bl b)
  | .int i _ => some (.int i)
  | .str x _ => some (.str x)
  | .bytes b _ => some (.byt b)
  | .float b _ => some (.flt b)
  | .ref a => some (.ref a)
  | .type n => some (.ty n)
  | _ => none
theorem RelV.abs {x : V} {u : Value} (r : RelV x u) : absV u = some x := by
  cases x with
  | non => cases r; rfl
  | bl _ => cases r; rfl
  | int _ => obtain ⟨t, rfl⟩ := r; rfl
  | str _ => obtain ⟨t, rfl⟩ := r; rfl
  | byt _ => obtain ⟨t, rfl⟩ := r; rfl
  | flt _ => obtain ⟨t, rfl⟩ := r; rfl
  | ref _ => cases r; rfl
  | ty _ => cases r; rfl
theorem RelV.inj {x y : V} {u : Value} (r : RelV x u) (q : RelV y u) : x = y := Option.some.inj (r.abs.symm.trans q.abs)
theorem Vals.inj : ∀ {xs ys : List V} {us : List Value}, Vals xs us → Vals ys us → xs = ys
  | _, _, _, .nil, .nil => rfl
  | _, _, _, .cons r t, .cons r' t' => by rw [r.inj r', Vals.inj t t']
section
variable {X : Cx} {pins : List (Addr × Obj)} {σ : St} {H : Hp} {s : Shared} {a : Addr} {xs ys : List V}
theorem SqL.of {K : PySem.W.Frag} (h : H a = some (.lst xs)) : SqL K H a xs := .inl (.inl h)
theorem SqT.of {K : PySem.W.Frag} (h : H a = some (.tup xs)) : SqT K H a xs := .inl (.inl h)
theorem Inv.list (I : Inv X pins σ H s) (h : SqL X.K H a xs) : ∃ its : List Value, Vals xs its ∧ PlainL s.heap a its.toArray ∧ xs.length ≤ sizeLine := by
  rcases h with h | ⟨o, its, n, hk, hc, hd, hs, hz, r⟩
  · obtain ⟨z, its, n, r, e⟩ := h.ok I.hok
    exact ⟨its, r, ⟨_, n, e, rfl, rfl, rfl⟩, z⟩
  · refine ⟨its.toList, r, ⟨o, n, I.kIn a o hk, hc, hd, by simpa using hs⟩, ?_⟩
    have e := r.length
    simp only [Array.length_toList] at e
    omega
theorem Inv.tuple (I : Inv X pins σ H s) (h : SqT X.K H a xs) : ∃ its : List Value, Vals xs its ∧ IsTup s.heap a its.toArray ∧ xs.length ≤ sizeLine := by
  rcases h with h | ⟨o, its, n, hk, hc, hs, hz, r⟩
  · obtain ⟨z, its, r, p⟩ := h.ok I.hok
    exact ⟨its, r, p, z⟩
  · refine ⟨its.toList, r, ⟨o, I.kIn a o hk, hc, n, by simpa using hs⟩, ?_⟩
    have e := r.length
    simp only [Array.length_toList] at e
    omega
theorem Inv.list_inj (I : Inv X pins σ H s) (h : SqL X.K H a xs) (h' : SqL X.K H a ys) : xs = ys := by
  obtain ⟨its, r, ⟨o, n, e, _, _, d⟩, _⟩ := I.list h
  obtain ⟨its', r', ⟨o', n', e', _, _, d'⟩, _⟩ := I.list h'
  rw [e] at e'; cases e'
  rw [d] at d'
  injection d' with d1 _
  have : its = its' := by simpa using congrArg Array.toList d1
  subst this
  exact r.inj r'
end
abbrev Cx.wish (X : Cx) (E : Value → Shared → Prop) : Cx := { X with xe := E }
abbrev Cx.nox (X : Cx) : Cx := X.wish fun _ _ => False
theorem Cx.Ok.wish {X : Cx} (ok : X.Ok) (E : Value → Shared → Prop) : (X.wish E).Ok :=
  ⟨ok.mod, ok.kind, ok.glob, ok.blt, ok.above, ok.inj, ok.has, ok.cab, ok.hd, ok.frames, ok.stk, ok.exf, ok.bs, ok.bsz, ok.noex, ok.exfs, ok.funs, ok.frf⟩
theorem Cx.Ok.unwish {X : Cx} {E : Value → Shared → Prop} (ok : (X.wish E).Ok) : X.Ok :=
  ⟨ok.mod, ok.kind, ok.glob, ok.blt, ok.above, ok.inj, ok.has, ok.cab, ok.hd, ok.frames, ok.stk, ok.exf, ok.bs, ok.bsz, ok.noex, ok.exfs, ok.funs, ok.frf⟩
section
variable {X : Cx} {pins : List (Addr × Obj)} {σ : St} {H : Hp} {s : Shared} {E : Value → Shared → Prop}
theorem Inv.wish (I : Inv X pins σ H s) (E : Value → Shared → Prop) : Inv (X.wish E) pins σ H s := ⟨I.ok.wish E, I.os, I.bare, I.base, I.loc, I.cell, I.free, I.freeC, I.pin, I.hok, I.len⟩
theorem Inv.unwish (I : Inv (X.wish E) pins σ H s) : Inv X pins σ H s := ⟨I.ok.unwish, I.os, I.bare, I.base, I.loc, I.cell, I.free, I.freeC, I.pin, I.hok, I.len⟩
theorem SP.unwish {D : Ends} {f : Flow} {s' : Shared} (h : SP (X.wish E) pins D f s') : SP X pins D f s' := by
  cases f with
  | next => obtain ⟨σ', H', I, q⟩ := h; exact ⟨σ', H', I.unwish, q⟩
  | brk => obtain ⟨σ', H', I, q⟩ := h; exact ⟨σ', H', I.unwish, q⟩
  | cont => obtain ⟨σ', H', I, q⟩ := h; exact ⟨σ', H', I.unwish, q⟩
  | ret u => obtain ⟨v, σ', H', I, r, q⟩ := h; exact ⟨v, σ', H', I.unwish, r, q⟩
theorem PE.nox {e : Expr} {t : TE} (h : PE X.nox e t) : PE X e t := fun pins s σ H Q I hw =>
  wpAny_mono (h pins s σ H Q (I.wish _) hw) (fun _ _ ⟨v, H', I', r, q⟩ => ⟨v, H', I'.unwish, r, q⟩) fun _ _ z => False.elim z
theorem PT.nox {e : Expr} {t : TT} (h : PT X.nox e t) : PT X e t := fun pins s σ H Q I hw =>
  wpAny_mono (h pins s σ H Q (I.wish _) hw) (fun _ _ ⟨H', I', q⟩ => ⟨H', I'.unwish, q⟩) fun _ _ z => False.elim z
theorem PSs.nox {st : List Stmt} {t : TS} (h : PSs X.nox st t) : PSs X st t := fun pins s σ H D I hw =>
  wpAny_mono (h pins s σ H D (I.wish _) hw) (fun _ _ q => q.unwish) fun _ _ z => False.elim z
end
section
variable {X : Cx} {st : Stmt} {rest : List Stmt} {t u : TS} {e : Expr} {te : TE} {pos : Pos}
def tNext : TS := fun D σ H => D.nx σ H
def tSeq (t u : TS) : TS := fun D σ H => t { D with nx := u D } σ H
theorem pss_nil : PSs X [] tNext := fun _ _ σ H _ I h => wpAny_execs_nil ⟨σ, H, I, h⟩
theorem pss_cons (h1 : PS X st t) (h2 : PSs X rest u) : PSs X (st :: rest) (tSeq t u) := by
  intro pins s σ H D I h
  refine wpAny_execs_cons (thn (h1 pins s σ H { D with nx := u D } I h) fun f s1 q => ?_)
  cases f with
  | next =>
    obtain ⟨σ', H', I', q⟩ := q
    exact h2 pins s1 σ' H' D I' q
  | ret v => exact q
  | brk => exact q
  | cont => exact q
theorem pss_one (h1 : PS X st t) : PSs X [st] t := by
  intro pins s σ H D I h
  refine wpAny_execs_cons (thn (h1 pins s σ H D I h) fun f s1 q => ?_)
  cases f with
  | next => exact wpAny_execs_nil q
  | ret v => exact q
  | brk => exact q
  | cont => exact q
theorem Inv.quiet {pins : List (Addr × Obj)} {σ : St} {H : Hp} {s : Shared} (I : Inv X pins σ H s) : interactive X.env = false := by simp [interactive, I.ok.kind]
def tDrop (te : TE) : TS := fun D σ H => te σ H fun _ H1 => D.nx σ H1
theorem ps_expr (he : PE X e te) (hs : swapsWith e none pos.line X.env = pure false := by rfl) : PS X (.Expr e pos) (tDrop te) := by
  intro pins s σ H D I h
  exact wpAny_Expr_any (thn (he pins s σ H _ I h) fun v s1 ⟨x, H1, I1, r1, q1⟩ => ⟨σ, H1, I1, q1⟩) I.quiet hs
def tRet (te : TE) : TS := fun D σ H => te σ H D.rt
theorem ps_ret (he : PE X e te) : PS X (.Return (some e) pos) (tRet te) := by
  intro pins s σ H D I h
  exact wpAny_Return_some (thn (he pins s σ H _ I h) fun v s1 ⟨x, H1, I1, r1, q1⟩ => ⟨x, σ, H1, I1, r1, q1⟩)
def tRetN : TS := fun D _ H => D.rt .non H
def tIfS (c : TT) (t u : TS) : TS := fun D σ H => c σ H fun b H1 => if b = true then t D σ H1 else u D σ H1
theorem ps_if {c : Expr} {a b : List Stmt} {tc : TT} (hc : PT X c tc) (ha : PSs X a t) (hb : PSs X b u) : PS X (.If c a b pos) (tIfS tc t u) := by
  intro pins s σ H D I h
  refine wpAny_If (thn (hc pins s σ H _ I h) fun d s1 ⟨H1, I1, q1⟩ => ?_)
  cases d with
  | true => exact ha pins s1 σ H1 D I1 q1
  | false => exact hb pins s1 σ H1 D I1 q1
def tNever : TS := fun _ _ _ => False
theorem pss_never {sts : List Stmt} : PSs X sts tNever := fun _ _ _ _ _ _ h => h.elim
end
abbrev TG := V → St → Hp → (St → Hp → Prop) → Prop
abbrev TGs := List V → St → Hp → (St → Hp → Prop) → Prop
def PG (X : Cx) (target : Expr) (t : TG) : Prop :=
  ∀ (pins : List (Addr × Obj)) (s : Shared) (σ : St) (H : Hp) (v : V) (u : Value) (Q : St → Hp → Prop), Inv X pins σ H s → RelV v u → t v σ H Q →
    wpAny (model X.prog X.w) X.A (assign target X.env u) (fun _ s' => ∃ σ' H', Inv X pins σ' H' s' ∧ Q σ' H') X.xe s
def PGs (X : Cx) (ts : List Expr) (t : TGs) : Prop :=
  ∀ (pins : List (Addr × Obj)) (s : Shared) (σ : St) (H : Hp) (vs : List V) (us : List Value) (Q : St → Hp → Prop), Inv X pins σ H s → Vals vs us → t vs σ H Q →
    wpAny (model X.prog X.w) X.A (assignInOrder ((assignEach ts X.env).map (·.2)) us) (fun _ s' => ∃ σ' H', Inv X pins σ' H' s' ∧ Q σ' H') X.xe s
abbrev TSet := V → V → V → Hp → (Hp → Prop) → Prop
section
variable {X : Cx} {pos : Pos}
def gName (i : Nat) : TG := fun v σ H Q => Q (σ.set i (some v)) H
theorem pg_name {i : Nat} {x : Str} (hN : X.N.Nodup) (hi : X.N[i]? = some x) (hx : Loc X.env.scope x) (hf : X.fn x = true ∨ X.env.scope.names.lookup x = some .local := by first | exact .inl rfl | exact .inr rfl | assumption) : PG X (.Name x pos) (gName i) := by
  intro pins s σ H v u Q I r h
  exact wpAny_assign_Name (store_ok I hN hi hx r (fun s' I' => ⟨_, H, I', h⟩) hf)
def gNil : TGs := fun vs σ H Q => vs = [] ∧ Q σ H
def gCons (t : TG) (u : TGs) : TGs := fun vs σ H Q => ∃ v r, vs = v :: r ∧ t v σ H fun σ' H' => u r σ' H' Q
theorem pgs_nil : PGs X [] gNil := by
  intro pins s σ H vs us Q I r h
  obtain ⟨e, h⟩ := h
  subst e
  cases r
  exact assignInOrder_nil ⟨σ, H, I, h⟩
theorem pgs_cons {e : Expr} {es : List Expr} {t : TG} {u : TGs} (h1 : PG X e t) (h2 : PGs X es u)
    (hs : (assignEach (e :: es) X.env).map (·.2) = assign e X.env :: (assignEach es X.env).map (·.2) := by rfl) : PGs X (e :: es) (gCons t u) := by
  intro pins s σ H vs us Q I r h
  obtain ⟨v, vr, e1, h⟩ := h
  subst e1
  cases r with
  | cons r rr =>
    rw [hs]
    refine assignInOrder_cons (thn (h1 pins s σ H _ _ _ I r h) fun _ s1 ⟨σ1, H1, I1, q1⟩ => ?_)
    exact h2 pins s1 σ1 H1 _ _ Q I1 rr q1
def gTup (K : PySem.W.Frag) (n : Nat) (t : TGs) : TG := fun v σ H Q => ∃ a xs, v = .ref a ∧ SqT K H a xs ∧ xs.length = n ∧ t xs σ H Q
theorem pg_tup {es : List Expr} {k : Nat} {t : TGs} {n : Nat} (hc : X.calm = true) (h : PGs X es t)
    (hn : (assignEach es X.env).length = n := by rfl) (hst : (assignEach es X.env).findIdx? (·.1) = none := by rfl) : PG X (.Tuple es k pos) (gTup X.K n t) := by
  intro pins s σ H v u Q I r hw
  obtain ⟨a, xs, e1, hq, hl, hw⟩ := hw
  subst e1
  cases r
  obtain ⟨its, rv, ht, hz⟩ := I.tuple hq
  refine assign_Tuple_tuple (I.ok.hd hc) ht (by simp [hn, ← hl, rv.length]) hst fun h' hx => ?_
  have I1 : Inv X pins σ H { s with heap := h' } := I.kept (t' := s.toks) fun b o e => hx b o (Nat.ne_of_lt (Heap.lt_size e)) e
  exact h pins _ σ H xs _ Q I1 (by simpa using rv) hw
def gSub (to ti : TE) (t : TSet) : TG := fun v σ H Q => to σ H fun o H1 => ti σ H1 fun i H2 => t o i v H2 fun H3 => Q σ H3
def tAsg (te : TE) (g : TG) : TS := fun D σ H => te σ H fun x H1 => g x σ H1 D.nx
theorem ps_asg {tg e : Expr} {te : TE} {g : TG} (he : PE X e te) (hg : PG X tg g) (hs : swapsWithSole [tg] e pos.line X.env = pure false := by rfl) (hw : swappedStores [tg] e X.env = pure none := by rfl)
    (h1 : (assignEach [tg] X.env).map (·.2) = [assign tg X.env] := by rfl) : PS X (.Assign [tg] e pos) (tAsg te g) := by
  intro pins s σ H D I h
  refine wpAny_Assign_stores (thn (he pins s σ H _ I h) fun v s1 ⟨x, H1, I1, r1, q1⟩ => ?_) hs hw
  rw [h1]
  exact thn (hg pins s1 σ H1 x v _ I1 r1 q1) fun _ s2 q => q
theorem ps_set {i : Nat} {x : Str} {e : Expr} {te : TE} {pos' : Pos} (hN : X.N.Nodup) (hi : X.N[i]? = some x) (hx : Loc X.env.scope x) (he : PE X e te) (hs : swapsWith e (some (.Name x pos')) pos.line X.env = pure false := by rfl) (hf : X.fn x = true ∨ X.env.scope.names.lookup x = some .local := by first | exact .inl rfl | exact .inr rfl | assumption) :
    PS X (.Assign [.Name x pos'] e pos) (tAsg te (gName i)) := by
  intro pins s σ H D I h
  refine wpAny_Assign_Name (thn (he pins s σ H _ I h) fun v s1 ⟨y, H1, I1, r1, q1⟩ => ?_) hs
  exact store_ok I1 hN hi hx r1 (fun s2 I2 => ⟨_, H1, I2, q1⟩) hf
def tPar (i j : Nat) (ta : TA) : TS := fun D σ H => ta σ H fun vs H1 => ∃ v w, vs = [v, w] ∧ D.nx ((σ.set i (some v)).set j (some w)) H1
theorem ps_par {i j : Nat} {x y : Str} {a b : Expr} {ta : TA} {px py pt : Pos} {kt k2 pt2} (hc : X.calm = true) (hN : X.N.Nodup) (hi : X.N[i]? = some x) (hj : X.N[j]? = some y) (hij : i ≠ j)
    (hx : X.env.scope.names.lookup x = some .local) (hy : X.env.scope.names.lookup y = some .local) (ha : PA X [a, b] ta)
    (hw : swappedStores [.Tuple [.Name x px, .Name y py] kt pt] (.Tuple [a, b] k2 pt2) X.env = pure (some [x, y]))
    (hs : swapsWithSole [.Tuple [.Name x px, .Name y py] kt pt] (.Tuple [a, b] k2 pt2) pos.line X.env = pure false := by rfl) :
    PS X (.Assign [.Tuple [.Name x px, .Name y py] kt pt] (.Tuple [a, b] k2 pt2) pos) (tPar i j ta) := by
  intro pins s σ H D I h
  rw [exec_Assign_arm]
  refine wpAny_bind (wpAny_standAt ?_)
  rw [hs]
  refine wpAny_bind (wpAny_pure ?_)
  rw [if_neg (by decide)]
  refine wpAny_bind (Tuple_ (thn (ha _ pins s σ H _ I h) fun us s1 ⟨vs, H1, I1, r1, q1⟩ => ?_))
  obtain ⟨v, w, e1, q1⟩ := q1
  subst e1
  obtain ⟨u1, u2, rfl, rv, rw'⟩ : ∃ u1 u2, us = [u1, u2] ∧ RelV v u1 ∧ RelV w u2 := by
    cases r1 with
    | cons p q =>
      cases q with
      | cons p' q' =>
        cases q'
        exact ⟨_, _, rfl, p, p'⟩
  refine wpAny_newObj_type ?_ (by show 2 ≤ sizeLine; decide)
  have I2 : Inv X pins σ H1 { s1 with heap := s1.heap.push { cls := .type "tuple", data := .seq [u1, u2].toArray } } := I1.kept (t' := s1.toks) fun b o e => Heap.get?_push_of_some _ e
  rw [hw]
  refine wpAny_bind (wpAny_pure ?_)
  show wpAny (model X.prog X.w) X.A (do rule "assign.swapped-stores"; let items ← unpackItems (.ref s1.heap.objs.size) 2 none; assignInOrder [fun v => bindName X.env y v, fun v => bindName X.env x v] items.reverse; pure Flow.next) _ _ _
  refine wpAny_bind (wpAny_rule (wpAny_bind (unpackItems_tuple (items := #[u1, u2]) (I.ok.hd hc) (IsTup.new s1.heap _) fun h' hx' => ?_)))
  have I3 := I2.kept (h' := h') (t' := s1.toks) fun b o e => hx' b o (Nat.ne_of_lt (Heap.lt_size e)) e
  show wpAny _ _ (assignInOrder [fun v => bindName X.env y v, fun v => bindName X.env x v] [u2, u1] >>= fun _ => pure Flow.next) _ _ _
  refine wpAny_bind (assignInOrder_cons (wpAny_bindName (store_ok I3 hN hj (.inl hy) rw' (fun s2 I4 => ?_) (.inr hy))))
  refine assignInOrder_cons (wpAny_bindName (store_ok I4 hN hi (.inl hx) rv (fun s3 I5 => assignInOrder_nil (wpAny_pure ?_)) (.inr hx)))
  rw [List.set_comm _ _ (Ne.symm hij)] at I5
  exact ⟨_, H1, I5, q1⟩
end
section
variable {X : Cx} {pos : Pos}
def tWhile (c : TT) (tb : TS) : TS := fun D σ H => ∃ W : Nat → St → Hp → Prop, (∃ m, W m σ H) ∧ ∀ m σ H, W m σ H →
  c σ H fun b H1 => if b = true then ∃ N : St → Hp → Prop, (∀ σ' H', N σ' H' → ∃ m', m' < m ∧ W m' σ' H') ∧ tb { D with nx := N, ct := N, bk := D.nx } σ H1 else D.nx σ H1
theorem ps_while {c : Expr} {body : List Stmt} {tc : TT} {tb : TS} (hp : PassesOwn (model X.prog X.w) X.A X.env X.xe) (hc : PT X c tc) (hb : PSs X body tb) : PS X (.While c body [] pos) (tWhile tc tb) := by
  intro pins s σ H D I h
  obtain ⟨W, ⟨m0, w0⟩, turn⟩ := h
  refine wpAny_While (codeAny_whileLoop (fun n s' => ∃ σ' H', Inv X pins σ' H' s' ∧ W n σ' H') ?_ m0 ⟨σ, H, I, w0⟩)
  rintro n s1 ⟨σ1, H1, I1, w1⟩
  refine wpAny_passesOwn hp (thn (hc pins s1 σ1 H1 _ I1 (turn n σ1 H1 w1)) fun b s2 ⟨H2, I2, q2⟩ => ?_)
  cases b with
  | true =>
    obtain ⟨N, hN, q2⟩ := q2
    rw [if_pos rfl]
    refine wpAny_passesOwn hp (thn (hb pins s2 σ1 H2 _ I2 q2) fun f s3 q3 => ?_)
    cases f with
    | next =>
      obtain ⟨σ3, H3, I3, n3⟩ := q3
      obtain ⟨m', hm, w3⟩ := hN σ3 H3 n3
      exact ⟨m', hm, σ3, H3, I3, w3⟩
    | cont =>
      obtain ⟨σ3, H3, I3, n3⟩ := q3
      obtain ⟨m', hm, w3⟩ := hN σ3 H3 n3
      exact ⟨m', hm, σ3, H3, I3, w3⟩
    | brk => exact q3
    | ret v => exact q3
  | false =>
    rw [if_neg Bool.false_ne_true]
    exact wpAny_execs_nil ⟨σ1, H2, I2, q2⟩
end
structure It where
  go : Nat → Hp → Prop
  yld : Nat → Hp → V → Hp → Prop
  stop : Nat → Hp → Prop
def FpOk (X : Cx) (pins : List (Addr × Obj)) (H : Hp) (b : Addr) : Prop :=
  H b = none ∧ b ≠ X.env.locals ∧ b ∉ X.fs ∧ (b ∈ X.ex ∨ X.s₀.heap.objs.size ≤ b) ∧ (∀ x c, X.env.cells.lookup x = some c → c ≠ b) ∧ ∀ p ∈ X.pn ++ pins, p.1 ≠ b
theorem Inv.fpOk {X : Cx} {pins : List (Addr × Obj)} {σ : St} {H H' : Hp} {s : Shared} {b : Addr} (I : Inv X pins σ H s) (hb : s.heap.objs.size ≤ b) (hn : H' b = none) : FpOk X pins H' b := by
  refine ⟨hn, Nat.ne_of_gt (Nat.lt_of_lt_of_le I.lt hb), I.nofs hb, .inr (Nat.le_trans I.sz hb), fun x c e z => ?_, fun p hp z => ?_⟩
  · obtain ⟨v, q⟩ := I.cell x c e
    exact absurd (Nat.lt_of_lt_of_le q.lt (by rw [z]; exact hb)) (Nat.lt_irrefl _)
  · exact absurd (Nat.lt_of_lt_of_le (Heap.lt_size (I.pin p hp).1) (by rw [z]; exact hb)) (Nat.lt_irrefl _)
structure Turn (P : Program) (w : World) (K : PySem.W.Frag) (tg : Expr) (J : It) (fp : List Addr) (it : Addr) (tn : Nat → Heap → Prop) : Prop where
  mem : it ∈ fp
  obj : ∀ i h, tn i h → ∀ b ∈ fp, ∃ o, h.get? b = some o ∧ ∀ v, o.data ≠ .cell v
  keep : ∀ i h h', tn i h → (∀ b ∈ fp, ∀ o, h.get? b = some o → h'.get? b = some o) → tn i h'
  item : ∀ (X : Cx), X.prog = P → X.w = w → X.K = K → X.calm = true → ∀ (i : Nat) (pins : List (Addr × Obj)) (s : Shared) (σ : St) (H : Hp) (E : Value → Shared → Prop), Inv X pins σ H s → (∀ b ∈ fp, FpOk X pins H b) → tn i s.heap → J.go i H →
    wpAny (model P w) X.A (pyNext (.ref it)) (fun r s1 => ∃ u, r = some u ∧
      wpAny (model P w) X.A (letOwnedTupleGo tg (.ref it) u) (fun _ s2 => ∃ x H', Inv X pins σ H' s2 ∧ RelV x u ∧ J.yld i H x H' ∧ tn (i + 1) s2.heap ∧ ∀ b ∈ fp, H' b = none) E s1) E s
  done : ∀ (X : Cx), X.prog = P → X.w = w → X.K = K → X.calm = true → ∀ (i : Nat) (pins : List (Addr × Obj)) (s : Shared) (σ : St) (H : Hp) (E : Value → Shared → Prop), Inv X pins σ H s → (∀ b ∈ fp, FpOk X pins H b) → tn i s.heap → J.stop i H →
    wpAny (model P w) X.A (pyNext (.ref it)) (fun r s1 => r = none ∧ Inv X pins σ H s1) E s
  self : ∀ (A : Around) (i : Nat) (s : Shared) (Q : Value → Shared → Prop) (E : Value → Shared → Prop), tn i s.heap → Q (.ref it) s → wpAny (model P w) A (pyIter (.ref it)) Q E s
abbrev TI := St → Hp → (It → Hp → Prop) → Prop
def PIE (X : Cx) (pins : List (Addr × Obj)) (σ : St) (tg : Expr) (R : It → Hp → Prop) (itv : Value) (s2 : Shared) : Prop :=
  ∃ (it : Addr) (fp : List Addr) (tn : Nat → Heap → Prop) (J : It) (H' : Hp), itv = .ref it ∧ Inv X pins σ H' s2 ∧ Turn X.prog X.w X.K tg J fp it tn ∧ tn 0 s2.heap ∧ (∀ b ∈ fp, FpOk X pins H' b) ∧ R J H'
def PI (X : Cx) (tg iter : Expr) (wi : TI) : Prop :=
  ∀ (pins : List (Addr × Obj)) (s : Shared) (σ : St) (H : Hp) (R : It → Hp → Prop), Inv X pins σ H s → wi σ H R →
    wpAny (model X.prog X.w) X.A (eval iter X.env) (fun v s1 => wpAny (model X.prog X.w) X.A (pyIter v) (PIE X pins σ tg R) X.xe s1) X.xe s
theorem go_of {M : Model} {A : Around} {E : Value → Shared → Prop} {s : Shared} {tg : Expr} {it : Addr} {u : Value} {o : Obj} {n : String} {vs : Array Value} {Q : Unit → Shared → Prop} (ho : s.heap.get? it = some o) (hc : o.cls = .type n) (hd : o.data = .fields vs)
    (hn : ["enumerate", "zip", "dict_itemiterator", "dict_reverseitemiterator", "odict_iterator", "itertools.zip_longest", "itertools.pairwise"].contains n = false) (hQ : Q () s) : wpAny M A (letOwnedTupleGo tg (.ref it) u) Q E s := by
  unfold letOwnedTupleGo
  cases tg <;> first
    | exact wpAny_pure hQ
    | (cases u <;> first
        | exact wpAny_pure hQ
        | (refine wpAny_bind (wpAny_load ho ?_)
           rw [hc, hd]
           show wpAny M A (if (["enumerate", "zip", "dict_itemiterator", "dict_reverseitemiterator", "odict_iterator", "itertools.zip_longest", "itertools.pairwise"].contains n && vs[0]? == some (rawInt _)) = true then _ else _) Q E s
           rw [if_neg (by intro h; rw [hn, Bool.false_and] at h; cases h)]
           exact wpAny_pure hQ))
def Itl (K : PySem.W.Frag) (a : Addr) : It :=
  ⟨fun i H => ∃ xs x, SqL K H a xs ∧ xs[i]? = some x, fun i H x H' => H' = H ∧ ∀ xs, SqL K H a xs → xs[i]? = some x, fun i H => ∃ xs, SqL K H a xs ∧ xs.length ≤ i⟩
def Itr (lo : Int) (n : Nat) : It := ⟨fun i _ => i < n, fun i H x H' => H' = H ∧ x = .int (lo + i), fun i _ => n ≤ i⟩
theorem turn_list {P : Program} {w : World} {K : PySem.W.Frag} {tg : Expr} (a it : Addr) : Turn P w K tg (Itl K a) [it] it (fun i h => h.IsListIter it a i) where
  mem := by simp
  obj := fun i h st b hb => by
    have e : b = it := by simpa using hb
    subst e
    obtain ⟨o, e, c, d⟩ := st
    exact ⟨o, e, fun v z => by rw [d] at z; cases z⟩
  keep := fun i h h' st k => st.at fun o e => k it (by simp) o e
  item := by
    intro X hP hw hK hc i pins s σ H E I hf st hg
    subst hP hw hK
    obtain ⟨xs, x, hq, hx⟩ := hg
    obtain ⟨its, rv, p, hz⟩ := I.list hq
    obtain ⟨u, hu, ru⟩ := rv.get hx
    obtain ⟨f0, f1, f2, f3, f4, f5⟩ := hf it (by simp)
    refine wpAny_pyNext_list_item st p.isList (x := u) (by simpa using hu) fun h' st' sb => ?_
    have I1 : Inv X pins σ H { s with heap := h' } := I.turned (t' := s.toks) (fun b o hb e => (sb.2 b hb).trans e) f0 f1 f3 f4 f5
    obtain ⟨o, e, c, d⟩ := id st'
    exact ⟨u, rfl, go_of (s := { s with heap := h' }) e c d (by decide) ⟨x, H, I1, ru, ⟨rfl, fun ys hy => by rw [I.list_inj hy hq]; exact hx⟩, st', fun b hb => (hf b hb).1⟩⟩
  done := by
    intro X hP hw hK hc i pins s σ H E I hf st hg
    subst hP hw hK
    obtain ⟨xs, hq, hx⟩ := hg
    obtain ⟨its, rv, p, hz⟩ := I.list hq
    obtain ⟨f0, f1, f2, f3, f4, f5⟩ := hf it (by simp)
    have hl := rv.length
    exact wpAny_pyNext_list_end (I.ok.hd hc) st p.isList (by simp; omega) fun h' eb => ⟨rfl, I.turned (t' := s.toks) (fun b o hb e => eb b o hb e) f0 f1 f3 f4 f5⟩
  self := fun _ _ _ _ _ st h => wpAny_pyIter_listiter st h
theorem turn_range {P : Program} {w : World} {K : PySem.W.Frag} {tg : Expr} (it : Addr) (lo : Int) (n : Nat) : Turn P w K tg (Itr lo n) [it] it (fun i h => IsRangeIter h it (lo + (i : Nat) * 1) ((n : Int) - (i : Nat)) 1) where
  mem := by simp
  obj := fun i h st b hb => by
    have e : b = it := by simpa using hb
    subst e
    exact ⟨_, st, fun v z => by
      have z' : Data.fields _ = Data.cell v := z
      cases z'⟩
  keep := fun i h h' st k => k it (by simp) _ st
  item := by
    intro X hP hw hK hc i pins s σ H E I hf st hg
    subst hP hw hK
    obtain ⟨f0, f1, f2, f3, f4, f5⟩ := hf it (by simp)
    have W := Walks.range (prog := X.prog) (w := X.w) (I.ok.hd hc) it lo 1 n
    refine W.item i s _ _ hg st fun v h' tk hv st' kk => ?_
    obtain ⟨t, rfl⟩ := hv
    have I1 : Inv X pins σ H { s with heap := h', toks := tk } := I.turned (fun b o hb e => kk b o (by simpa using hb) e) f0 f1 f3 f4 f5
    refine ⟨_, rfl, go_of (s := { s with heap := h', toks := tk }) (n := "range_iterator") st' rfl rfl (by decide) ⟨.int (lo + i), H, I1, ⟨t, ?_⟩, ⟨rfl, rfl⟩, st', fun b hb => (hf b hb).1⟩⟩
    rw [Int.mul_one]
  done := by
    intro X hP hw hK hc i pins s σ H E I hf st hg
    subst hP hw hK
    obtain ⟨f0, f1, f2, f3, f4, f5⟩ := hf it (by simp)
    exact wpAny_pyNext_range_end (I.ok.hd hc) st (by have : n ≤ i := hg; omega) fun h' eb => ⟨rfl, I.turned (t' := s.toks) (fun b o hb e => eb b o hb e) f0 f1 f3 f4 f5⟩
  self := fun _ _ _ _ _ st h => wpAny_pyIter_rangeiter st h
end L2
namespace L2
open PySem PySem.Spec PyProof.Rows
section
variable {X : Cx} {tg : Expr}
def iList (K : PySem.W.Frag) (tl : TE) : TI := fun σ H R => tl σ H fun x H1 => ∃ a, x = .ref a ∧ (∃ xs, SqL K H1 a xs) ∧ R (Itl K a) H1
theorem pi_list {l : Expr} {tl : TE} (hl : PE X l tl) : PI X tg l (iList X.K tl) := by
  intro pins s σ H R I h
  refine thn (hl pins s σ H _ I h) fun v s1 ⟨x, H1, I1, r1, q1⟩ => ?_
  obtain ⟨a, e, ⟨xs, hq⟩, q⟩ := q1
  subst e
  cases r1
  obtain ⟨its, rv, p, hz⟩ := I1.list hq
  refine wpAny_pyIter_list p.isList ?_
  refine ⟨s1.heap.objs.size, [s1.heap.objs.size], _, _, H1, rfl, I1.kept (t' := s1.toks) fun b o e => Heap.get?_push_of_some _ e, turn_list a _, ⟨_, Heap.get?_push_size _ rfl, rfl, rfl⟩, fun b hb => ?_, q⟩
  have e : b = s1.heap.objs.size := by simpa using hb
  subst e
  exact I1.fpOk (Nat.le_refl _) (I1.hok.fresh (Nat.le_refl _))
theorem range_it {pins : List (Addr × Obj)} {σ : St} {H : Hp} {s : Shared} {R : It → Hp → Prop} {E : Value → Shared → Prop} {lo hi : Int} {t u v : Tok} {tk : Nat} (I : Inv X pins σ H s) (h1 : -(2 ^ 62) ≤ lo) (h2 : lo < 2 ^ 62) (h3 : -(2 ^ 62) ≤ hi) (h4 : hi < 2 ^ 62)
    (q : R (Itr lo (hi - lo).toNat) H) : wpAny (model X.prog X.w) X.A (pyIter (.ref s.heap.objs.size)) (PIE X pins σ tg R) E { s with heap := s.heap.push { cls := .type "range", data := .fields #[.int lo t, .int hi u, .int 1 v] }, toks := tk } := by
  refine wpAny_pyIter_range (IsRange.new ..) (small_one h1 h2 h3 h4) ?_
  have I1 : Inv X pins σ H { s with heap := s.heap.push { cls := .type "range", data := .fields #[.int lo t, .int hi u, .int 1 v] }, toks := tk } := I.kept fun b o e => Heap.get?_push_of_some _ e
  refine ⟨(s.heap.push { cls := .type "range", data := .fields #[.int lo t, .int hi u, .int 1 v] }).objs.size, [(s.heap.push { cls := .type "range", data := .fields #[.int lo t, .int hi u, .int 1 v] }).objs.size], _, _, H, rfl,
    I1.kept (t' := tk) fun b o e => Heap.get?_push_of_some _ e, turn_range _ lo (hi - lo).toNat, ?_, fun b hb => ?_, q⟩
  · have e1 : lo + ((0 : Nat) : Int) * 1 = lo := by simp
    have e2 : (((hi - lo).toNat : Nat) : Int) - ((0 : Nat) : Int) = Builtin.Range.rangeSize lo hi 1 := by rw [rangeSize_one]; split <;> omega
    show IsRangeIter _ _ (lo + ((0 : Nat) : Int) * 1) ((((hi - lo).toNat : Nat) : Int) - ((0 : Nat) : Int)) 1
    rw [e1, e2]
    exact Heap.get?_push_size _ rfl
  · have e : b = (s.heap.push { cls := .type "range", data := .fields #[.int lo t, .int hi u, .int 1 v] }).objs.size := by simpa using hb
    subst e
    exact I1.fpOk (Nat.le_refl _) (I1.hok.fresh (Nat.le_refl _))
def iRng1 (ta : TA) : TI := fun σ H R => ta σ H fun vs H1 => ∃ j : Int, vs = [.int j] ∧ -(2 ^ 62) ≤ j ∧ j < 2 ^ 62 ∧ R (Itr 0 j.toNat) H1
def iRng2 (ta : TA) : TI := fun σ H R => ta σ H fun vs H1 => ∃ i j : Int, vs = [.int i, .int j] ∧ (-(2 ^ 62) ≤ i ∧ i < 2 ^ 62 ∧ -(2 ^ 62) ≤ j ∧ j < 2 ^ 62) ∧ R (Itr i (j - i).toNat) H1
theorem pi_range1 {a : Expr} {ta : TA} {p pos : Pos} (hg : Gl X "range") (hm : X.mg "range" = none) (ha : PA X [a] ta) (hs : starEach [a] X.env = [(false, eval a X.env)] := by rfl) : PI X tg (.Call (.Name "range" p) [a] [] pos) (iRng1 ta) := by
  intro pins s σ H R I h
  refine Call_ (ld_blt I hg hm boot_range (PyProof.Rows.callWith_type1 (thn (ha pos pins s σ H _ I h) fun us s1 ⟨vs, H1, I1, r1, q1⟩ => ?_) hs rfl))
  obtain ⟨j, e, q1, q2, q⟩ := q1
  subst e
  cases r1 with
  | cons r rr =>
    cases rr
    obtain ⟨t, rfl⟩ := r
    exact call_range_1 (range_it I1 (by omega) (by omega) q1 q2 (by simpa using q))
def tFor (wi : TI) (g : TG) (tb : TS) : TS := fun D σ H => wi σ H fun J H1 => ∃ W : Nat → Nat → St → Hp → Prop, (∃ m, W 0 m σ H1) ∧ ∀ i m σ H, W i m σ H →
  (J.stop i H ∧ D.nx σ H) ∨ (J.go i H ∧ ∃ N : St → Hp → Prop, (∀ σ' H', N σ' H' → ∃ m', m' < m ∧ W (i + 1) m' σ' H') ∧ ∀ x H', J.yld i H x H' → g x σ H' fun σ2 H2 => tb { D with nx := N, ct := N, bk := D.nx } σ2 H2)
def pinsAt (fp : List Addr) (h : Heap) : List (Addr × Obj) := fp.filterMap fun b => (h.get? b).map fun o => (b, o)
theorem mem_pinsAt {fp : List Addr} {h : Heap} {b : Addr} {o : Obj} (hb : b ∈ fp) (e : h.get? b = some o) : (b, o) ∈ pinsAt fp h := List.mem_filterMap.mpr ⟨b, hb, by rw [e]; rfl⟩
theorem of_pinsAt {fp : List Addr} {h : Heap} {p : Addr × Obj} (hp : p ∈ pinsAt fp h) : p.1 ∈ fp ∧ h.get? p.1 = some p.2 := by
  obtain ⟨b, hb, e⟩ := List.mem_filterMap.mp hp
  cases q : h.get? b with
  | none => rw [q] at e; cases e
  | some o =>
    rw [q] at e
    have e' : (b, o) = p := Option.some.inj e
    subst e'
    exact ⟨hb, q⟩
theorem Inv.pinned {pins : List (Addr × Obj)} {σ : St} {H : Hp} {s : Shared} {fp : List Addr} (I : Inv X pins σ H s) (hf : ∀ b ∈ fp, FpOk X pins H b) (ho : ∀ b ∈ fp, ∃ o, s.heap.get? b = some o ∧ ∀ v, o.data ≠ .cell v) : Inv X (pins ++ pinsAt fp s.heap) σ H s :=
  I.pins_of fun p hp => (List.mem_append.mp hp).elim (fun z => I.pin p (List.mem_append_right _ z)) fun z => by
    obtain ⟨hb, e⟩ := of_pinsAt z
    obtain ⟨f0, f1, f2, _⟩ := hf p.1 hb
    obtain ⟨o, e', d⟩ := ho p.1 hb
    rw [e] at e'; cases e'
    exact ⟨e, f0, f1, f2, d⟩
theorem Inv.unpinned {pins pl : List (Addr × Obj)} {σ : St} {H : Hp} {s : Shared} (I : Inv X (pins ++ pl) σ H s) : Inv X pins σ H s := I.pins_of fun p hp => I.pin p (List.mem_append_right _ (List.mem_append_left _ hp))
theorem ps_for {iter : Expr} {body : List Stmt} {wi : TI} {g : TG} {tb : TS} {pos : Pos} (hp : PassesOwn (model X.prog X.w) X.A X.env X.xe) (hc : X.calm = true) (hi : PI X tg iter wi) (hg : PG X tg g) (hb : PSs X body tb)
    (hs : ∀ x, foldedSetIterable iter X.env x = pure x := by intro _; rfl) : PS X (.For tg iter body [] pos) (tFor wi g tb) := by
  intro pins s σ H D I h
  refine wpAny_For (thn (hi pins s σ H _ I h) fun v s1 h1 => thn h1 fun itv s2 h2 => ?_) hs
  obtain ⟨it, fp, tn, J, H2, e, I2, T, st2, f2, W, ⟨m0, w0⟩, turn⟩ := h2
  subst e
  -- what stays true of the iterator's objects through the loop
  have stat : ∀ {H' : Hp}, (∀ b ∈ fp, H' b = none) → ∀ b ∈ fp, FpOk X pins H' b := fun hn b hb => ⟨hn b hb, (f2 b hb).2⟩
  refine codeAny_forLoop_any (fun n s' => ∃ i σ' H', Inv X pins σ' H' s' ∧ tn i s'.heap ∧ (∀ b ∈ fp, H' b = none) ∧ W i n σ' H') ?_ m0 ⟨0, σ, H2, I2, st2, fun b hb => (f2 b hb).1, w0⟩
  rintro n s3 ⟨i, σ3, H3, I3, st3, fr3, w3⟩
  rcases turn i n σ3 H3 w3 with ⟨stop, qn⟩ | ⟨go, N, hN, step⟩
  · refine wpAny_passesOwn hp (thn (T.done X rfl rfl rfl hc i pins s3 σ3 H3 X.xe I3 (stat fr3) st3 stop) fun r s4 ⟨hr, I4⟩ => ?_)
    subst hr
    exact wpAny_execs_nil ⟨σ3, H3, I4, qn⟩
  · refine wpAny_passesOwn hp (thn (T.item X rfl rfl rfl hc i pins s3 σ3 H3 X.xe I3 (stat fr3) st3 go) fun r s4 ⟨u, hr, h4⟩ => ?_)
    subst hr
    refine wpAny_passesOwn hp (thn h4 fun _ s5 ⟨x, H5, I5, r5, y5, st5, fr5⟩ => ?_)
    have I5' := I5.pinned (stat fr5) (T.obj _ _ st5)
    refine wpAny_passesOwn hp (thn (hg _ s5 σ3 H5 x u _ I5' r5 (step x H5 y5)) fun _ s6 ⟨σ6, H6, I6, q6⟩ => ?_)
    refine wpAny_passesOwn hp (thn (hb _ s6 σ6 H6 _ I6 q6) fun f s7 q7 => ?_)
    have again : ∀ {σ7 : St} {H7 : Hp}, Inv X (pins ++ pinsAt fp s5.heap) σ7 H7 s7 → N σ7 H7 → ∃ m, m < n ∧ ∃ i σ' H', Inv X pins σ' H' s7 ∧ tn i s7.heap ∧ (∀ b ∈ fp, H' b = none) ∧ W i m σ' H' := fun {σ7 H7} I7 n7 => by
      obtain ⟨m', hm, w7⟩ := hN σ7 H7 n7
      refine ⟨m', hm, i + 1, σ7, H7, I7.unpinned, T.keep _ _ _ st5 fun b hb o e => (I7.pin (b, o) (List.mem_append_right _ (List.mem_append_right _ (mem_pinsAt hb e)))).1, fun b hb => ?_, w7⟩
      obtain ⟨o, e, d⟩ := T.obj _ _ st5 b hb
      exact (I7.pin (b, o) (List.mem_append_right _ (List.mem_append_right _ (mem_pinsAt hb e)))).2.1
    cases f with
    | next => obtain ⟨σ7, H7, I7, n7⟩ := q7; exact again I7 n7
    | cont => obtain ⟨σ7, H7, I7, n7⟩ := q7; exact again I7 n7
    | brk => obtain ⟨σ7, H7, I7, q7⟩ := q7; exact ⟨σ7, H7, I7.unpinned, q7⟩
    | ret v => obtain ⟨x7, σ7, H7, I7, r7, q7⟩ := q7; exact ⟨x7, σ7, H7, I7.unpinned, r7, q7⟩
end
theorem for_range {lo : Int} {n : Nat} {g : TG} {tb : TS} {D : Ends} {σ : St} {H : Hp} (Pv : Nat → St → Hp → Prop) (h0 : Pv 0 σ H)
    (hs : ∀ i σ H, i < n → Pv i σ H → g (.int (lo + i)) σ H fun σ2 H2 => tb { D with nx := Pv (i + 1), ct := Pv (i + 1), bk := D.nx } σ2 H2) (hd : ∀ σ H, Pv n σ H → D.nx σ H) :
    ∃ W : Nat → Nat → St → Hp → Prop, (∃ m, W 0 m σ H) ∧ ∀ i m σ H, W i m σ H →
      ((Itr lo n).stop i H ∧ D.nx σ H) ∨ ((Itr lo n).go i H ∧ ∃ N : St → Hp → Prop, (∀ σ' H', N σ' H' → ∃ m', m' < m ∧ W (i + 1) m' σ' H') ∧ ∀ x H', (Itr lo n).yld i H x H' → g x σ H' fun σ2 H2 => tb { D with nx := N, ct := N, bk := D.nx } σ2 H2) := by
  refine ⟨fun i m σ H => m = n - i ∧ i ≤ n ∧ Pv i σ H, ⟨n, by simp, Nat.zero_le _, h0⟩, ?_⟩
  rintro i m σ H ⟨rfl, hi, p⟩
  by_cases hlt : i < n
  · refine .inr ⟨hlt, Pv (i + 1), fun σ' H' p' => ⟨n - (i + 1), by omega, rfl, hlt, p'⟩, fun x H' y => ?_⟩
    obtain ⟨e, y⟩ := y
    subst e y
    exact hs i σ _ hlt p
  · have e : i = n := by omega
    subst e
    exact .inl ⟨Nat.le_refl _, hd σ H p⟩
end L2
namespace L2
open PySem PySem.Spec PyProof.Rows
abbrev R2 := V → V → Hp → VK → Prop
def OpR (X : Cx) (f : Value → Value → Sem Value) (r : R2) : Prop :=
  ∀ (pins : List (Addr × Obj)) (s : Shared) (σ : St) (H : Hp) (x y : V) (v u : Value) (Q : VK), Inv X pins σ H s → RelV x v → RelV y u → r x y H Q →
    wpAny (model X.prog X.w) X.A (f v u) (EP X pins σ Q) X.xe s
def CallR (X : Cx) (f : Value) (r : List V → Hp → VK → Prop) : Prop :=
  ∀ (pins : List (Addr × Obj)) (s : Shared) (σ : St) (H : Hp) (xs : List V) (us : List Value) (Q : VK), Inv X pins σ H s → Vals xs us → r xs H Q →
    wpAny (model X.prog X.w) X.A (call f us) (EP X pins σ Q) X.xe s
def tOp (r : R2) (ta tb : TE) : TE := fun σ H Q => ta σ H fun x H1 => tb σ H1 fun y H2 => r x y H2 Q
def tUn (r : V → Hp → VK → Prop) (ta : TE) : TE := fun σ H Q => ta σ H fun x H1 => r x H1 Q
def rI (C : Int → Int → Prop) (g : Int → Int → V) : R2 := fun x y H Q => ∃ i j, x = .int i ∧ y = .int j ∧ C i j ∧ Q (g i j) H
def rI0 (g : Int → Int → V) : R2 := fun x y H Q => ∃ i j, x = .int i ∧ y = .int j ∧ Q (g i j) H
def rU (g : Int → V) : V → Hp → VK → Prop := fun x H Q => ∃ i, x = .int i ∧ Q (g i) H
section
variable {X : Cx} {a b c : Expr} {ta tb tc : TE} {pos : Pos}
theorem binT (ha : PE X a ta) (hb : PE X b tb) {pins : List (Addr × Obj)} {s : Shared} {σ : St} {H : Hp} {R : V → V → Hp → Prop} (I : Inv X pins σ H s)
    (h : ta σ H fun x H1 => tb σ H1 fun y H2 => R x y H2) {Q : Value → Shared → Prop} {f : Value → Value → Sem Value}
    (hf : ∀ v u s2 x y H2, Inv X pins σ H2 s2 → RelV x v → RelV y u → R x y H2 → wpAny (model X.prog X.w) X.A (f v u) Q X.xe s2) :
    wpAny (model X.prog X.w) X.A (eval a X.env) (fun v s₁ => wpAny (model X.prog X.w) X.A (eval b X.env) (fun u s₂ => wpAny (model X.prog X.w) X.A (f v u) Q X.xe s₂) X.xe s₁) X.xe s := by
  refine thn (ha pins s σ H _ I h) fun v s1 ⟨x, H1, I1, r1, q1⟩ => ?_
  refine thn (hb pins s1 σ H1 _ I1 q1) fun u s2 ⟨y, H2, I2, r2, q2⟩ => ?_
  exact hf v u s2 x y H2 I2 r1 r2 q2
theorem pe_op {op : Operator} {r : R2} (ho : OpR X (binaryOp op) r) (ha : PE X a ta) (hb : PE X b tb) : PE X (.BinOp a op b pos) (tOp r ta tb) := by
  intro pins s σ H Q I h
  exact wpAny_BinOp (binT ha hb I h fun v u s2 x y H2 I2 rx ry q => ho pins s2 σ H2 x y v u Q I2 rx ry q)
theorem opI {f : Value → Value → Sem Value} {C : Int → Int → Prop} {g : Int → Int → Int}
    (rule : ∀ (i j : Int) (t u : Tok) (s : Shared) (Q : Value → Shared → Prop) (E : Value → Shared → Prop), C i j → Q (.int (g i j) s.toks) { s with toks := s.toks + 1 } → wpAny (model X.prog X.w) X.A (f (.int i t) (.int j u)) Q E s) :
    OpR X f (rI C fun i j => .int (g i j)) := by
  intro pins s σ H x y v u Q I rx ry h
  obtain ⟨i, j, rfl, rfl, hc, q⟩ := h
  obtain ⟨t, rfl⟩ := rx
  obtain ⟨t', rfl⟩ := ry
  exact rule i j t t' s _ _ hc ⟨.int (g i j), H, I.tok _, ⟨_, rfl⟩, q⟩
theorem opI0 {f : Value → Value → Sem Value} {g : Int → Int → Int}
    (rule : ∀ (i j : Int) (t u : Tok) (s : Shared) (Q : Value → Shared → Prop) (E : Value → Shared → Prop), Q (.int (g i j) s.toks) { s with toks := s.toks + 1 } → wpAny (model X.prog X.w) X.A (f (.int i t) (.int j u)) Q E s) :
    OpR X f (rI0 fun i j => .int (g i j)) := by
  intro pins s σ H x y v u Q I rx ry h
  obtain ⟨i, j, rfl, rfl, q⟩ := h
  obtain ⟨t, rfl⟩ := rx
  obtain ⟨t', rfl⟩ := ry
  exact rule i j t t' s _ _ ⟨.int (g i j), H, I.tok _, ⟨_, rfl⟩, q⟩
theorem opB0 {f : Value → Value → Sem Value} {g : Int → Int → Bool}
    (rule : ∀ (i j : Int) (t u : Tok) (s : Shared) (Q : Value → Shared → Prop) (E : Value → Shared → Prop), Q (.bool (g i j)) s → wpAny (model X.prog X.w) X.A (f (.int i t) (.int j u)) Q E s) :
    OpR X f (rI0 fun i j => .bl (g i j)) := by
  intro pins s σ H x y v u Q I rx ry h
  obtain ⟨i, j, rfl, rfl, q⟩ := h
  obtain ⟨t, rfl⟩ := rx
  obtain ⟨t', rfl⟩ := ry
  exact rule i j t t' s _ _ ⟨.bl (g i j), H, I, rfl, q⟩
def CPow (i j : Int) : Prop := 0 ≤ j ∧ j ≤ 1000000 ∧ i.natAbs < 2 ^ 64
def CMul (i j : Int) : Prop := (-(2 ^ 64) < i ∧ i < 2 ^ 64) ∨ (-(2 ^ 64) < j ∧ j < 2 ^ 64)
theorem CMul.ok {i j : Int} (h : CMul i j) : IntMulOk i j := by
  rcases h with ⟨h1, h2⟩ | ⟨h1, h2⟩
  · exact .of_left (intBits_le_64 h1 h2)
  · exact .of_right (intBits_le_64 h1 h2)
theorem op_add : OpR X (binaryOp .Add) (rI0 fun i j => .int (i + j)) := opI0 fun _ _ _ _ _ _ _ q => add_int q
theorem op_sub : OpR X (binaryOp .Sub) (rI0 fun i j => .int (i - j)) := opI0 fun _ _ _ _ _ _ _ q => sub_int q
theorem op_mul : OpR X (binaryOp .Mult) (rI CMul fun i j => .int (i * j)) := opI fun _ _ _ _ _ _ _ hc q => mul_int q hc.ok
theorem op_mod : OpR X (binaryOp .Mod) (rI (fun _ j => 0 < j) fun i j => .int (i % j)) := opI fun i j _ _ _ _ _ hc q => by
  have h1 : (0 : Int) < j := hc
  exact mod_int' (by omega) (by rw [Int.fmod_eq_emod_of_nonneg i (by omega)]; exact q)
theorem op_pow : OpR X (binaryOp .Pow) (rI CPow fun i j => .int (i ^ j.toNat)) := opI fun _ _ _ _ _ _ _ hc q => pow_int_small hc.1 hc.2.1 hc.2.2 q
end
def scal : V → V → Bool
  | .non, .non => true | .non, .int _ => true | .int _, .non => true | .non, .bl _ => true | .bl _, .non => true | .non, .str _ => true | .str _, .non => true
  | .int _, .int _ => true | .bl _, .bl _ => true | .str _, .str _ => true | .byt _, .byt _ => true
  | .int _, .str _ => true | .str _, .int _ => true | .bl _, .str _ => true | .str _, .bl _ => true
  | _, _ => false
def rEq : R2 := fun x y H Q => scal x y = true ∧ Q (.bl (decide (x = y))) H
def rNe : R2 := fun x y H Q => scal x y = true ∧ Q (.bl (!decide (x = y))) H
theorem dec_int {i j : Int} : decide (V.int i = V.int j) = (i == j) := by
  rw [Bool.eq_iff_iff]
  simp
theorem dec_bl {i j : Bool} : decide (V.bl i = V.bl j) = (i == j) := by
  rw [Bool.eq_iff_iff]
  simp
theorem dec_str {i j : Str} : decide (V.str i = V.str j) = (i == j) := by
  rw [Bool.eq_iff_iff]
  simp
theorem dec_byt {i j : Array UInt8} : decide (V.byt i = V.byt j) = (i.toList == j.toList) := by
  rw [Bool.eq_iff_iff]
  cases i
  cases j
  simp
section
variable {X : Cx} {a b c : Expr} {ta tb tc : TE} {pos : Pos}
theorem fin_bl {pins : List (Addr × Obj)} {σ : St} {H : Hp} {s : Shared} {Q : VK} {k k' : Bool} (I : Inv X pins σ H s) (q : Q (.bl k) H) (e : k = k') : EP X pins σ Q (.bool k') s := by
  subst e
  exact ⟨.bl k, H, I, rfl, q⟩
theorem op_eq : OpR X (compareOp .Eq) rEq := by
  intro pins s σ H x y v u Q I rx ry h
  obtain ⟨hs, q⟩ := h
  cases x with
  | non =>
    cases rx
    cases y with
    | non => cases ry; exact PySem.EqNone.eq_none_none (fin_bl I q (by simp))
    | bl j => cases ry; exact PySem.EqNone.eq_none_bool (fin_bl I q (by simp))
    | int j => obtain ⟨t', rfl⟩ := ry; exact PySem.EqNone.eq_none_int (fin_bl I q (by simp))
    | str j => obtain ⟨t', rfl⟩ := ry; exact PySem.EqNone.eq_none_str (fin_bl I q (by simp))
    | _ => exact absurd (show false = true from hs) Bool.false_ne_true
  | bl i =>
    cases rx
    cases y with
    | non => cases ry; exact PySem.EqNone.eq_bool_none (fin_bl I q (by simp))
    | bl j => cases ry; exact eq_bool (fin_bl I q dec_bl)
    | str j => obtain ⟨t', rfl⟩ := ry; exact PySem.EqMixed.eq_bool_str (fin_bl I q (by simp))
    | _ => exact absurd (show false = true from hs) Bool.false_ne_true
  | int i =>
    obtain ⟨t, rfl⟩ := rx
    cases y with
    | non => cases ry; exact PySem.EqNone.eq_int_none (fin_bl I q (by simp))
    | int j => obtain ⟨t', rfl⟩ := ry; exact eq_int (fin_bl I q dec_int)
    | str j => obtain ⟨t', rfl⟩ := ry; exact PySem.EqMixed.eq_int_str (fin_bl I q (by simp))
    | _ => exact absurd (show false = true from hs) Bool.false_ne_true
  | str i =>
    obtain ⟨t, rfl⟩ := rx
    cases y with
    | non => cases ry; exact PySem.EqNone.eq_str_none (fin_bl I q (by simp))
    | bl j => cases ry; exact PySem.EqMixed.eq_str_bool (fin_bl I q (by simp))
    | int j => obtain ⟨t', rfl⟩ := ry; exact PySem.EqMixed.eq_str_int (fin_bl I q (by simp))
    | str j => obtain ⟨t', rfl⟩ := ry; exact eq_str (fin_bl I q dec_str)
    | _ => exact absurd (show false = true from hs) Bool.false_ne_true
  | byt i =>
    obtain ⟨t, rfl⟩ := rx
    cases y with
    | byt j => obtain ⟨t', rfl⟩ := ry; exact PySem.W.eq_bytes (fin_bl I q dec_byt)
    | _ => exact absurd (show false = true from hs) Bool.false_ne_true
  | _ => cases y <;> exact absurd (show false = true from hs) Bool.false_ne_true
theorem op_lt : OpR X (compareOp .Lt) (rI0 fun i j => .bl (decide (i < j))) := opB0 fun _ _ _ _ _ _ _ q => lt_int q
theorem op_gt : OpR X (compareOp .Gt) (rI0 fun i j => .bl (decide (j < i))) := opB0 fun _ _ _ _ _ _ _ q => gt_int q
theorem op_ge : OpR X (compareOp .GtE) (rI0 fun i j => .bl (decide (j ≤ i))) := opB0 fun _ _ _ _ _ _ _ q => ge_int q
theorem nomark (b : Expr) {op : CmpOp} (h : op ≠ .In := by decide) (h2 : op ≠ .NotIn := by decide) : behindInMarks op b = false := by
  have e1 : (op == CmpOp.In) = false := by cases op <;> first | rfl | exact absurd rfl h
  have e2 : (op == CmpOp.NotIn) = false := by cases op <;> first | rfl | exact absurd rfl h2
  cases b <;> simp [behindInMarks, e1, e2]
theorem pe_cmpR {op : CmpOp} {r : R2} (ho : OpR X (compareOp op) r) (ha : PE X a ta) (hb : PE X b tb) (hm : behindInMarks op b = false) : PE X (.Compare a [op] [b] pos) (tOp r ta tb) := by
  intro pins s σ H Q I h
  exact wpAny_Compare1 (binT ha hb I h fun v u s2 x y H2 I2 rx ry q => ho pins s2 σ H2 x y v u Q I2 rx ry q) hm
def tTest (t : TE) : TT := fun σ H Q => t σ H fun x H' => ∃ k, x = .bl k ∧ Q k H'
theorem pt_cmpR {op : CmpOp} {r : R2} (ho : OpR X (compareOp op) r) (ha : PE X a ta) (hb : PE X b tb) (hm : behindInMarks op b = false) : PT X (.Compare a [op] [b] pos) (tTest (tOp r ta tb)) := by
  intro pins s σ H Q I h
  refine wpAny_isTrue_Compare1 (thn (ha pins s σ H _ I h) fun v s1 ⟨x, H1, I1, r1, q1⟩ => thn (hb pins s1 σ H1 _ I1 q1) fun u s2 ⟨y, H2, I2, r2, q2⟩ =>
    thn (ho pins s2 σ H2 x y v u _ I2 r1 r2 q2) fun c s3 ⟨z, H3, I3, r3, k, e, q3⟩ => ?_) hm
  subst e
  cases r3
  exact wpAny_truthy_bool ⟨H3, I3, q3⟩
theorem line63 : (sizeLine : Nat) < 2 ^ 63 := by rw [sizeLine_eq]; decide
theorem op_add_str : OpR X (binaryOp .Add) (fun x y H Q => ∃ i j, x = .str i ∧ y = .str j ∧ i.length + j.length ≤ sizeLine ∧ Q (.str (i ++ j)) H) := by
  intro pins s σ H x y v u Q I rx ry h
  obtain ⟨i, j, rfl, rfl, hz, q⟩ := h
  obtain ⟨t, rfl⟩ := rx
  obtain ⟨t', rfl⟩ := ry
  exact add_str (fun t' tk => ⟨.str (i ++ j), H, I.tok _, ⟨_, rfl⟩, q⟩) hz
theorem vals1 {x : V} {us : List Value} (r : Vals [x] us) : ∃ u, us = [u] ∧ RelV x u := by
  cases r with
  | cons r1 r2 => cases r2; exact ⟨_, rfl, r1⟩
theorem vals2 {x y : V} {us : List Value} (r : Vals [x, y] us) : ∃ u w', us = [u, w'] ∧ RelV x u ∧ RelV y w' := by
  cases r with
  | cons r1 r2 =>
    cases r2 with
    | cons r3 r4 => cases r4; exact ⟨_, _, rfl, r1, r3⟩
theorem call_abs : CallR X (.builtin "abs") (fun xs H Q => ∃ i, xs = [.int i] ∧ Q (.int (if i < 0 then -i else i)) H) := by
  intro pins s σ H xs us Q I r h
  obtain ⟨i, rfl, q⟩ := h
  obtain ⟨u, rfl, t, rfl⟩ := vals1 r
  exact call_abs_int fun u tk => ⟨.int (if i < 0 then -i else i), H, I.tok _, ⟨_, rfl⟩, q⟩
theorem call_int1 : CallR X (.type "int") (fun xs H Q => (∃ i, xs = [.int i] ∧ Q (.int i) H) ∨ ∃ k, xs = [.bl k] ∧ Q (.int (if k then 1 else 0)) H) := by
  intro pins s σ H xs us Q I r h
  rcases h with ⟨i, rfl, q⟩ | ⟨k, rfl, q⟩
  · obtain ⟨u, rfl, t, rfl⟩ := vals1 r
    exact call_int_int ⟨.int i, H, I, ⟨_, rfl⟩, q⟩
  · obtain ⟨u, rfl, r1⟩ := vals1 r
    cases r1
    exact call_int_bool ⟨.int (if k then 1 else 0), H, I.tok _, ⟨_, rfl⟩, q⟩
theorem call_str_int : CallR X (.type "str") (fun xs H Q => ∃ i, xs = [.int i] ∧ i.natAbs.log2 < 1920 ∧ Q (.str (toString i)) H) := by
  intro pins s σ H xs us Q I r h
  obtain ⟨i, rfl, hz, q⟩ := h
  obtain ⟨u, rfl, t, rfl⟩ := vals1 r
  exact PySem.P.str_of_int hz ⟨.str _, H, I.tok _, ⟨_, rfl⟩, q⟩
end
end L2
namespace L2
open PySem PySem.Spec PyProof.Rows
structure ObjM (h : Heap) (x dx C : Addr) (mA : Str → Option Value) : Prop where
  obj : h.get? x = some (PySem.W.instObj C dx)
  ns : h.Ns1 dx mA
  ne : dx ≠ x
section
variable {prog : Program} {w : World} {A : Around} {E : Value → Shared → Prop} {s : Shared} {K : PySem.W.Frag} {x dx C f : Addr} {mA : Str → Option Value} {name : Str} {v : Value}
end
section
variable {P : Program} {w : World} {H H' : Hp} {h h' : Heap} {a C dx : Addr} {fs fs' : List (Str × V)}
end
structure Cls (K : PySem.W.Frag) (C : Addr) : Prop where
  pg : PySem.W.plainGet K C Str.empty = true
  hd : PySem.W.hasDictIn K C = true
  po : PySem.W.plainOver K C = true
  sa : PySem.W.findIn K (.ref C) "__setattr__" = some (some (.builtin "object.__setattr__"))
theorem Cls.get {K : PySem.W.Frag} {C : Addr} (c : Cls K C) (f : Str) : PySem.W.plainGet K C f = true := c.pg
structure Con (K : PySem.W.Frag) (C : Addr) (f : Str) (v : V) (u : Value) : Prop where
  at_ : PySem.W.findIn K (.ref C) f = some (some u)
  rel : RelV v u
  get : PySem.W.specialIn K u "__get__" = some none
  cp : PySem.W.copiedNames.contains f = false
structure Meth (K : PySem.W.Frag) (C : Addr) (m : Str) (f : Addr) : Prop where
  at_ : PySem.W.findIn K (.ref C) m = some (some (.ref f))
  fn : PySem.W.isFn K (.ref f) = true
  kp : PySem.W.keepIn K (.ref f) = true
section
variable {X : Cx} {pins : List (Addr × Obj)} {σ : St} {H : Hp} {s : Shared} {a C dx : Addr} {fs : List (Str × V)} {f : Str} {v : V} {A : Around} {E : Value → Shared → Prop}
end
section
variable {X : Cx} {o e value : Expr} {f : Str} {pos pos' tpos : Pos} {ta tv : TE}
end
section
variable {X : Cx} {pins : List (Addr × Obj)} {σ : St} {H : Hp} {s : Shared} {A : Around} {E : Value → Shared → Prop} {Q : Value → Shared → Prop} {c : Value} {b : Bool}
inductive TyOf (K : PySem.W.Frag) (H : Hp) : V → Value → Prop where
  | non : TyOf K H .non (.type "NoneType")
  | bl (x : Bool) : TyOf K H (.bl x) (.type "bool")
  | int (i : Int) : TyOf K H (.int i) (.type "int")
  | str (x : Str) : TyOf K H (.str x) (.type "str")
  | flt (x : UInt64) : TyOf K H (.flt x) (.type "float")
  | lst {a : Addr} {xs : List V} (e : H a = some (.lst xs)) : TyOf K H (.ref a) (.type "list")
  | frz {a : Addr} {o : Obj} {xs : List V} (e : H a = some (.frz o (.lst xs))) : TyOf K H (.ref a) (.type "list")
  | tup {a : Addr} {xs : List V} (e : H a = some (.tup xs)) : TyOf K H (.ref a) (.type "tuple")
  | dK {a : Addr} {kvs : List (Key × V)} (e : H a = some (.dK kvs)) : TyOf K H (.ref a) (.type "dict")
  | dT {a : Addr} {kvs : List (List Key × V)} (e : H a = some (.dT kvs)) : TyOf K H (.ref a) (.type "dict")
  | ins {a C dx : Addr} {fs : List (Str × V)} (e : H a = some (.ins C dx fs)) (cl : Cls K C) (ha : PySem.W.findIn K (.ref C) "__class__" = some (some (.builtin "object.__class__")))
      (hn : PySem.W.specialIn K (.builtin "object.__class__") "__get__" = some (some (.builtin "getset_descriptor.__get__"))) (htk : PySem.W.takesIn K (.builtin "object.__class__") = some true)
      (hm : PySem.W.mroIn K C (.type "object") = some true) : TyOf K H (.ref a) (.ref C)
end
end L2
namespace L2
open PySem PySem.Spec PyProof.Rows
structure Room (k : Nat) (A : Around) : Prop where
  hd : A.handled = none
  dp : A.depth + 3 * k + 5 < recursionLimit
  un : A.units + 16 * k + 200 < cLine
theorem Room.mono {j k : Nat} {A : Around} (r : Room k A) (h : j ≤ k) : Room j A := ⟨r.hd, by have := r.dp; omega, by have := r.un; omega⟩
theorem Room.deeper {k : Nat} {A : Around} (r : Room (k + 1) A) (env : Env) : Room k (A.deeper env) :=
  ⟨r.hd, by have := r.dp; show A.depth + 1 + 3 * k + 5 < _; omega, by have := r.un; show A.units + 3 + 16 * k + 200 < _; omega⟩
theorem Room.in1 {k : Nat} {A : Around} (r : Room (k + 1) A) : Room k A.in1 :=
  ⟨r.hd, by have := r.dp; show A.depth + 3 * k + 5 < _; omega, by have := r.un; show A.units + 1 + 16 * k + 200 < _; omega⟩
theorem Room.depth {k : Nat} {A : Around} (r : Room k A) : A.depth < recursionLimit := by have := r.dp; omega
theorem Room.units {k : Nat} {A : Around} (r : Room k A) : A.units + 64 < cLine := by have := r.un; omega
def tNil : TA := fun _ H Q => Q [] H
def tCons (ta : TE) (tr : TA) : TA := fun σ H Q => ta σ H fun x H1 => tr σ H1 fun xs H2 => Q (x :: xs) H2
section
variable {X : Cx} {e : Expr} {es : List Expr} {te : TE} {t : TA} {pos : Pos}
theorem pa_nil : PA X [] tNil := fun _ _ _ _ H Q I h => Calls.spliced_nil ⟨[], H, I, .nil, h⟩
theorem pa_cons (ha : PE X e te) (hr : PA X es t) (hs : starEach (e :: es) X.env = (false, eval e X.env) :: starEach es X.env := by rfl) : PA X (e :: es) (tCons te t) := by
  intro pos pins s σ H Q I h
  rw [hs]
  show wpAny _ _ (spliced ((false, eval e X.env) :: backTo pos (starEach es X.env))) _ _ s
  refine Calls.spliced_cons (thn (ha pins s σ H _ I h) fun u s1 ⟨x, H1, I1, r1, q1⟩ => ?_)
  exact thn (hr pos pins s1 σ H1 _ I1 q1) fun us s2 ⟨xs, H2, I2, r2, q2⟩ => ⟨x :: xs, H2, I2, .cons r1 r2, q2⟩
def tTup (t : TA) : TE := fun σ H Q => t σ H fun xs H1 => xs.length ≤ sizeLine ∧ ∀ p, H1 p = none → Q (.ref p) (upd H1 p (.tup xs))
def tLst (t : TA) : TE := fun σ H Q => t σ H fun xs H1 => xs.length ≤ sizeLine ∧ ∀ p, H1 p = none → Q (.ref p) (upd H1 p (.lst xs))
theorem pe_tup {x1} (h : PA X es t) : PE X (.Tuple es x1 pos) (tTup t) := by
  intro pins s σ H Q I hq
  refine wpAny_Tuple_spliced (thn (h pos pins s σ H _ I hq) fun us s1 ⟨xs, H1, I1, r, z, q⟩ => ⟨by rw [← r.length]; exact z, ?_⟩)
  have hf : H1 s1.heap.objs.size = none := I1.hok.fresh (Nat.le_refl _)
  refine ⟨.ref s1.heap.objs.size, upd H1 s1.heap.objs.size (.tup xs), I1.laid (t' := s1.toks) (fun b u e => Heap.get?_push_of_some _ e) (Nat.le_refl _) ?_, rfl, q _ hf⟩
  exact ⟨z, us, r, ⟨_, Heap.get?_push_size _ rfl, rfl, _, rfl⟩⟩
theorem pe_lst (h : PA X es t) : PE X (.List es pos) (tLst t) := by
  intro pins s σ H Q I hq
  refine wpAny_List_spliced (thn (h pos pins s σ H _ I hq) fun us s1 ⟨xs, H1, I1, r, z, q⟩ => ⟨by rw [← r.length]; exact z, ?_⟩)
  have hf : H1 s1.heap.objs.size = none := I1.hok.fresh (Nat.le_refl _)
  refine ⟨.ref s1.heap.objs.size, upd H1 s1.heap.objs.size (.lst xs), I1.laid (t' := s1.toks) (fun b u e => Heap.get?_push_of_some _ e) (Nat.le_refl _) ?_, rfl, q _ hf⟩
  exact ⟨z, us, 0, r, Heap.get?_push_size _ rfl⟩
end
abbrev Sp := List V → Hp → VK → XK → Prop
abbrev CXT := List Env → Hp → Shared → XK → Value → Shared → Prop
structure Env0 (P : Program) (w : World) (K : PySem.W.Frag) (mg : Str → Option Value) (base : Heap) (A : Around) (outer : List Env) (s : Shared) (H : Hp) : Prop where
  frames : A.frames = some outer
  mod : Mod K mg base
  bs : ∀ b o, base.get? b = some o → s.heap.get? b = some o ∧ H b = none
  bsz : base.objs.size ≤ s.heap.objs.size
  funs : s.heap.FunFrames base outer
  frf : ∀ b ∈ frs outer, H b = none
  hok : HOk P w H s.heap
  bare : AllBare s.gens
def CE (outer : List Env) (P : Program) (w : World) (H : Hp) (s : Shared) (Q : VK) (u : Value) (s' : Shared) : Prop :=
  ∃ v H', s'.os = s.os ∧ AllBare s'.gens ∧ Un (frs outer) [] H H' s.heap s'.heap ∧ HOk P w H' s'.heap ∧ RelV v u ∧ Q v H'
def CR (CX : CXT) (outer : List Env) (P : Program) (w : World) (H : Hp) (s : Shared) (Q : VK) (E : XK) (r : Result) (s' : Shared) : Prop :=
  match r with
  | .ok (.ret u) => CE outer P w H s Q u s'
  | .ok _ => False
  | .error e => CX outer H s E e s'
structure FnOk (P : Program) (w : World) (K : PySem.W.Frag) (mg : Str → Option Value) (base : Heap) (CX : CXT) (k : Nat) (f : Addr) (fd : FuncData) (ps : List Str) (sp : Sp) : Prop where
  len : ∀ vs H Q E, sp vs H Q E → vs.length = ps.length
  run : ∀ (A : Around) (outer : List Env) (s : Shared) (H : Hp) (args : Args) (us : List Value) (vs : List V) (Q : VK) (E : XK), Room k A → Env0 P w K mg base A outer s H → BindsTo s fd args (ps.zip us) → Vals vs us → sp vs H Q E →
    codeAny (model P w) A (.call (.ref f) args) (CR CX outer P w H s Q E) s
theorem FnOk.mono {P : Program} {w : World} {K : PySem.W.Frag} {mg : Str → Option Value} {base : Heap} {CX : CXT} {j k : Nat} {f : Addr} {fd : FuncData} {ps : List Str} {sp : Sp} (F : FnOk P w K mg base CX j f fd ps sp) (h : j ≤ k) :
    FnOk P w K mg base CX k f fd ps sp := ⟨F.len, fun A outer s H args us vs Q E hr => F.run A outer s H args us vs Q E (hr.mono h)⟩
theorem FnOk.imp {P : Program} {w : World} {K : PySem.W.Frag} {mg : Str → Option Value} {base : Heap} {CX : CXT} {k : Nat} {f : Addr} {fd : FuncData} {ps : List Str} {sp sp' : Sp} (F : FnOk P w K mg base CX k f fd ps sp)
    (h : ∀ vs H Q E, sp' vs H Q E → sp vs H Q E) : FnOk P w K mg base CX k f fd ps sp' :=
  ⟨fun vs H Q E q => F.len vs H Q E (h _ _ _ _ q), fun A outer s H args us vs Q E hr he hb hv hs => F.run A outer s H args us vs Q E hr he hb hv (h _ _ _ _ hs)⟩
theorem Env0.in1 {P : Program} {w : World} {K : PySem.W.Frag} {mg : Str → Option Value} {base : Heap} {A : Around} {outer : List Env} {s : Shared} {H : Hp} (e : Env0 P w K mg base A outer s H) :
    Env0 P w K mg base A.in1 outer s H := ⟨e.frames, e.mod, e.bs, e.bsz, e.funs, e.frf, e.hok, e.bare⟩
section
variable {X : Cx} {pins : List (Addr × Obj)} {σ : St} {H : Hp} {s s' : Shared}
theorem Inv.env0 (I : Inv X pins σ H s) : Env0 X.prog X.w X.K X.mg X.base X.A X.stack s H :=
  ⟨I.ok.frames, I.ok.mod, I.bs, Nat.le_trans I.ok.bsz I.sz, I.stack, I.stkFree, I.hok, I.bare⟩
theorem Inv.after {Q : VK} {u : Value} (I : Inv X pins σ H s) (h : CE X.stack X.prog X.w H s Q u s') : EP X pins σ Q u s' := by
  obtain ⟨v, H', os, bare, un, hok, r, q⟩ := h
  obtain ⟨hh, g, d, t, os'⟩ := s'
  obtain rfl : os' = s.os := os
  exact ⟨v, H', I.call (h' := hh) (g' := g) (d' := d) (t' := t) (ch := []) un hok bare (fun b z => absurd z (by simp)), r, q⟩
end
def tCall (sp : Sp) (dvs : List V) (E : XK) (t : TA) : TE := fun σ H Q => t σ H fun vs H1 => sp (vs ++ dvs) H1 Q E
def Binds (K : PySem.W.Frag) (fd : FuncData) (ps : List Str) (ds : List Value) : Prop :=
  ∀ (s : Shared) (us : List Value), K.In s.heap → (us ++ ds).length = ps.length → BindsTo s fd ⟨us, []⟩ (ps.zip (us ++ ds))
theorem Binds.all {K : PySem.W.Frag} {fd : FuncData} {ps : List Str} (h : ∀ us : List Value, us.length = ps.length → bindArgs fd ⟨us, []⟩ = pure (ps.zip us)) : Binds K fd ps [] := fun s us _ hl => by
  rw [List.append_nil] at hl ⊢
  exact .of_eq (h us hl)
def Passes (CX : CXT) (X : Cx) (E : XK) : Prop := ∀ (pins : List (Addr × Obj)) (σ : St) (H : Hp) (s : Shared) (e : Value) (s' : Shared), Inv X pins σ H s → CX X.stack H s E e s' → X.xe e s'
section
variable {X : Cx} {CX : CXT} {k : Nat} {f C : Addr} {fd : FuncData} {ps : List Str} {sp : Sp} {dvs : List V} {ds : List Value} {E : XK} {x m : Str} {p pos apos : Pos} {e o : Expr} {es : List Expr} {ta : TE} {t : TA}
theorem run_fn {pins : List (Addr × Obj)} {σ : St} {H : Hp} {s : Shared} {Q : VK} {us : List Value} {vs : List V} (F : FnOk X.prog X.w X.K X.mg X.base CX k f fd ps sp) (hr : Room k X.A) (hb : Binds X.K fd ps ds) (hd : Vals dvs ds) (hx : Passes CX X E)
    (I : Inv X pins σ H s) (r : Vals vs us) (h : sp (vs ++ dvs) H Q E) : wpAny (model X.prog X.w) X.A (call (.ref f) us) (EP X pins σ Q) X.xe s := by
  have r2 : Vals (vs ++ dvs) (us ++ ds) := r.append hd
  have hl : (us ++ ds).length = ps.length := by rw [← r2.length]; exact F.len _ _ _ _ h
  refine wpAny_call (codeAny_mono (F.run X.A X.stack s H ⟨us, []⟩ (us ++ ds) (vs ++ dvs) Q E hr I.env0 (hb s us I.kIn hl) r2 h) fun r s' hq => ?_)
  cases r with
  | error e => exact hx pins σ H s e s' I hq
  | ok fl =>
    cases fl with
    | ret u => exact I.after hq
    | next => exact False.elim hq
    | brk => exact False.elim hq
    | cont => exact False.elim hq
theorem pe_call (F : FnOk X.prog X.w X.K X.mg X.base CX k f fd ps sp) (hr : Room k X.A) (hg : Gl X x) (hm : X.mg x = some (.ref f)) (hk : PySem.W.keepIn X.K (.ref f) = true) (hb : Binds X.K fd ps ds) (hd : Vals dvs ds) (hx : Passes CX X E)
    (ha : PA X (e :: es) t) (hdb : (x == ("__debug__" : Str)) = false := by decide) (he : starEach (e :: es) X.env = (false, eval e X.env) :: starEach es X.env := by rfl) (hpl : (backTo pos (starEach es X.env)).any (·.1) = false := by rfl) :
    PE X (.Call (.Name x p) (e :: es) [] pos) (tCall sp dvs E t) := by
  intro pins s σ H Q I h
  refine wpAny_Call_Name_kw (ld_glob I hg hm ?_ hdb)
  refine PySem.W.callWith_K (h₀ := X.base) I.ok.mod.kin hk (thn (ha pos pins s σ H _ I h) fun us s1 ⟨vs, H1, I1, r, q⟩ => ⟨I1.kIn, ?_⟩) he hpl
  exact run_fn F hr hb hd hx I1 r q
structure Mk (K : PySem.W.Frag) (C f : Addr) : Prop where
  makes : PySem.W.makesIn K C = true
  init : PySem.W.findIn K (.ref C) "__init__" = some (some (.ref f))
  fn : PySem.W.isFn K (.ref f) = true
  kp : PySem.W.keepIn K (.ref C) = true
end
section
variable {X : Cx} {CX : CXT} {k : Nat} {f C : Addr} {fd : FuncData} {ps ks : List Str} {sp : Sp} {E : XK} {x m : Str} {p pos apos kpos : Pos} {e o : Expr} {es : List Expr} {kws : List Keyword} {te ta : TE} {t tk : TA} {nm : Option Str}
structure KBinds (K : PySem.W.Frag) (fd : FuncData) (ps ks : List Str) (g : List Value → List Value → List Value) (gV : List V → List V → List V) : Prop where
  to : ∀ (s : Shared) (us ws : List Value), K.In s.heap → (g us ws).length = ps.length → BindsTo s fd ⟨us, ks.zip ws⟩ (ps.zip (g us ws))
  rel : ∀ {vs : List V} {us : List Value} {zs : List V} {ws : List Value}, Vals vs us → Vals zs ws → Vals (gV vs zs) (g us ws)
variable {g : List Value → List Value → List Value} {gV : List V → List V → List V}
end
structure FnScope (N P : List Str) (sc : Scope) : Prop where
  kind : sc.kind = .function
  co : sc.isCoroutine = false
  gen : sc.isGenerator = false
  nd : N.Nodup
  pre : N.take P.length = P
  par : ∀ x ∈ P, sc.names.lookup x = some .local ∨ sc.names.lookup x = some .cell
  nofree : ∀ y ∈ sc.names, y.2 ≠ .free
theorem bindL_out {kindOf : Str → Option NameKind} {x : Str} : ∀ {binds : List (Str × Value)} {m : Str → Option Value}, (∀ v, (x, v) ∉ binds) → bindL kindOf binds m x = m x
  | [], _, _ => rfl
  | (n, v) :: r, m, h => by
    unfold bindL
    rw [bindL_out fun w hw => h w (List.mem_cons_of_mem _ hw)]
    split
    · have : x ≠ n := by rintro rfl; exact h v List.mem_cons_self
      simp [this]
    · rfl
theorem bindC_out {kindOf : Str → Option NameKind} {x : Str} : ∀ {binds : List (Str × Value)} {m : Str → Option Value}, (∀ v, (x, v) ∉ binds) → bindC kindOf binds m x = m x
  | [], _, _ => rfl
  | (n, v) :: r, m, h => by
    unfold bindC
    rw [bindC_out fun w hw => h w (List.mem_cons_of_mem _ hw)]
    split
    · rfl
    · have : x ≠ n := by rintro rfl; exact h v List.mem_cons_self
      simp [this]
theorem bindL_get {kindOf : Str → Option NameKind} {x : Str} {v : Value} : ∀ {P : List Str} {vs : List Value} {i : Nat} {m : Str → Option Value}, P.Nodup → P[i]? = some x → vs[i]? = some v → kindOf x = some .local →
    bindL kindOf (P.zip vs) m x = some v
  | [], _, _, _, _, h, _, _ => by simp at h
  | _ :: _, [], _, _, _, _, h, _ => by simp at h
  | p :: P, w :: vs, 0, m, nd, h1, h2, hk => by
    simp at h1 h2; subst h1; subst h2
    show bindL kindOf ((p, w) :: P.zip vs) m p = _
    unfold bindL
    rw [bindL_out fun v hv => (List.nodup_cons.mp nd).1 (List.of_mem_zip hv).1, if_pos hk]
    simp
  | p :: P, w :: vs, i + 1, m, nd, h1, h2, hk => by
    show bindL kindOf ((p, w) :: P.zip vs) m x = _
    unfold bindL
    exact bindL_get (i := i) (List.nodup_cons.mp nd).2 (by simpa using h1) (by simpa using h2) hk
theorem bindC_get {kindOf : Str → Option NameKind} {x : Str} {v : Value} : ∀ {P : List Str} {vs : List Value} {i : Nat} {m : Str → Option Value}, P.Nodup → P[i]? = some x → vs[i]? = some v → kindOf x ≠ some .local →
    bindC kindOf (P.zip vs) m x = some v
  | [], _, _, _, _, h, _, _ => by simp at h
  | _ :: _, [], _, _, _, _, h, _ => by simp at h
  | p :: P, w :: vs, 0, m, nd, h1, h2, hk => by
    simp at h1 h2; subst h1; subst h2
    show bindC kindOf ((p, w) :: P.zip vs) m p = _
    unfold bindC
    rw [bindC_out fun v hv => (List.nodup_cons.mp nd).1 (List.of_mem_zip hv).1, if_neg hk]
    simp
  | p :: P, w :: vs, i + 1, m, nd, h1, h2, hk => by
    show bindC kindOf ((p, w) :: P.zip vs) m x = _
    unfold bindC
    exact bindC_get (i := i) (List.nodup_cons.mp nd).2 (by simpa using h1) (by simpa using h2) hk
def start (N : List Str) (vs : List V) : St := vs.map some ++ List.replicate (N.length - vs.length) none
def cxOf (CX : CXT) (P : Program) (w : World) (K : PySem.W.Frag) (mg : Str → Option Value) (base : Heap) (N : List Str) (qual : Str) (scope : Scope) (f : Addr) (cd : Value) (A : Around) (outer : List Env) (s : Shared) (H : Hp) (E : XK) : Cx where
  prog := P
  w := w
  K := K
  mg := mg
  base := base
  A := A.deeper (envOfC qual scope s.heap.objs.size f cd)
  N := N
  s₀ := s
  H₀ := H
  env := envOfC qual scope s.heap.objs.size f cd
  outer := outer
  stack := envOfC qual scope s.heap.objs.size f cd :: outer
  ex := []
  calm := true
  fn := fun _ => true
  pn := []
  xe := fun e s' => wpAny (model P w) (A.deeper (envOfC qual scope s.heap.objs.size f cd)) (leaving (envOfC qual scope s.heap.objs.size f cd) e) (fun _ s'' => CX outer H s E e s'') (fun e' s'' => CX outer H s E e' s'') s'
theorem cell_has {sc : Scope} {n : Nat} {x : Str} (h : sc.names.lookup x = some .cell) : ∃ c, (cellsFrom n sc.names []).lookup x = some c := by
  have q := PySem.W.cellsFrom_some sc.names n [] (.inl h)
  exact Option.isSome_iff_exists.mp q
theorem inv_start {CX : CXT} {P : Program} {w : World} {K : PySem.W.Frag} {mg : Str → Option Value} {base : Heap} {N ps : List Str} {qual : Str} {scope : Scope} {f : Addr} {cd : Value} {A : Around} {outer : List Env} {s s1 : Shared} {H : Hp} {E : XK} {us : List Value} {vs : List V}
    (S : FnScope N ps scope) (hd : A.handled = none) (e0 : Env0 P w K mg base A outer s H) (hl : vs.length = ps.length) (r : Vals vs us)
    (x : InCallC s s.heap.objs.size (bindL (envOfC qual scope s.heap.objs.size f cd).kindOf (ps.zip us) fun _ => none) (cellsFrom (s.heap.objs.size + 1) scope.names []) (bindC (envOfC qual scope s.heap.objs.size f cd).kindOf (ps.zip us) fun _ => none) s1) :
    Inv (cxOf CX P w K mg base N qual scope f cd A outer s H E) [] (start N vs) H s1 := by
  have hpl : ps.length ≤ N.length := by have := congrArg List.length S.pre; rw [List.length_take] at this; omega
  obtain ⟨h1, tk, rfl, hk⟩ := x.done
  have noA : ∀ b : Addr, b ∉ (cxOf CX P w K mg base N qual scope f cd A outer s H E).ex := fun b z => absurd (show b ∈ ([] : List Addr) from z) (by simp)
  refine ⟨⟨e0.mod, S.kind, rfl, rfl, Nat.le_refl _, fun y z c h1 h2 => ?_, fun y hy => ?_, fun y c _ h => ?_, fun _ => hd, Around.frames_deeper e0.frames, .inr ⟨rfl, rfl⟩, fun b z => absurd z (noA b), e0.bs, e0.bsz, fun b _ _ => noA b, fun b z => absurd z (noA b), e0.funs, e0.frf⟩,
    rfl, e0.bare, Un.kept hk, ⟨_, x.toInCall.ns, fun i y v h1 h2 h3 => ?_⟩, fun y c h => ⟨_, x.cell y c h⟩, e0.hok.fresh (Nat.le_refl _), fun y c h => ?_, fun p hp => absurd (show p ∈ ([] : List (Addr × Obj)) from hp) (by simp), e0.hok.kept hk, ?_⟩
  · exact name_of_addr x.apart (PySem.mem_of_lookup h1) (PySem.mem_of_lookup h2)
  · have hy : scope.names.lookup y = some .cell ∨ scope.names.lookup y = some .free := hy
    rcases hy with hy | hy
    · exact cell_has hy
    · exact absurd rfl (S.nofree _ (PySem.mem_of_lookup hy))
  · exact Nat.le_of_lt (x.above y c (PySem.mem_of_lookup h))
  · have hi : i < vs.length := by
      unfold start at h2
      by_cases hi : i < vs.length
      · exact hi
      · rw [List.getElem?_append_right (by simpa using hi)] at h2
        rw [List.getElem?_replicate] at h2
        split at h2 <;> cases h2
    have ha : vs[i]? = some v := by
      unfold start at h2
      rw [List.getElem?_append_left (by simpa using hi), List.getElem?_map] at h2
      cases e : vs[i]? with
      | none => rw [e] at h2; cases h2
      | some a => rw [e] at h2; cases h2; rfl
    obtain ⟨u, hu, rv⟩ := r.get ha
    have hp : ps[i]? = some y := by
      rw [← S.pre, List.getElem?_take_of_lt (by omega)]; exact h1
    have ndP : ps.Nodup := by rw [← S.pre]; exact S.nd.sublist (List.take_sublist _ _)
    refine ⟨u, rv, ?_⟩
    rcases S.par y (List.mem_of_getElem? hp) with k | k
    · exact .inl ⟨k, bindL_get ndP hp hu k⟩
    · obtain ⟨c, e⟩ := cell_has (n := s.heap.objs.size + 1) k
      refine .inr ⟨.inl k, c, e, ?_⟩
      have q := x.cell y c e
      rw [bindC_get ndP hp hu (by show scope.names.lookup y ≠ _; rw [k]; decide)] at q
      exact q
  · exact e0.hok.fresh (Nat.le_of_lt (x.above y c (PySem.mem_of_lookup h)))
  · unfold start
    show _ = N.length
    rw [List.length_append, List.length_map, List.length_replicate]
    omega
theorem fn_of {CX : CXT} {P : Program} {w : World} {K : PySem.W.Frag} {mg : Str → Option Value} {base : Heap} {k : Nat} {f : Addr} {name qual : Str} {params : Arguments} {body : List Stmt} {scope : Scope} {dV kV doc pm cdv ct oc : Value} {an od : Option Addr}
    {osl : Array (Option Value)} {N ps : List Str} {sp : Sp} (lk : K.lookup f = some ⟨oc, od, .func (PySem.W.fnOf name qual params body scope dV kV doc pm an cdv ct), osl⟩) (hcd : PySem.W.codeIn K cdv qual = true) (S : FnScope N ps scope)
    (len : ∀ vs H Q E, sp vs H Q E → vs.length = ps.length)
    (hbody : ∀ (A : Around) (outer : List Env) (s : Shared) (H : Hp) (vs : List V) (Q : VK) (E : XK), Room k (A.deeper (envOfC qual scope s.heap.objs.size f cdv)) → sp vs H Q E →
      ∃ t, PSs (cxOf CX P w K mg base N qual scope f cdv A outer s H E) body t ∧ t { nx := fun _ H' => Q .non H', rt := Q } (start N vs) H) :
    FnOk P w K mg base CX (k + 1) f (PySem.W.fnOf name qual params body scope dV kV doc pm an cdv ct) ps sp := by
  refine ⟨len, fun A outer s H args us vs Q E hr e0 hb r hsp => ?_⟩
  have hl := len _ _ _ _ hsp
  have KX : K.In s.heap := e0.mod.kin.keeps fun b o e => (e0.bs b o e).1
  have lim : s.heap.NoLimit := e0.mod.nolimit.keeps fun b o e => (e0.bs b o e).1
  have hkind : ∀ y ∈ ps.zip us, scope.names.lookup y.1 = some .local ∨ (scope.names.lookup y.1 = some .cell ∧ ((cellsFrom (s.heap.objs.size + 1) scope.names []).lookup y.1).isSome = true) := fun ⟨n, v⟩ hy => by
    rcases S.par n (List.of_mem_zip hy).1 with q | q
    · exact .inl q
    · exact .inr ⟨q, PySem.W.cellsFrom_some _ _ _ (.inl q)⟩
  refine codeAny_call_function hr.depth (KX _ _ lk) rfl S.co S.gen rfl (PySem.W.codeRec_of KX hcd) (hb _ _ _ _ ?_)
  refine wpAny_newFunctionEnv_cells S.kind hkind fun env he s1 x => ?_
  subst he
  refine ⟨lim.keeps x.toInCall.keep, codeAny_func ?_⟩
  obtain ⟨t, ht, hq⟩ := hbody A outer s H vs Q E (hr.deeper _) hsp
  have I : Inv (cxOf CX P w K mg base N qual scope f cdv A outer s H E) [] (start N vs) H s1 := inv_start S hr.hd e0 hl r x
  refine wpAny_mono (ht [] s1 (start N vs) H _ I hq) (fun fl s' hs => ?_) fun e s' hs => hs
  have fin : ∀ {σ' : St} {H' : Hp} {v : V} {u : Value}, Inv (cxOf CX P w K mg base N qual scope f cdv A outer s H E) [] σ' H' s' → RelV v u → Q v H' → CE outer P w H s Q u s' :=
    fun {σ' H' v u} J rv q => ⟨v, H', J.os, J.bare, J.base, J.hok, rv, q⟩
  cases fl with
  | ret u =>
    obtain ⟨v, σ', H', J, rv, q⟩ := hs
    exact fin J rv q
  | next =>
    obtain ⟨σ', H', J, q⟩ := hs
    exact fin (v := V.non) (u := Value.none) J rfl q
  | brk =>
    obtain ⟨_, _, _, q⟩ := hs
    exact False.elim q
  | cont =>
    obtain ⟨_, _, _, q⟩ := hs
    exact False.elim q
end L2
namespace L2
open PySem PySem.Spec PyProof.Rows
section
variable {X : Cx} {x : Str} {p pos : Pos} {e : Expr} {es : List Expr} {t : TA} {id T : String} {r : List V → Hp → VK → Prop}
def tCB (r : List V → Hp → VK → Prop) (t : TA) : TE := fun σ H Q => t σ H fun vs H1 => r vs H1 Q
theorem pe_callB (hc : CallR X (.builtin id) r) (hg : Gl X x) (hm : X.mg x = none) (hv : bootBuiltins x = some (.builtin id)) (ha : PA X (e :: es) t) (hn : x ≠ "__name__" := by decide) (hdb : (x == ("__debug__" : Str)) = false := by decide)
    (he : starEach (e :: es) X.env = (false, eval e X.env) :: starEach es X.env := by rfl) (hpl : (backTo pos (starEach es X.env)).any (·.1) = false := by rfl) : PE X (.Call (.Name x p) (e :: es) [] pos) (tCB r t) := by
  intro pins s σ H Q I h
  refine wpAny_Call_Name_kw (ld_blt I hg hm hv ?_ hn hdb)
  exact PyProof.Rows.callWith_builtin1 (thn (ha pos pins s σ H _ I h) fun us s1 ⟨vs, H1, I1, r1, q1⟩ => hc pins s1 σ H1 vs us Q I1 r1 q1) he hpl
theorem pe_callTy (hc : CallR X (.type T) r) (hg : Gl X x) (hm : X.mg x = none) (hv : bootBuiltins x = some (.type T)) (ha : PA X (e :: es) t) (hn : x ≠ "__name__" := by decide) (hdb : (x == ("__debug__" : Str)) = false := by decide)
    (he : starEach (e :: es) X.env = (false, eval e X.env) :: starEach es X.env := by rfl) (hpl : (backTo pos (starEach es X.env)).any (·.1) = false := by rfl) : PE X (.Call (.Name x p) (e :: es) [] pos) (tCB r t) := by
  intro pins s σ H Q I h
  refine wpAny_Call_Name_kw (ld_blt I hg hm hv ?_ hn hdb)
  exact PyProof.Rows.callWith_type1 (thn (ha pos pins s σ H _ I h) fun us s1 ⟨vs, H1, I1, r1, q1⟩ => hc pins s1 σ H1 vs us Q I1 r1 q1) he hpl
end
end L2
namespace HT
open PySem PyProof.Rows
section
open PySem.SeqAt
open PySem.AutoSeq1 (wpAny_loadPart')
open PySem.MeetsSeq PySem.MeetsSeq2 PySem.MeetsSeq3
end
section
variable {prog : Program} {w : World} {A : Around} {E : Value → Shared → Prop} {s : Shared}
def sIx (n d : Nat) : Option Int → Nat
  | none => d
  | some v => if v < 0 then (v + (n : Int)).toNat else min v.toNat n
end
end HT
namespace L2
open PySem PySem.Spec PyProof.Rows
abbrev TO := St → Hp → (Option Int → Hp → Prop) → Prop
def tNoPart : TO := fun _ H Q => Q none H
def tPart (t : TE) : TO := fun σ H Q => t σ H fun x H1 => ∃ i, x = .int i ∧ Q (some i) H1
section
variable {X : Cx} {e : Expr} {te : TE} {lo hi : Option Expr} {tl th : TO} {pos p2 : Pos}
def tSl (r : V → Option Int → Option Int → Hp → VK → Prop) (te : TE) (tl th : TO) : TE := fun σ H Q => te σ H fun x H1 => tl σ H1 fun l H2 => th σ H2 fun u H3 => r x l u H3 Q
def cutV (xs : List V) (lo hi : Option Int) : List V := (xs.drop (HT.sIx xs.length 0 lo)).take (HT.sIx xs.length xs.length hi - HT.sIx xs.length 0 lo)
end
end L2
namespace L2
open PySem PySem.Spec PyProof.Rows
def ixN (n : Nat) (i : Int) : Option Nat := if 0 ≤ i then (if i < n then some i.toNat else none) else if -(n : Int) ≤ i then some (i + n).toNat else none
def atI {α : Type} (xs : List α) (i : Int) : Option α := (ixN xs.length i).bind fun j => xs[j]?
theorem ixN_seq {n : Nat} {i : Int} {j : Nat} (h : ixN n i = some j) : seqIndex? i n = some j ∧ j < n ∧ -(n : Int) ≤ i ∧ i < n := by
  unfold ixN at h
  by_cases h0 : 0 ≤ i
  · rw [if_pos h0] at h
    by_cases h1 : i < n
    · rw [if_pos h1] at h
      have e : i.toNat = j := Option.some.inj h
      exact ⟨by rw [seqIndex_of h0 h1, e], by omega, by omega, h1⟩
    · rw [if_neg h1] at h; cases h
  · rw [if_neg h0] at h
    by_cases h1 : -(n : Int) ≤ i
    · rw [if_pos h1] at h
      have e : (i + n).toNat = j := Option.some.inj h
      exact ⟨by rw [seqIndex_neg (by omega) h1, e], by omega, h1, by omega⟩
    · rw [if_neg h1] at h; cases h
theorem atI_get {α : Type} {xs : List α} {i : Int} {v : α} (h : atI xs i = some v) : ∃ j, seqIndex? i xs.length = some j ∧ xs[j]? = some v ∧ j < xs.length ∧ -(xs.length : Int) ≤ i ∧ i < xs.length := by
  unfold atI at h
  cases e : ixN xs.length i with
  | none => rw [e] at h; cases h
  | some j =>
    rw [e] at h
    obtain ⟨h1, h2, h3, h4⟩ := ixN_seq e
    exact ⟨j, h1, h, h2, h3, h4⟩
def PlainIx (b : Expr) : Prop := ∀ o i, subscripted b false o i = operate [o, i] (getItem o i)
def IxR (X : Cx) (r : R2) : Prop :=
  ∀ (value slice : Expr) (pins : List (Addr × Obj)) (s : Shared) (σ : St) (H : Hp) (x y : V) (v u : Value) (Q : VK), Inv X pins σ H s → RelV x v → RelV y u → r x y H Q →
    subscripted slice false v u = operate [v, u] (getItem v u) → wpAny (model X.prog X.w) X.A (subscriptTail value slice v u) (EP X pins σ Q) X.xe s
def MtR (X : Cx) (id : String) (r : V → List V → Hp → VK → Prop) : Prop :=
  ∀ (pins : List (Addr × Obj)) (s : Shared) (σ : St) (H : Hp) (x : V) (xs : List V) (v : Value) (us : List Value) (Q : VK), Inv X pins σ H s → RelV x v → Vals xs us → r x xs H Q →
    wpAny (model X.prog X.w) X.A (call (.builtin id) (v :: us)) (EP X pins σ Q) X.xe s
section
variable {X : Cx} {a b : Expr} {ta tb : TE} {pos : Pos}
theorem pe_ix {r : R2} (hr : IxR X r) (ha : PE X a ta) (hb : PE X b tb) (hs : PlainIx b) : PE X (.Subscript a b pos) (tOp r ta tb) := by
  intro pins s σ H Q I h
  exact Subscript_ (binT ha hb I h fun v u s2 x y H2 I2 rx ry q => hr a b pins s2 σ H2 x y v u Q I2 rx ry q (hs _ _))
def rIxL (K : PySem.W.Frag) : R2 := fun x y H Q => ∃ p xs i v, x = .ref p ∧ y = .int i ∧ SqL K H p xs ∧ atI xs i = some v ∧ Q v H
def rIxT (K : PySem.W.Frag) : R2 := fun x y H Q => ∃ p xs i v, x = .ref p ∧ y = .int i ∧ SqT K H p xs ∧ atI xs i = some v ∧ Q v H
theorem ix_list : IxR X (rIxL X.K) := by
  intro value slice pins s σ H x y v u Q I rx ry h hs
  obtain ⟨p, xs, i, z, rfl, rfl, hq, he, q⟩ := h
  cases rx
  obtain ⟨t, rfl⟩ := ry
  obtain ⟨its, r, pl, hz⟩ := I.list hq
  obtain ⟨j, h1, h2, h3, h4, h5⟩ := atI_get he
  obtain ⟨w, ew, rw'⟩ := r.get h2
  have hl := r.length
  have hn := line63
  have fin : EP X pins σ Q w s := ⟨z, H, I, rw', q⟩
  by_cases h0 : 0 ≤ i
  · have hj : i.toNat = j := by
      rw [seqIndex_of h0 h5] at h1
      exact Option.some.inj h1
    exact item_listR pl.isList h0 (by omega) (by rw [hj]; simpa using ew) fin hs
  · have hj : (i + (its.toArray.size : Int)).toNat = j := by
      rw [seqIndex_neg (by omega) h4] at h1
      rw [List.size_toArray, ← hl]
      exact Option.some.inj h1
    exact subscriptTail_builtinR (x := w) pl.isList.typeIs slot_list_getitem.lookup
      (wpAny_getItem_list_neg (Q := fun r s' => r = w ∧ EP X pins σ Q r s') pl.isList (by omega) (by rw [List.size_toArray] <;> omega) (by omega) (by rw [hj]; simpa using ew) ⟨rfl, fin⟩) hs
theorem ix_tup : IxR X (rIxT X.K) := by
  intro value slice pins s σ H x y v u Q I rx ry h hs
  obtain ⟨p, xs, i, z, rfl, rfl, hq, he, q⟩ := h
  cases rx
  obtain ⟨t, rfl⟩ := ry
  obtain ⟨its, r, pl, hz⟩ := I.tuple hq
  obtain ⟨j, h1, h2, h3, h4, h5⟩ := atI_get he
  obtain ⟨w, ew, rw'⟩ := r.get h2
  have hl := r.length
  have hn := line63
  have fin : EP X pins σ Q w s := ⟨z, H, I, rw', q⟩
  exact subscriptTail_builtinR (x := w) pl.typeIs slot_tuple_getitem.lookup
    (getItem_tuple (j := j) (Q := fun r s' => r = w ∧ EP X pins σ Q r s') pl (by omega) (by omega) (by rw [List.size_toArray, ← hl]; exact h1) (by simpa using ew) ⟨rfl, fin⟩) hs
theorem Inv.lst {pins : List (Addr × Obj)} {σ : St} {H : Hp} {s : Shared} {p : Addr} {xs : List V} (I : Inv X pins σ H s) (h : H p = some (.lst xs)) :
    ∃ (its : List Value) (n : Nat), Vals xs its ∧ s.heap.get? p = some { cls := .type "list", data := .seq its.toArray n } ∧ xs.length ≤ sizeLine := by
  obtain ⟨z, its, n, r, e⟩ := I.hok p _ h
  exact ⟨its, n, r, e, z⟩
def rSetL : V → V → V → Hp → (Hp → Prop) → Prop := fun o i v H Q => ∃ p xs k j, o = .ref p ∧ i = .int k ∧ H p = some (.lst xs) ∧ ixN xs.length k = some j ∧ Q (upd H p (.lst (xs.set j v)))
def flatV : V → Bool
  | .non => true
  | .bl _ => true
  | .int _ => true
  | .str _ => true
  | _ => false
def eqV : V → V → Bool
  | .non, .non => true
  | .bl a, .bl b => a == b
  | .bl a, .int b => (if a then 1 else 0) == b
  | .int a, .bl b => a == (if b then 1 else 0)
  | .int a, .int b => a == b
  | .str a, .str b => a == b
  | _, _ => false
def inV (x : V) (xs : List V) : Bool := xs.any fun y => eqV y x
def rIn (K : PySem.W.Frag) (neg : Bool) : R2 := fun x y H Q => ∃ p xs, y = .ref p ∧ (SqL K H p xs ∨ SqT K H p xs) ∧ flatV x = true ∧ xs.all flatV = true ∧ Q (.bl (if neg then !inV x xs else inV x xs)) H
theorem call_len_seq : CallR X (.builtin "len") (fun xs H Q => ∃ p ys, xs = [.ref p] ∧ (SqL X.K H p ys ∨ SqT X.K H p ys) ∧ Q (.int ys.length) H) := by
  intro pins s σ H xs us Q I r h
  obtain ⟨p, ys, rfl, hq, q⟩ := h
  obtain ⟨u, rfl, rx⟩ := vals1 r
  cases rx
  have hn := line63
  rcases hq with hq | hq
  · obtain ⟨its, r', pl, hz⟩ := I.list hq
    have hlen := r'.length
    exact Calls.call_len_list pl.isList (by simp only [List.size_toArray] <;> omega) ⟨.int ys.length, H, I.tok _, ⟨s.toks + 1, by rw [List.size_toArray, hlen]⟩, q⟩
  · obtain ⟨its, r', pl, hz⟩ := I.tuple hq
    have hlen := r'.length
    exact len_tuple pl (by simp only [List.size_toArray] <;> omega) ⟨.int ys.length, H, I.tok _, ⟨s.toks + 1, by rw [List.size_toArray, hlen]⟩, q⟩
theorem call_list_of : CallR X (.type "list") (fun xs H Q => ∃ p ys, xs = [.ref p] ∧ (SqL X.K H p ys ∨ SqT X.K H p ys) ∧ ∀ l, H l = none → Q (.ref l) (upd H l (.lst ys))) := by
  intro pins s σ H xs us Q I r h
  obtain ⟨p, ys, rfl, hq, q⟩ := h
  obtain ⟨u, rfl, rx⟩ := vals1 r
  cases rx
  have fin : ∀ (its : List Value), Vals ys its → ys.length ≤ sizeLine → ∀ (h' : Heap) (c' : Nat), (∀ b o', s.heap.get? b = some o' → h'.get? b = some o') →
      h'.get? s.heap.objs.size = some { cls := .type "list", dict := none, data := .seq its.toArray c', slots := #[] } → EP X pins σ Q (.ref s.heap.objs.size) { s with heap := h' } := fun its r' hz h' c' kp e =>
    ⟨.ref s.heap.objs.size, _, I.laid (t' := s.toks) kp (Nat.le_refl _) (show ObjOk X.prog X.w _ h' _ (.lst ys) from ⟨hz, its, c', r', e⟩), rfl, q _ (I.hok.fresh (Nat.le_refl _))⟩
  rcases hq with hq | hq
  · obtain ⟨its, r', pl, hz⟩ := I.list hq
    have hlen := r'.length
    obtain ⟨o, ho, hc, n, hd⟩ := pl.isList
    exact call_list_seq p (.inl rfl) ho hc hd (fun h' c' kp e => fin its r' hz h' c' kp e) (by simp only [List.size_toArray] <;> omega)
  · obtain ⟨its, r', pl, hz⟩ := I.tuple hq
    have hlen := r'.length
    obtain ⟨o, ho, hc, n, hd⟩ := pl
    exact call_list_seq p (.inr rfl) ho hc hd (fun h' c' kp e => fin its r' hz h' c' kp e) (by simp only [List.size_toArray] <;> omega)
def tyV (K : PySem.W.Frag) (T : String) (x : V) (H : Hp) : Prop := match x with
  | .str _ => T = "str"
  | .int _ => T = "int"
  | .ref p => (T = "list" ∧ ∃ xs, SqL K H p xs) ∨ (T = "tuple" ∧ ∃ o, K.lookup p = some o ∧ o.cls = .type "tuple" ∧ o.dict = none) ∨
      (T = "dict" ∧ ((∃ kvs, H p = some (.dK kvs)) ∨ ∃ kvs, H p = some (.dT kvs))) ∨ (T = "set" ∧ ∃ S n, H p = some (.set S n))
  | _ => False
theorem tyV_is {pins : List (Addr × Obj)} {σ : St} {H : Hp} {s : Shared} {T : String} {x : V} {v : Value} (I : Inv X pins σ H s) (r : RelV x v) (ty : tyV X.K T x H) :
    s.TypeIs v T ∧ ∀ a, v = .ref a → ∃ ob, s.heap.get? a = some ob ∧ ob.dict = none := by
  cases x with
  | str z =>
    obtain ⟨t, rfl⟩ := r
    cases (show T = "str" from ty)
    exact ⟨typeIs_str s z t, fun _ e => nomatch e⟩
  | int i =>
    obtain ⟨t, rfl⟩ := r
    cases (show T = "int" from ty)
    exact ⟨typeIs_int s i t, fun _ e => nomatch e⟩
  | ref p =>
    cases r
    rcases ty with ⟨rfl, xs, hq⟩ | ⟨rfl, o, hk, hc, hd⟩ | ⟨rfl, hk⟩ | ⟨rfl, S, n, hk⟩
    · obtain ⟨its, _, pl, _⟩ := I.list hq
      refine ⟨pl.isList.typeIs, fun a e => ?_⟩
      cases e
      obtain ⟨o, n, e, c, hd, _⟩ := pl
      exact ⟨o, e, hd⟩
    · refine ⟨⟨o, I.kIn p o hk, hc⟩, fun a e => ?_⟩
      cases e
      exact ⟨o, I.kIn _ o hk, hd⟩
    · have z : ∃ o, s.heap.get? p = some o ∧ o.ExactDict := by
        rcases hk with ⟨kvs, hk⟩ | ⟨kvs, hk⟩
        · obtain ⟨_, _, _, _, o, _, _, e, ex, _⟩ := I.hok p _ hk
          exact ⟨o, e, ex⟩
        · obtain ⟨_, _, _, _, o, _, _, e, ex, _⟩ := I.hok p _ hk
          exact ⟨o, e, ex⟩
      obtain ⟨o, e, ex⟩ := z
      refine ⟨⟨o, e, ex.1⟩, fun a e2 => ?_⟩
      cases e2
      exact ⟨o, e, ex.2.1⟩
    · obtain ⟨o, _, _, _, e, ex, _⟩ := I.hok p _ hk
      refine ⟨⟨o, e, ex.1⟩, fun a e2 => ?_⟩
      cases e2
      exact ⟨o, e, ex.2.1⟩
  | _ => exact False.elim ty
def tBM0 (K : PySem.W.Frag) (T : String) (r : V → List V → Hp → VK → Prop) (to : TE) : TE := fun σ H Q => to σ H fun x H1 => tyV K T x H1 ∧ r x [] H1 Q
def tBM (K : PySem.W.Frag) (T : String) (r : V → List V → Hp → VK → Prop) (to : TE) (t : TA) : TE := fun σ H Q => to σ H fun x H1 => tyV K T x H1 ∧ t σ H1 fun xs H2 => r x xs H2 Q
variable {o e : Expr} {es : List Expr} {to : TE} {t : TA} {name : Str} {apos cpos : Pos} {T id : String} {r : V → List V → Hp → VK → Prop}
theorem pe_bm (pa : PlainAttrs T) (slot : Slot T name id) (hty : typeOf (.builtin id) = pure (.type "method_descriptor")) (hm : MtR X id r) (ho : PE X o to) (ha : PA X (e :: es) t)
    (hbase : attributeBase o name X.env (eval o X.env) = eval o X.env := by rfl)
    (hfew : ((backTo cpos (starEach (e :: es) X.env)).all (fun x => !x.1) && (backToKw cpos (keywordEach [] X.env)).all (fun x => x.1.isSome)
      && decide ((e :: es).length + ([] : List Keyword).length + (if ([] : List Keyword).isEmpty then 0 else 1) < 30)) = true := by rfl)
    (hline : (apos.endLine == cpos.line) = true := by rfl) (hs : starEach (e :: es) X.env = (false, eval e X.env) :: starEach es X.env := by rfl) (hplain : (backTo cpos (starEach es X.env)).any (·.1) = false := by rfl) :
    PE X (.Call (.Attribute o name apos) (e :: es) [] cpos) (tBM X.K T r to t) := by
  intro pins s σ H Q I h
  refine wpAny_Call_method_late hbase hfew hline rfl (thn (ho pins s σ H _ I h) fun v s1 ⟨x, H1, I1, r1, ty, q1⟩ => ?_)
  obtain ⟨h1, h2⟩ := tyV_is I1 r1 ty
  refine ⟨T, id, pa, slot, hty, h1, h2, ?_⟩
  have hA := ha cpos pins s1 σ H1 _ I1 q1
  rw [hs] at hA ⊢
  refine Calls.callWith_builtin (by show (false || (backTo cpos (starEach es X.env)).any (·.1)) = false; rw [hplain] <;> rfl) (Calls.evalArgs_plain ?_)
  exact thn hA fun us s2 ⟨vs, H2, I2, r2, q2⟩ => hm pins s2 σ H2 x vs v us Q I2 r1 r2 q2
end
end L2
namespace L2
open PySem PySem.Spec PyProof.Rows
def MtM (X : Cx) (id : String) (r : V → List V → Hp → VK → Prop) : Prop :=
  ∀ (pins : List (Addr × Obj)) (s : Shared) (σ : St) (H : Hp) (x : V) (xs : List V) (v : Value) (us : List Value) (Q : VK), Inv X pins σ H s → RelV x v → Vals xs us → r x xs H Q →
    wpAny (model X.prog X.w) X.A (call (.builtin id) (v :: us)) (EP X pins σ Q) X.xe s
theorem Vals.one : ∀ {x : V} {us : List Value}, Vals [x] us → ∃ u, us = [u] ∧ RelV x u
  | _, _, .cons r .nil => ⟨_, rfl, r⟩
theorem Vals.zero : ∀ {us : List Value}, Vals [] us → us = []
  | _, .nil => rfl
theorem Vals.eraseIdx : ∀ {xs : List V} {us : List Value} (i : Nat), Vals xs us → Vals (xs.eraseIdx i) (us.eraseIdx i)
  | _, _, _, .nil => .nil
  | _, _, 0, .cons _ t => t
  | _, _, i + 1, .cons r t => .cons r (Vals.eraseIdx i t)
theorem Vals.reverse {xs : List V} {us : List Value} (h : Vals xs us) : Vals xs.reverse us.reverse := by
  induction h with
  | nil => exact .nil
  | cons r t ih => rw [List.reverse_cons, List.reverse_cons]; exact Vals.append ih (.cons r .nil)
section
variable {X : Cx} {pins : List (Addr × Obj)} {σ : St} {H : Hp} {s : Shared} {l b : Addr} {xs ys zs : List V}
theorem Inv.lset {its its' : List Value} {n : Nat} {f : Array Value → Array Value} {t' : Nat} (I : Inv X pins σ H s) (hH : H l = some (.lst xs))
    (e : s.heap.get? l = some { cls := .type "list", data := .seq its.toArray n }) (hf : f its.toArray = its'.toArray) (hv : Vals ys its') (hz : ys.length ≤ sizeLine) :
    Inv X pins σ (upd H l (.lst ys)) { s with heap := s.heap.update l (Obj.mapSeq f), toks := t' } := by
  have q := PySem.IsL.update e f
  rw [hf] at q
  refine I.write (x := l) (e := l) (by rw [hH]; exact trivial) (.inl rfl) (fun b' u hb hu => (Heap.get?_update_other s.heap (Obj.mapSeq f) (Ne.symm hb)).trans hu) ⟨_, q⟩ ?_
  exact ⟨hz, its', _, hv, q⟩
theorem Inv.fresh (I : Inv X pins σ H s) : H s.heap.objs.size = none := I.hok.fresh (Nat.le_refl _)
theorem Inv.lstM (I : Inv X pins σ H s) (hH : H l = some (.lst xs)) : xs.length ≤ sizeLine ∧ ∃ (its : List Value) (n : Nat), Vals xs its ∧ xs.length = its.length ∧ s.heap.get? l = some { cls := .type "list", data := .seq its.toArray n } := by
  obtain ⟨z, its, n, r, e⟩ := I.hok l _ hH
  exact ⟨z, its, n, r, r.length, e⟩
theorem notLongL {n : Nat} (h : n ≤ sizeLine) : Builtin.List.listTooLong n = false := by
  unfold Builtin.List.listTooLong
  exact decide_eq_false (by omega)
end
section
variable {X : Cx}
def rAppend : V → List V → Hp → VK → Prop := fun x vs H Q => ∃ l xs y, x = .ref l ∧ vs = [y] ∧ H l = some (.lst xs) ∧ xs.length < sizeLine ∧ Q .non (upd H l (.lst (xs ++ [y])))
theorem mt_append : MtM X "list.append" rAppend := by
  intro pins s σ H x vs v us Q I rx rv h
  obtain ⟨l, xs, y, rfl, rfl, hH, hz, q⟩ := h
  cases rx
  obtain ⟨u, rfl, ru⟩ := rv.one
  obtain ⟨z, its, n, r, hl, e⟩ := I.lstM hH
  refine call_meets F.slot_list_append ⟨_, e, rfl⟩ F.entry_list_append (F.args_list_append_2 _ _) (PySem.list_append l its.toArray n u (by rw [List.size_toArray]; omega)) ⟨e, ?_⟩
  refine ⟨.non, _, I.lset (its' := its ++ [u]) hH e (by simp) (r.append (.cons ru .nil)) ?_, rfl, q⟩
  rw [List.length_append, List.length_singleton]
  omega
def rExtend : V → List V → Hp → VK → Prop := fun x vs H Q => ∃ l b xs zs, x = .ref l ∧ vs = [.ref b] ∧ H l = some (.lst xs) ∧ H b = some (.lst zs) ∧ xs.length + zs.length ≤ sizeLine ∧ Q .non (upd H l (.lst (xs ++ zs)))
def rPopAt : V → List V → Hp → VK → Prop := fun x vs H Q => ∃ l xs i k y, x = .ref l ∧ vs = [.int i] ∧ H l = some (.lst xs) ∧ -(2 ^ 63) ≤ i ∧ i < 2 ^ 63 ∧ seqIndex? i xs.length = some k ∧ xs[k]? = some y ∧ Q y (upd H l (.lst (xs.eraseIdx k)))
def rClear : V → List V → Hp → VK → Prop := fun x vs H Q => ∃ l xs, x = .ref l ∧ vs = [] ∧ H l = some (.lst xs) ∧ Q .non (upd H l (.lst []))
def rCat : R2 := fun x y H Q => ∃ l b xs zs, x = .ref l ∧ y = .ref b ∧ H l = some (.lst xs) ∧ H b = some (.lst zs) ∧ xs.length + zs.length ≤ sizeLine ∧ ∀ p, H p = none → Q (.ref p) (upd H p (.lst (xs ++ zs)))
end
section
variable {prog : Program} {w : World} {A : Around} {E : Value → Shared → Prop} {s : Shared}
theorem bounds_run {a c n : Nat} (hac : a ≤ c) (hc : c ≤ n) : sliceBounds (some (a : Int)) (some (c : Int)) none n = ((a : Int), (c : Int), 1) := by
  simp only [sliceBounds, Option.getD_none]
  have h1 : ¬ ((a : Int) < 0) := by omega
  have h2 : ¬ ((c : Int) < 0) := by omega
  simp only [h1, h2, if_false, show (1 : Int) > 0 by decide, if_true]
  congr 1
  · omega
  · congr 1; omega
set_option maxRecDepth 100000 in
theorem setItem_slice {l b sl : Addr} {items new : Array Value} {n n2 : Nat} {vl vu : Value} {a c : Nat} {Q : Unit → Shared → Prop}
    (e : s.heap.get? l = some { cls := .type "list", data := .seq items n }) (e2 : s.heap.get? b = some { cls := .type "list", data := .seq new n2 }) (hne : l ≠ b)
    (hs : s.heap.IsSliceOf sl vl vu .none) (pl : IsPart vl (some (a : Int))) (pu : IsPart vu (some (c : Int))) (hac : a ≤ c) (hc : c ≤ items.size)
    (hsz : items.size + new.size ≤ sizeLine) (h : Q () { s with heap := s.heap.update l (Obj.mapSeq fun xs => xs.extract 0 a ++ new ++ xs.extract c xs.size) }) :
    wpAny (model prog w) A (setItem (.ref l) (.ref sl) (.ref b)) Q E s := by
  have hl : s.heap.IsList l items := PySem.IsL.isList e
  have hb : s.heap.IsList b new := PySem.IsL.isList e2
  obtain ⟨os, hos, hcs, hds⟩ := id hs
  have hTs : s.TypeIs (.ref sl) "slice" := ⟨os, hos, hcs⟩
  have hstep : ¬ ((rawPart none == rawInt 0) = true) := Bool.false_ne_true
  have hsame : Builtin.List.listSameRef (.ref l) (.ref b) = false := by
    unfold Builtin.List.listSameRef
    exact beq_eq_false_iff_ne.mpr hne
  have hmax : (max (a : Int) (c : Int)).toNat = c := by omega
  have hz' : ((fun xs : Array Value => xs.extract 0 a ++ new ++ xs.extract c xs.size) items).size ≤ sizeLine + 1 := by
    simp only [Array.size_append, Array.size_extract]
    omega
  unfold setItem
  try with_reducible refine wpAny_holding ?_
  first | refine wpAny_bind (wpAny_pure ?_) | skip
  refine wpAny_bind (wpAny_sequenceKey hl.typeIs (by decide) ?_)
  refine wpAny_bind (wpAny_callSpecial?_slot (name := Str.ofString "__setitem__") hl.typeIs slot_list_setitem
    (wpAny_call_entry slot_list_setitem hl.typeIs entry_list_setitem ?_ (args_list_setitem _ _ _)))
  show wpAny _ _ (Builtin.List.listSubscript? (.ref sl) >>= _) _ _ s
  refine wpAny_bind ?_
  unfold Builtin.List.listSubscript?
  refine wpAny_bind (wpAny_specialOf hTs slice_no_index ?_)
  simp only [Option.isNone_none, if_true]
  refine wpAny_pure ?_
  show wpAny _ _ (typeOf (.ref sl) >>= _) _ _ s
  refine wpAny_bind (wpAny_typeOf hTs ?_)
  first
    | rw [if_neg (by decide)]
    | refine PySem.W.KFB.if_not (by decide) ?_
  rw [listSliceParts_eq]
  refine wpAny_bind (wpAny_bind (wpAny_field hos hds (x := .none) rfl (wpAny_bind (wpAny_listPart .none ?_))))
  rw [if_neg hstep]
  refine wpAny_bind (wpAny_field hos hds (x := vl) rfl (wpAny_bind (wpAny_listPart pl ?_)))
  refine wpAny_bind (wpAny_field hos hds (x := vu) rfl (wpAny_bind (wpAny_listPart pu (wpAny_pure ?_))))
  first
    | simp only [hsame, Bool.false_eq_true, if_false]
    | refine PySem.W.KFB.if_not hsame ?_
    | (dsimp only
       rw [if_neg (by rw [hsame]; exact Bool.false_ne_true)])
  refine wpAny_bind (m := Builtin.List.listAllItems (.ref b) "must assign iterable to extended slice") ?_
  unfold Builtin.List.listAllItems
  refine wpAny_bind (wpAny_typeOf hb.typeIs ?_)
  first
    | refine PySem.W.KFB.if_so (by decide) ?_
    | rw [if_pos (by decide)]
    | simp only [beq_self_eq_true, Bool.true_or, if_true]
  unfold Builtin.List.listItems
  refine wpAny_bind (wpAny_seqItems e2 rfl (wpAny_pure ?_))
  refine wpAny_bind (wpAny_bind (wpAny_seqItems e rfl (wpAny_pure ?_)))
  refine wpAny_bind (wpAny_of_eq ((sliceIndices_raw (some (a : Int)) (some (c : Int)) none items.size (by simp)).trans (congrArg (pure : Int × Int × Int → Sem (Int × Int × Int)) (bounds_run hac hc))) ?_)
  show wpAny _ _ (if ((1 : Int) == 1) = true then _ else _) _ _ s
  rw [if_pos (by decide)]
  refine wpAny_bind (wpAny_rule ?_)
  first
    | simp only [notLongL hsz, Bool.false_eq_true, if_false]
    | refine PySem.W.KFB.if_not (notLongL hsz) ?_
  first | refine wpAny_bind (wpAny_pure ?_) | skip
  show wpAny _ _ (updateSeq l (fun xs => xs.extract 0 ((a : Int)).toNat ++ new ++ xs.extract (max (a : Int) (c : Int)).toNat xs.size) >>= _) _ _ s
  rw [hmax, Int.toNat_natCast]
  refine wpAny_bind (wpAny_updateSeq (hz := Nat.le_trans (Nat.le_add_right _ _) hsz) (_hz' := hz') e rfl ?_)
  refine wpAny_bind (wpAny_letGo ?_)
  first
    | exact wpAny_bind (wpAny_pure (wpAny_pure ⟨.none, rfl, wpAny_pure h⟩))
    | exact wpAny_pure ⟨.none, rfl, wpAny_pure h⟩
end
section
variable {X : Cx}
end
end L2
namespace Att
open PySem PySem.W PySem.Calls PyProof.Rows
theorem ints_of_wellAll {P : Params} {h : Heap} : ∀ (ns : List Int) (vs : List Value), WellAll P h vs (ns.map WData.int) → IntsAre vs ns := by
  intro ns
  induction ns with
  | nil =>
    intro vs w
    rw [List.map_nil] at w
    cases w
    exact .nil
  | cons n ns ih =>
    intro vs w
    rw [List.map_cons] at w
    cases w with
    | cons a b =>
      cases a
      exact .cons _ _ (ih _ b)
theorem script_of {l : OpenLaw} {n : Nat} (hn : l.most = some n) {P : Params} {h : Heap} {args : List WData} {vals : List Value}
    (hpre : l.row.toRowW.claim.pre args = true) (hwl : WellAll P h vals args) :
    ∃ a vs ns, vals = [Value.ref a] ∧ args = [WData.list (ns.map WData.int)] ∧ h.get? a = some { cls := .type "list", data := .seq vs.toArray } ∧ IntsAre vs ns ∧ ns.length ≤ n := by
  have hsh : WShape.hasAll [] args [.list .int] = true := (pre_splitW hpre).1
  have hc : l.pre.holds [] { args := args } = true := (pre_splitW hpre).2
  obtain ⟨d, r, rfl, h1, h2⟩ := hasAllW_cons hsh
  obtain rfl := hasAllW_nil h2
  obtain ⟨xs, rfl, h3⟩ := hasW_list h1
  obtain ⟨ns, rfl⟩ := items_int h3
  have hlen : ns.length ≤ n := by
    unfold OpenLaw.pre at hc
    have h4 : (WTm.not (.lt (.lit (.int (n : Int))) (.len (.arg 0)))).holds [] { args := [.list (ns.map .int)] } = true := by
      have h4 := (holds_andW hc).1
      rw [hn] at h4
      exact h4
    have h5 := condW_of h4 (w_not (w_lt w_lit (w_len_list (w_arg rfl))))
    rw [List.length_map] at h5
    refine Nat.le_of_not_lt fun q => ?_
    have q' : (n : Int) < ((ns.length : Nat) : Int) := by omega
    first
      | (rw [decide_eq_true q'] at h5; exact absurd h5 (by decide))
      | (simp at h5; omega)
  cases hwl with
  | cons w1 w2 =>
    cases w2
    cases w1 with
    | list ho hall => exact ⟨_, _, ns, rfl, rfl, ho, ints_of_wellAll ns _ hall, hlen⟩
theorem post_true (l : OpenLaw) (args : List WData) : l.row.toRowW.claim.post args (.bool true) args = true :=
  postW_of (r := l.row.toRowW) (X := (true == true))
    (show WShape.has [] (.bool true) .bool = true by first | rfl | decide | simp [WShape.has, WShape.arms, WShape.armsAll])
    (show (WTm.eq .res (.lit (.bool true))).value [] { args := args, res := some (.bool true), after := args } = some (.bool (true == true)) from w_eq_bool (w_res rfl) w_lit) rfl
theorem attach_call {l : OpenLaw} {n : Nat} {q : Program} {loose : List Str} {XP : (Str → Option Value) → Heap → Prop} {YP : World → Heap → Prop} {d : DefRec}
    (hn : l.most = some n) (hdf : d.params.defaults = [])
    (call : ∀ (w : World) (s₀ s₁ : Shared) (mg mb : Str → Option Value) (fa : Addr) (o : Obj) (pm cd doc : Value) (a : Addr) (vs : List Value) (ns : List Int),
      Ground q loose [] XP w s₀ mg mb s₁.heap → YP w s₁.heap →
      s₁.heap.get? fa = some o → o.data = .func (docDef d.name d.params d.body d.scope pm cd doc) → s₁.heap.CodeRec cd d.name → mg d.name = some (.ref fa) →
      s₁.heap.get? a = some { cls := .type "list", data := .seq vs.toArray } → IntsAre vs ns → ns.length ≤ n → s₁.gens = #[] →
      codeAny (model l.prog w) callerA (.call (.ref fa) ⟨[.ref a], []⟩) (fun r s' => r = .ok (.ret (.bool true)) ∧ OldK s₁.heap s'.heap ∧ s'.os = s₁.os ∧ AllBare s'.gens) s₁) :
    WalkO q loose XP YP l.row.toRowW d [] (fun f vs => PySem.call f vs) := by
  intro w s₀ s₁ mg mb G Y fa o pm cd doc dV kV ho hd hcd hD hmg hg args vals as hpre hlay hrd hwl hlo
  obtain rfl : dV = .none := Dflts.none hD hdf
  obtain rfl : kV = .none := Dflts.noKw hD
  obtain ⟨a, vs, ns, rfl, rfl, hobj, hints, hlen⟩ := script_of hn hpre hwl
  refine enter_call (codeAny_mono (call w s₀ s₁ mg mb fa o pm cd doc a vs ns G Y ho (fd_plain hd) hcd hmg hobj hints hlen hg) fun r s' hq => ?_)
  obtain ⟨rfl, h2, h3, h4⟩ := hq
  exact ⟨.inl ⟨.bool true, .bool true, [], rfl, fun _ => rfl, .bool true, post_true l _, fun _ => ⟨List.Pairwise.nil, fun _ hm => (nomatch hm)⟩⟩, h2, h3, h4⟩
section
variable {prog : Program} {w : World} {A : Around} {E : Value → Shared → Prop} {s : Shared} {K : Frag}
end
end Att
namespace L2
open PySem PySem.Spec PyProof.Rows
theorem vals_ints : ∀ {vs : List Value} {ns : List Int}, IntsAre vs ns → Vals (ns.map V.int) vs
  | _, _, .nil => .nil
  | _, _, .cons n t h => .cons ⟨t, rfl⟩ (vals_ints h)
def Only (H : Hp) : Prop := ∀ b, H b = none ∨ ∃ o xs, H b = some (.frz o (.lst xs))
theorem law_call {P : Program} {w : World} {K : PySem.W.Frag} {mg mb : Str → Option Value} {CX : CXT} {k : Nat} {fa a : Addr} {fd : FuncData} {x : Str} {sp : Sp} {s₁ : Shared} {vs : List Value} {ns : List Int}
    (KX : K.In s₁.heap) (hns : s₁.heap.Ns mainGlobals mg) (hb : s₁.heap.Ns builtinsNs mb) (hbb : ∀ x : Str, x ≠ "__name__" → mb x = bootBuiltins x) (hlim : s₁.heap.NoLimit) (hg : s₁.gens = #[])
    (ha : s₁.heap.get? a = some { cls := .type "list", data := .seq vs.toArray }) (hi : IntsAre vs ns) (hl : ns.length ≤ sizeLine) (hr : Room k callerA)
    (F : ∀ base : Heap, K.In base → base.Ns mainGlobals mg → FnOk P w K mg base CX k fa fd [x] sp) (hbind : ∀ (s : Shared) (u : Value), BindsTo s fd ⟨[u], []⟩ [(x, u)])
    (hsp : ∀ H : Hp, Only H → SqL K H a (ns.map V.int) → sp [.ref a] H (fun v _ => v = .bl true) fun _ _ _ => False)
    (hCX : ∀ H e s', CX [] H s₁ (fun _ _ _ => False) e s' → False) :
    codeAny (model P w) callerA (.call (.ref fa) ⟨[.ref a], []⟩) (fun r s' => r = .ok (.ret (.bool true)) ∧ OldK s₁.heap s'.heap ∧ s'.os = s₁.os ∧ AllBare s'.gens) s₁ := by
  have rv := vals_ints hi
  have lenV := hi.length
  -- from an abstract heap in which nothing but the script may be tracked
  have core : ∀ H : Hp, Only H → SqL K H a (ns.map V.int) → HOk P w H s₁.heap → (∀ b, H b ≠ none → b = a) → (H a ≠ none → K.lookup a = none) →
      codeAny (model P w) callerA (.call (.ref fa) ⟨[.ref a], []⟩) (fun r s' => r = .ok (.ret (.bool true)) ∧ OldK s₁.heap s'.heap ∧ s'.os = s₁.os ∧ AllBare s'.gens) s₁ := by
    intro H hO hS hok hA hK
    have base_of : ∀ {b : Addr} {o : Obj}, s₁.heap.get? b = some o → H b = none → (hidT s₁.heap H).get? b = some o := fun e n => hidT_get e n
    have noA : ∀ {b : Addr} {o : Obj} {es : Array DictEntry} {ep : Nat}, s₁.heap.get? b = some o → o.data = .dict es ep → H b = none := fun {b o es ep} e d => by
      cases q : H b with
      | none => rfl
      | some u =>
        have e' : b = a := hA b (by rw [q]; simp)
        subst e'
        rw [ha] at e; cases e
        have d' : Data.seq vs.toArray _ = Data.dict es ep := d
        cases d'
    have nsK : ∀ {b : Addr} {m : Str → Option Value}, s₁.heap.Ns b m → (hidT s₁.heap H).Ns b m := fun {b m} ⟨o, es, ep, e, d, r⟩ => ⟨o, es, ep, base_of e (noA e d), d, r⟩
    have hKb : K.In (hidT s₁.heap H) := fun b o e => base_of (KX b o e) (by
      cases q : H b with
      | none => rfl
      | some u =>
        have e' : b = a := hA b (by rw [q]; simp)
        subst e'
        rw [hK (by rw [q]; simp)] at e; cases e)
    have hM : Mod K mg (hidT s₁.heap H) := ⟨hKb, nsK hns, ⟨mb, nsK hb, hbb⟩, let ⟨mc, h1, h2⟩ := hlim; ⟨mc, nsK h1, h2⟩⟩
    have e0 : Env0 P w K mg (hidT s₁.heap H) callerA [] s₁ H := ⟨rfl, hM, fun b o e => of_hidT e, Nat.le_of_eq (hidT_size _ _), trivial, fun b hb => absurd (show b ∈ ([] : List Addr) from hb) (by simp), hok, .of_eq hg⟩
    refine codeAny_mono ((F _ hKb (nsK hns)).run callerA [] s₁ H ⟨[.ref a], []⟩ [.ref a] [.ref a] _ _ hr e0 (hbind s₁ (.ref a)) (.cons rfl .nil) (hsp H hO hS)) fun r s' h => ?_
    cases r with
    | error e => exact (hCX H e s' h).elim
    | ok fl =>
      cases fl with
      | next => exact False.elim h
      | brk => exact False.elim h
      | cont => exact False.elim h
      | ret u =>
        obtain ⟨v, H', os, bare, un, hok', r', q⟩ := h
        have q' : v = .bl true := q
        subst q'
        obtain rfl : u = Value.bool true := r'
        refine ⟨rfl, OldK.of_keep fun b o e => ?_, os, bare⟩
        cases q : H b with
        | none => exact un.keep b o e q (by intro z; exact absurd (show b ∈ ([] : List Addr) from z) (by simp)) (by simp)
        | some u =>
          rcases hO b with z | ⟨ob, xs, z⟩
          · rw [q] at z; cases z
          · have z2 := un.frzs b ob _ z
            obtain ⟨e1, _⟩ := hok b _ z
            obtain ⟨e2, _⟩ := hok' b _ z2
            rw [e] at e1; cases e1
            exact e2
  cases hk : K.lookup a with
  | some o =>
    -- the script is one of the module's own objects
    have e := KX a o hk
    rw [ha] at e
    cases e
    refine core (fun _ => none) (fun _ => .inl rfl) (.inr ⟨_, vs.toArray, _, hk, rfl, rfl, rfl, by rw [List.size_toArray, lenV]; exact hl, by simpa using rv⟩) (fun b u z => by have z' : (none : Option HO) = some u := z; cases z') (fun b z => absurd rfl z) fun z => absurd rfl z
  | none =>
    refine core (fun b => if b = a then some (.frz { cls := .type "list", data := .seq vs.toArray } (.lst (ns.map V.int))) else none) (fun b => ?_) (.inl (.inr ⟨{ cls := .type "list", data := .seq vs.toArray }, if_pos rfl⟩)) (fun b u z => ?_) (fun b z => ?_) fun _ => hk
    · by_cases hb : b = a
      · exact .inr ⟨_, _, if_pos hb⟩
      · exact .inl (if_neg hb)
    · by_cases hb : b = a
      · have z' := (if_pos hb).symm.trans z
        cases z'
        subst hb
        exact ⟨ha, by rw [List.length_map]; exact hl, vs, _, rv, ha⟩
      · have z' := (if_neg hb).symm.trans z
        cases z'
    · by_cases hb : b = a
      · exact hb
      · exact absurd (if_neg hb) z
end L2
namespace L2
open PySem PySem.Spec PyProof.Rows
theorem walk_of {l : PySem.W.OpenLaw} {n k : Nat} {q : Program} {loose : List Str} {XP : (Str → Option Value) → Heap → Prop} {YP : World → Heap → Prop} {d : DefRec} {K : Params → PySem.W.Frag} {CX : World → CXT} {sp : World → Sp} {x : Str}
    (hn : l.most = some n) (hn2 : n ≤ sizeLine) (hdf : d.params.defaults = []) (hr : Room k callerA)
    (hY : ∀ (w : World) (h : Heap), YP w h → (K w.params).In h)
    (F : ∀ (w : World) (mg : Str → Option Value) (fa : Addr) (h : Heap), (K w.params).In h → h.Ns mainGlobals mg → mg d.name = some (.ref fa) →
      ∃ fd : FuncData, (∀ (s : Shared) (u : Value), BindsTo s fd ⟨[u], []⟩ [(x, u)]) ∧
        ∀ base : Heap, (K w.params).In base → base.Ns mainGlobals mg → FnOk l.prog w (K w.params) mg base (CX w) k fa fd [x] (sp w))
    (hsp : ∀ (w : World) (H : Hp) (a : Addr) (ns : List Int), ns.length ≤ n → Only H → SqL (K w.params) H a (ns.map V.int) → sp w [.ref a] H (fun v _ => v = .bl true) fun _ _ _ => False)
    (hCX : ∀ (w : World) (H : Hp) (s : Shared) (e : Value) (s' : Shared), CX w [] H s (fun _ _ _ => False) e s' → False) :
    PySem.W.WalkO q loose XP YP l.row.toRowW d [] (fun f vs => PySem.call f vs) := by
  refine Att.attach_call hn hdf fun w s₀ s₁ mg mb fa o pm cd doc a vs ns G Y ho hd hcd hmg hobj hints hlen hg => ?_
  have KX := hY w _ Y
  obtain ⟨fd, hb, hF⟩ := F w mg fa _ KX G.T.g hmg
  exact law_call KX G.T.g G.T.b G.T.builtins G.T.nolimit hg hobj hints (Nat.le_trans hlen hn2) hr hF hb (fun H hO hS => hsp w H a ns hlen hO hS) fun H e s' => hCX w H s₁ e s'
end L2
namespace L2
open PySem PySem.Spec PyProof.Rows
def defArgs (s : Stmt) : Arguments := match s with
  | .FunctionDef _ a _ _ _ _ _ _ _ _ => a
  | _ => { posonlyargs := [], args := [], vararg := none, kwonlyargs := [], kw_defaults := [], kwarg := none, defaults := [] }
def defBody (s : Stmt) : List Stmt := match s with
  | .FunctionDef _ _ b _ _ _ _ _ _ _ => b
  | _ => []
def defScope (s : Stmt) : Scope := match s with
  | .FunctionDef _ _ _ _ _ _ sc _ _ _ => sc
  | _ => { kind := .function, names := [], isGenerator := false, isCoroutine := false }
abbrev CX0 : CXT := fun _ _ _ _ _ _ => False
abbrev E0 : XK := fun _ _ _ => False
theorem pass0 {X : Cx} : Passes CX0 X E0 := fun _ _ _ _ _ _ _ h => h.elim
structure Fun (K : PySem.W.Frag) (x qual : Str) (st : Stmt) (f : Addr) (fd : FuncData) : Prop where
  ex : ∃ (oc : Value) (od : Option Addr) (kV doc pm : Value) (an : Option Addr) (cdv ct : Value) (osl : Array (Option Value)),
    fd = PySem.W.fnOf x qual (defArgs st) (defBody st) (defScope st) .none kV doc pm an cdv ct ∧ K.lookup f = some ⟨oc, od, .func fd, osl⟩ ∧ PySem.W.codeIn K cdv qual = true
  kp : PySem.W.keepIn K (.ref f) = true
section
variable {P : Program} {w : World} {K : PySem.W.Frag} {mg : Str → Option Value} {base : Heap}
theorem Fun.ok {x qual : Str} {st : Stmt} {f : Addr} {fd : FuncData} {N ps : List Str} {k : Nat} {sp : Sp} (F : Fun K x qual st f fd) (S : FnScope N ps (defScope st)) (len : ∀ vs H Q E, sp vs H Q E → vs.length = ps.length)
    (hbody : ∀ (cdv : Value) (A : Around) (outer : List Env) (s : Shared) (H : Hp) (vs : List V) (Q : VK) (E : XK), Room k (A.deeper (envOfC qual (defScope st) s.heap.objs.size f cdv)) → sp vs H Q E →
      ∃ t, PSs (cxOf CX0 P w K mg base N qual (defScope st) f cdv A outer s H E).nox (defBody st) t ∧ t { nx := fun _ H' => Q .non H', rt := Q } (start N vs) H) : FnOk P w K mg base CX0 (k + 1) f fd ps sp := by
  obtain ⟨oc, od, kV, doc, pm, an, cdv, ct, osl, rfl, lk, hcd⟩ := F.ex
  refine fn_of lk hcd S len fun A outer s H vs Q E hr hsp => ?_
  obtain ⟨t, h, q⟩ := hbody cdv A outer s H vs Q E hr hsp
  exact ⟨t, h.nox, q⟩
theorem Fun.binds {x qual : Str} {st : Stmt} {f : Addr} {fd : FuncData} {ps : List Str} (F : Fun K x qual st f fd)
    (h : ∀ (kV doc pm : Value) (an : Option Addr) (cdv ct : Value) (us : List Value), us.length = ps.length → bindArgs (PySem.W.fnOf x qual (defArgs st) (defBody st) (defScope st) .none kV doc pm an cdv ct) ⟨us, []⟩ = pure (ps.zip us)) : Binds K fd ps [] := by
  obtain ⟨oc, od, kV, doc, pm, an, cdv, ct, osl, rfl, lk, hcd⟩ := F.ex
  exact .all (h kV doc pm an cdv ct)
theorem fun_mk {x qual : Str} {st : Stmt} {f : Addr} {oc : Value} {od an : Option Addr} {osl : Array (Option Value)} {kV doc pm cdv ct : Value} (l : K.lookup f = some ⟨oc, od, .func (PySem.W.fnOf x qual (defArgs st) (defBody st) (defScope st) .none kV doc pm an cdv ct), osl⟩)
    (c : PySem.W.codeIn K cdv qual = true) (k : PySem.W.keepIn K (.ref f) = true) : Fun K x qual st f (PySem.W.fnOf x qual (defArgs st) (defBody st) (defScope st) .none kV doc pm an cdv ct) := ⟨⟨oc, od, kV, doc, pm, an, cdv, ct, osl, rfl, l, c⟩, k⟩
end
theorem small1000 {n : Nat} (h : n ≤ 1000) : n < sizeLine := Nat.lt_of_le_of_lt h (by decide)
section
variable {X : Cx}
end
theorem ite2 {c A B : Prop} [Decidable c] (h1 : c → A) (h2 : ¬ c → B) : if c then A else B := by
  by_cases h : c
  · rw [if_pos h]
    exact h1 h
  · rw [if_neg h]
    exact h2 h
def Same (H H' : Hp) : Prop := ∀ b o, H b = some o → H' b = some o
theorem Same.refl (H : Hp) : Same H H := fun _ _ h => h
theorem Same.trans {H H1 H2 : Hp} (a : Same H H1) (b : Same H1 H2) : Same H H2 := fun c o h => b c o (a c o h)
theorem Same.free {H H' : Hp} (e : Same H H') {l : Addr} (h : H' l = Option.none) : H l = Option.none := by
  cases q : H l with
  | none => rfl
  | some o =>
    rw [e l o q] at h
    cases h
theorem Same.seq {K : PySem.W.Frag} {H H' : Hp} {a : Addr} {xs : List V} (e : Same H H') (h : SqL K H a xs) : SqL K H' a xs := by
  rcases h with (h | ⟨o, h⟩) | h
  · exact .inl (.inl (e _ _ h))
  · exact .inl (.inr ⟨o, e _ _ h⟩)
  · exact .inr h
end L2
set_option Elab.async false
set_option linter.all false
set_option maxRecDepth 100000
namespace L2
open PySem PySem.Spec PyProof.Rows
def kindV (H : Hp) : V → Option String
  | .non => some "NoneType"
  | .bl _ => some "bool"
  | .int _ => some "int"
  | .str _ => some "str"
  | .ref p => match H p with
    | some (.lst _) => some "list"
    | some (.tup _) => some "tuple"
    | _ => none
  | _ => none
def subT (a b : String) : Bool := a == b || (a == "bool" && b == "int")
def plainT (T : String) : Prop := T = "int" ∨ T = "bool" ∨ T = "tuple" ∨ T = "list" ∨ T = "str"
section
variable {X : Cx}
theorem call_isi : CallR X (.builtin "isinstance") (fun xs H Q => ∃ x T k, xs = [x, .ty T] ∧ plainT T ∧ kindV H x = some k ∧ Q (.bl (subT k T)) H) := by
  intro pins s σ H xs us Q I r h
  obtain ⟨x, T, k, rfl, hT, hk, q⟩ := h
  obtain ⟨u, w', rfl, rx, ry⟩ := vals2 r
  cases (show w' = Value.type T from ry)
  have fin : ∀ {b : Bool} {s' : Shared}, b = subT k T → Inv X pins σ H s' → EP X pins σ Q (.bool b) s' := fun {b s'} e J => ⟨.bl b, H, J, rfl, by rw [e]; exact q⟩
  cases x with
  | non =>
    cases (show u = Value.none from rx)
    cases hk
    rcases hT with rfl | rfl | rfl | rfl | rfl
    · exact IsiPair.NoneType_int (fin (by decide) (I.tok _))
    · exact IsiPair.NoneType_bool (fin (by decide) (I.tok _))
    · exact IsiPair.NoneType_tuple (fin (by decide) (I.tok _))
    · exact IsiPair.NoneType_list (fin (by decide) (I.tok _))
    · exact IsiPair.NoneType_str (fin (by decide) (I.tok _))
  | bl b =>
    cases (show u = Value.bool b from rx)
    cases hk
    rcases hT with rfl | rfl | rfl | rfl | rfl
    · exact IsiPair.bool_int (fin (by decide) I)
    · exact IsiPair.bool_bool (fin (by decide) I)
    · exact IsiPair.bool_tuple (fin (by decide) (I.tok _))
    · exact IsiPair.bool_list (fin (by decide) (I.tok _))
    · exact IsiPair.bool_str (fin (by decide) (I.tok _))
  | int i =>
    obtain ⟨t, rfl⟩ := (show ∃ t, u = Value.int i t from rx)
    cases hk
    rcases hT with rfl | rfl | rfl | rfl | rfl
    · exact IsiPair.int_int (fin (by decide) I)
    · exact IsiPair.int_bool (fin (by decide) (I.tok _))
    · exact IsiPair.int_tuple (fin (by decide) (I.tok _))
    · exact IsiPair.int_list (fin (by decide) (I.tok _))
    · exact IsiPair.int_str (fin (by decide) (I.tok _))
  | str z =>
    obtain ⟨t, rfl⟩ := (show ∃ t, u = Value.str z t from rx)
    cases hk
    rcases hT with rfl | rfl | rfl | rfl | rfl
    · exact IsiPair.str_int (fin (by decide) (I.tok _))
    · exact IsiPair.str_bool (fin (by decide) (I.tok _))
    · exact IsiPair.str_tuple (fin (by decide) (I.tok _))
    · exact IsiPair.str_list (fin (by decide) (I.tok _))
    · exact IsiPair.str_str (fin (by decide) I)
  | ref p =>
    cases (show u = Value.ref p from rx)
    cases e : H p with
    | none => simp [kindV, e] at hk
    | some o =>
      cases o with
      | lst ys =>
        have hk' : k = "list" := by simp [kindV, e] at hk; exact hk.symm
        subst hk'
        obtain ⟨its, n, rr, ho, hz⟩ := I.lst e
        rcases hT with rfl | rfl | rfl | rfl | rfl
        · exact IsiPair.list_int ho rfl (fin (by decide) (I.tok _))
        · exact IsiPair.list_bool ho rfl (fin (by decide) (I.tok _))
        · exact IsiPair.list_tuple ho rfl (fin (by decide) (I.tok _))
        · exact IsiPair.list_list ho rfl (fin (by decide) I)
        · exact IsiPair.list_str ho rfl (fin (by decide) (I.tok _))
      | tup ys =>
        have hk' : k = "tuple" := by simp [kindV, e] at hk; exact hk.symm
        subst hk'
        obtain ⟨its, rr, ⟨ob, ho, hc, _⟩, hz⟩ := I.tuple (xs := ys) (.inl (.inl e))
        rcases hT with rfl | rfl | rfl | rfl | rfl
        · exact IsiPair.tuple_int ho hc (fin (by decide) (I.tok _))
        · exact IsiPair.tuple_bool ho hc (fin (by decide) (I.tok _))
        · exact IsiPair.tuple_tuple ho hc (fin (by decide) I)
        · exact IsiPair.tuple_list ho hc (fin (by decide) (I.tok _))
        · exact IsiPair.tuple_str ho hc (fin (by decide) (I.tok _))
      | _ => simp [kindV, e] at hk
  | _ => cases hk
def rBits : V → List V → Hp → VK → Prop := fun x xs H Q => ∃ i, x = .int i ∧ xs = [] ∧ Q (.int (Builtin.Int.intBits i : Nat)) H
def CMulB (i j : Int) : Prop := Builtin.Int.intBits i + Builtin.Int.intBits j ≤ 134217728
def CDivB (i j : Int) : Prop := 0 < j ∧ j.natAbs.log2 < 9000
theorem op_fdivB : OpR X (binaryOp .FloorDiv) (rI CDivB fun i j => .int (i / j)) := opI fun i j _ _ _ _ _ hc q => by
  have h1 : (0 : Int) < j := hc.1
  exact floordiv_int (by omega) (by rw [Int.fdiv_eq_ediv_of_nonneg i (by omega)]; exact q) (.inl (PyProof.noPylong_of_log2 hc.2))
def CDivF (i j : Int) : Prop := j ≠ 0 ∧ j.natAbs.log2 < 9000
def eqVs : List V → List V → Bool
  | [], [] => true
  | x :: xs, y :: ys => eqV x y && eqVs xs ys
  | _, _ => false
end
end L2
namespace L2
open PySem PySem.Spec PyProof.Rows
def Fn0 (K : PySem.W.Frag) (mg : Str → Option Value) (x : Str) (st : Stmt) : Prop := ∃ f fd, Fun K x x st f fd ∧ mg x = some (.ref f)
theorem fn0_mk {K : PySem.W.Frag} {mg : Str → Option Value} {h : Heap} (X : K.In h) (G : h.Ns mainGlobals mg) {x : Str} {st : Stmt} {f : Addr} {oc : Value} {od an : Option Addr} {osl : Array (Option Value)} {kV doc pm cdv ct : Value}
    (a : PySem.W.nsIn K mainGlobals x = some (some (.ref f))) (l : K.lookup f = some ⟨oc, od, .func (PySem.W.fnOf x x (defArgs st) (defBody st) (defScope st) .none kV doc pm an cdv ct), osl⟩) (c : PySem.W.codeIn K cdv x = true) (k : PySem.W.keepIn K (.ref f) = true) : Fn0 K mg x st :=
  ⟨f, _, fun_mk l c k, PySem.W.mg_of X G a⟩
def Cal (P : Program) (w : World) (K : PySem.W.Frag) (mg : Str → Option Value) (base : Heap) (x : Str) (ps : List Str) (k : Nat) (sp : Sp) : Prop :=
  ∃ f fd, mg x = some (.ref f) ∧ PySem.W.keepIn K (.ref f) = true ∧ Binds K fd ps [] ∧ FnOk P w K mg base CX0 k f fd ps sp
theorem cal_of {P : Program} {w : World} {K : PySem.W.Frag} {mg : Str → Option Value} {base : Heap} {x : Str} {st : Stmt} {N ps : List Str} {k : Nat} {sp : Sp} (F : Fn0 K mg x st) (S : FnScope N ps (defScope st))
    (hb : ∀ (kV doc pm : Value) (an : Option Addr) (cdv ct : Value) (us : List Value), us.length = ps.length → bindArgs (PySem.W.fnOf x x (defArgs st) (defBody st) (defScope st) .none kV doc pm an cdv ct) ⟨us, []⟩ = pure (ps.zip us))
    (len : ∀ vs H Q E, sp vs H Q E → vs.length = ps.length)
    (hbody : ∀ (f : Addr) (cdv : Value) (A : Around) (outer : List Env) (s : Shared) (H : Hp) (vs : List V) (Q : VK) (E : XK), Room k (A.deeper (envOfC x (defScope st) s.heap.objs.size f cdv)) → sp vs H Q E →
      ∃ t, PSs (cxOf CX0 P w K mg base N x (defScope st) f cdv A outer s H E).nox (defBody st) t ∧ t { nx := fun _ H' => Q .non H', rt := Q } (start N vs) H) : Cal P w K mg base x ps (k + 1) sp := by
  obtain ⟨f, fd, F, m⟩ := F
  exact ⟨f, fd, m, F.kp, F.binds hb, F.ok S len fun cdv A outer s H vs Q E => hbody f cdv A outer s H vs Q E⟩
section
variable {X : Cx} {x : Str} {ps : List Str} {k : Nat} {sp : Sp} {e : Expr} {es : List Expr} {t : TA} {p pos : Pos}
theorem pe_callC (C : Cal X.prog X.w X.K X.mg X.base x ps k sp) (hr : Room k X.A) (hg : Gl X x) (ha : PA X (e :: es) t) (hdb : (x == ("__debug__" : Str)) = false := by decide)
    (he : starEach (e :: es) X.env = (false, eval e X.env) :: starEach es X.env := by rfl) (hpl : (backTo pos (starEach es X.env)).any (·.1) = false := by rfl) : PE X (.Call (.Name x p) (e :: es) [] pos) (tCall sp [] E0 t) := by
  obtain ⟨f, fd, m, kp, b, F⟩ := C
  exact pe_call F hr hg m kp b .nil pass0 ha hdb he hpl
end
theorem Same.upd {H H' : Hp} {a : Addr} {o : HO} (e : Same H H') (h : H a = none) : Same H (upd H' a o) := fun b o' q => by
  rw [upd_ne (ne_of_none q h)]
  exact e b o' q
theorem Same.new {H : Hp} {a : Addr} {o : HO} (h : H a = none) : Same H (L2.upd H a o) := (Same.refl H).upd h
end L2
set_option Elab.async false
set_option linter.all false
set_option maxRecDepth 100000
namespace L2
open PySem PySem.Spec PyProof.Rows
def rIxTH : R2 := fun x y H Q => ∃ p xs i v, x = .ref p ∧ y = .int i ∧ H p = some (.tup xs) ∧ atI xs i = some v ∧ Q v H
def rIxLH : R2 := fun x y H Q => ∃ p xs i v, x = .ref p ∧ y = .int i ∧ H p = some (.lst xs) ∧ atI xs i = some v ∧ Q v H
theorem ix_tupH {X : Cx} : IxR X rIxTH := by
  intro value slice pins s σ H x y v u Q I rx ry h hs
  obtain ⟨p, xs, i, z, e1, e2, hp, ha, q⟩ := h
  exact ix_tup value slice pins s σ H x y v u Q I rx ry ⟨p, xs, i, z, e1, e2, .inl (.inl hp), ha, q⟩ hs
theorem ix_listH {X : Cx} : IxR X rIxLH := by
  intro value slice pins s σ H x y v u Q I rx ry h hs
  obtain ⟨p, xs, i, z, e1, e2, hp, ha, q⟩ := h
  exact ix_list value slice pins s σ H x y v u Q I rx ry ⟨p, xs, i, z, e1, e2, .inl (.inl hp), ha, q⟩ hs
def rEqTH : R2 := fun x y H Q => ∃ a b xs ys, x = .ref a ∧ y = .ref b ∧ H a = some (.tup xs) ∧ H b = some (.tup ys) ∧ xs.all flatV = true ∧ ys.all flatV = true ∧ Q (.bl (eqVs xs ys)) H
def rLenH : List V → Hp → VK → Prop := fun xs H Q => ∃ p ys, xs = [V.ref p] ∧ (H p = some (.lst ys) ∨ H p = some (.tup ys)) ∧ Q (.int ys.length) H
theorem call_lenH {X : Cx} : CallR X (.builtin "len") rLenH := by
  intro pins s σ H xs us Q I r h
  obtain ⟨p, ys, e, hp, q⟩ := h
  exact call_len_seq pins s σ H xs us Q I r ⟨p, ys, e, hp.imp (fun z => .inl (.inl z)) (fun z => .inl (.inl z)), q⟩
theorem pe_bty {X : Cx} {x : Str} {n : String} {pos : Pos} (hg : Gl X x) (hm : X.mg x = none) (hv : bootBuiltins x = some (.type n)) (hn : x ≠ "__name__" := by decide) (hd : (x == ("__debug__" : Str)) = false := by decide) : PE X (.Name x pos) (tC (.ty n)) :=
  pe_bltn hg hm hv rfl hn hd
theorem atI_0 {α : Type} {x : α} {xs : List α} : atI (x :: xs) 0 = some x := by simp [atI, ixN]
theorem atI_1 {α : Type} {x y : α} {xs : List α} : atI (x :: y :: xs) 1 = some y := by
  have h : (1 : Int) < (xs.length : Int) + 1 + 1 := by omega
  simp [atI, ixN, h]
theorem atI_2 {α : Type} {x y z : α} {xs : List α} : atI (x :: y :: z :: xs) 2 = some z := by
  have h : (2 : Int) < (xs.length : Int) + 1 + 1 + 1 := by omega
  simp [atI, ixN, h]
theorem atI_nn {α : Type} {xs : List α} {i : Int} {v : α} (h0 : 0 ≤ i) (h : xs[i.toNat]? = some v) : atI xs i = some v := by
  have hl : i.toNat < xs.length := (List.getElem?_eq_some_iff.mp h).1
  have hl' : i < xs.length := by omega
  unfold atI ixN
  rw [if_pos h0, if_pos hl']
  exact h
theorem ixN_00 (n : Nat) : ixN (n + 1) 0 = some 0 := by
  have : (0 : Int) < (n : Int) + 1 := by omega
  simp [ixN, this]
theorem while_W {c : TT} {tb : TS} {D : Ends} {σ : St} {H : Hp} (Pv : St → Hp → Prop) (μ : St → Hp → Nat) (h0 : Pv σ H)
    (hs : ∀ σ H, Pv σ H → c σ H fun b H1 => if b = true then ∃ N : St → Hp → Prop, (∀ σ' H', N σ' H' → ∃ m', m' < μ σ H ∧ m' = μ σ' H' ∧ Pv σ' H') ∧ tb { D with nx := N, ct := N, bk := D.nx } σ H1 else D.nx σ H1) : tWhile c tb D σ H :=
  ⟨fun m σ H => m = μ σ H ∧ Pv σ H, ⟨_, rfl, h0⟩, by rintro m σ H ⟨rfl, p⟩; exact hs σ H p⟩
theorem N_ok {Pv : St → Hp → Prop} {μ : St → Hp → Nat} {k : Nat} : ∀ σ' H', (Pv σ' H' ∧ μ σ' H' < k) → ∃ m', m' < k ∧ m' = μ σ' H' ∧ Pv σ' H' := fun _ _ ⟨a, b⟩ => ⟨_, b, rfl, a⟩
def ForGo (J : It) (g : TG) (tb : TS) (D : Ends) (σ : St) (H : Hp) : Prop := ∃ W : Nat → Nat → St → Hp → Prop, (∃ m, W 0 m σ H) ∧ ∀ i m σ H, W i m σ H →
  (J.stop i H ∧ D.nx σ H) ∨ (J.go i H ∧ ∃ N : St → Hp → Prop, (∀ σ' H', N σ' H' → ∃ m', m' < m ∧ W (i + 1) m' σ' H') ∧ ∀ x H', J.yld i H x H' → g x σ H' fun σ2 H2 => tb { D with nx := N, ct := N, bk := D.nx } σ2 H2)
theorem tFor_eq {wi : TI} {g : TG} {tb : TS} {D : Ends} {σ : St} {H : Hp} : tFor wi g tb D σ H = wi σ H fun J H1 => ForGo J g tb D σ H1 := rfl
theorem go_range {lo : Int} {n : Nat} {g : TG} {tb : TS} {D : Ends} {σ : St} {H : Hp} (Pv : Nat → St → Hp → Prop) (h0 : Pv 0 σ H)
    (hs : ∀ i σ H, i < n → Pv i σ H → g (.int (lo + i)) σ H fun σ2 H2 => tb { D with nx := Pv (i + 1), ct := Pv (i + 1), bk := D.nx } σ2 H2) (hd : ∀ σ H, Pv n σ H → D.nx σ H) : ForGo (Itr lo n) g tb D σ H := for_range Pv h0 hs hd
def notStar : Expr → Bool
  | .Starred .. => false
  | _ => true
theorem starEach_plain {e : Expr} {es : List Expr} {env : Env} (h : notStar e = true) : starEach (e :: es) env = (false, eval e env) :: starEach es env := by
  cases e <;> first | rfl | exact absurd (show false = true from h) Bool.false_ne_true
def plainArgs : List Expr → Bool
  | [] => true
  | e :: es => notStar e && plainArgs es
theorem backTo_plain {pos : Pos} {env : Env} : ∀ {es : List Expr}, plainArgs es = true → (backTo pos (starEach es env)).any (·.1) = false
  | [], _ => rfl
  | e :: es, h => by
    have h' : notStar e = true ∧ plainArgs es = true := by simpa [plainArgs] using h
    rw [starEach_plain h'.1]
    show (false || (backTo pos (starEach es env)).any (·.1)) = false
    rw [backTo_plain h'.2]
    rfl
def isComp : Expr → Bool
  | .ListComp .. => true
  | .SetComp .. => true
  | .DictComp .. => true
  | _ => false
theorem swaps_plain {e : Expr} {t : Option Expr} {n : Nat} {env : Env} (h : isComp e = false) : swapsWith e t n env = pure false := by
  cases e <;> first | rfl | exact absurd (show true = false from h) Bool.noConfusion
section
variable {X : Cx} {x : Str} {ps : List Str} {k : Nat} {sp : Sp} {e : Expr} {es : List Expr} {te : TE} {t : TA} {p pos : Pos} {id : String} {r : List V → Hp → VK → Prop}
theorem pa_c (ha : PE X e te) (hr : PA X es t) (hs : notStar e = true := by rfl) : PA X (e :: es) (tCons te t) := pa_cons ha hr (starEach_plain hs)
theorem pe_callD (C : Cal X.prog X.w X.K X.mg X.base x ps k sp) (hr : Room k X.A) (hg : Gl X x) (ha : PA X (e :: es) t) (hs : plainArgs (e :: es) = true := by rfl) (hdb : (x == ("__debug__" : Str)) = false := by decide) :
    PE X (.Call (.Name x p) (e :: es) [] pos) (tCall sp [] E0 t) :=
  have h' : notStar e = true ∧ plainArgs es = true := by simpa [plainArgs] using hs
  pe_callC C hr hg ha hdb (starEach_plain h'.1) (backTo_plain h'.2)
theorem pe_callE (hc : CallR X (.builtin id) r) (hg : Gl X x) (hm : X.mg x = none) (hv : bootBuiltins x = some (.builtin id)) (ha : PA X (e :: es) t) (hs : plainArgs (e :: es) = true := by rfl) (hn : x ≠ "__name__" := by decide) (hdb : (x == ("__debug__" : Str)) = false := by decide) :
    PE X (.Call (.Name x p) (e :: es) [] pos) (tCB r t) :=
  have h' : notStar e = true ∧ plainArgs es = true := by simpa [plainArgs] using hs
  pe_callB hc hg hm hv ha hn hdb (starEach_plain h'.1) (backTo_plain h'.2)
theorem ps_set1 {i : Nat} {pos' : Pos} (hN : X.N.Nodup) (hi : X.N[i]? = some x) (hx : X.env.scope.names.lookup x = some .local) (he : PE X e te) (hs : isComp e = false := by rfl) : PS X (.Assign [.Name x pos'] e pos) (tAsg te (gName i)) :=
  ps_set hN hi (.inl hx) he (swaps_plain hs) (.inr hx)
theorem pg_name1 {i : Nat} (hN : X.N.Nodup) (hi : X.N[i]? = some x) (hx : X.env.scope.names.lookup x = some .local) : PG X (.Name x pos) (gName i) := pg_name hN hi (.inl hx) (.inr hx)
theorem ps_expr1 (he : PE X e te) (hs : isComp e = false := by rfl) : PS X (.Expr e pos) (tDrop te) := ps_expr he (swaps_plain hs)
theorem pv1 (i : Nat) (hN : X.N[i]? = some x := by rfl) (hv : X.env.scope.names.lookup x = some .local := by rfl) (hd : (x == ("__debug__" : Str)) = false := by decide) (hcd : (x == ("__classdict__" : Str)) = false := by decide) : PE X (.Name x pos) (tVar i) := pe_var hN (.inl hv) hd hcd
end
def tCut (t : TS) : TS := fun D σ H => ∃ M : St → Hp → Prop, t { D with nx := M } σ H ∧ ∀ σ' H', M σ' H' → D.nx σ' H'
theorem ps_cut {X : Cx} {st : Stmt} {t : TS} (h : PS X st t) : PS X st (tCut t) := by
  intro pins s σ H D I hq
  obtain ⟨M, h1, h2⟩ := hq
  refine thn (h pins s σ H _ I h1) fun f s' q => ?_
  cases f with
  | next => obtain ⟨σ', H', I', m⟩ := q; exact ⟨σ', H', I', h2 _ _ m⟩
  | brk => exact q
  | cont => exact q
  | ret u => exact q
theorem bt_len : bootBuiltins "len" = some (.builtin "len") := by decide +kernel
theorem bt_abs : bootBuiltins "abs" = some (.builtin "abs") := by decide +kernel
theorem bt_isinstance : bootBuiltins "isinstance" = some (.builtin "isinstance") := by decide +kernel
theorem bt_int : bootBuiltins "int" = some (.type "int") := by decide +kernel
theorem bt_list : bootBuiltins "list" = some (.type "list") := by decide +kernel
theorem bt_str : bootBuiltins "str" = some (.type "str") := by decide +kernel
end L2
set_option Elab.async false
set_option linter.all false
set_option maxRecDepth 100000
set_option maxHeartbeats 1000000
namespace L2
open PySem PySem.Spec PyProof.Rows
def clOf (cells : List (Str × Addr)) : List (Str × NameKind) → List (Str × Addr) → List (Str × Addr)
  | [], acc => acc
  | (n, k) :: r, acc => if k == .free then clOf cells r ((n, (cells.lookup n).getD 0) :: acc) else clOf cells r acc
theorem closure_go {env : Env} : ∀ (names : List (Str × NameKind)) (acc : List (Str × Addr)), (∀ p ∈ names, p.2 = .free → ∃ c, env.cells.lookup p.1 = some c) →
    (forIn (m := Sem) names acc fun x r => (match x with | (name, kind) => if (kind == NameKind.free) = true then do let a ← cellOf env name; pure (ForInStep.yield ((name, a) :: r)) else pure (ForInStep.yield r))) = pure (clOf env.cells names acc) := by
  intro names
  induction names with
  | nil => intro acc _; rfl
  | cons p r ih =>
    intro acc h
    obtain ⟨n, k⟩ := p
    rw [List.forIn_cons]
    by_cases hk : (k == NameKind.free) = true
    · obtain ⟨c, hc⟩ := h (n, k) List.mem_cons_self (by simpa using hk)
      have e1 : cellOf env n = pure c := by unfold cellOf; rw [hc]
      simp only [hk, if_true, e1]
      have := ih ((n, c) :: acc) fun p hp => h p (List.mem_cons_of_mem _ hp)
      show _ = pure (clOf env.cells ((n, k) :: r) acc)
      rw [clOf, if_pos hk, hc]
      exact this
    · simp only [hk]
      have := ih acc fun p hp => h p (List.mem_cons_of_mem _ hp)
      show _ = pure (clOf env.cells ((n, k) :: r) acc)
      rw [clOf, if_neg hk]
      exact this
theorem closure_is {scope : Scope} {env : Env} (h : ∀ p ∈ scope.names, p.2 = .free → ∃ c, env.cells.lookup p.1 = some c) : closureFor scope env = pure (clOf env.cells scope.names []) := by
  unfold closureFor
  exact Eq.trans (congrArg (fun z => z >>= fun s => pure s) (closure_go (env := env) scope.names [] h)) rfl
theorem clOf_mem {cells : List (Str × Addr)} : ∀ (names : List (Str × NameKind)) (acc : List (Str × Addr)), (∀ p ∈ names, p.2 = .free → ∃ c, cells.lookup p.1 = some c) → (∀ q ∈ acc, cells.lookup q.1 = some q.2) → ∀ q ∈ clOf cells names acc, cells.lookup q.1 = some q.2
  | [], acc, _, h => h
  | (n, k) :: r, acc, h1, h2 => by
    rw [clOf]
    by_cases hk : (k == NameKind.free) = true
    · rw [if_pos hk]
      refine clOf_mem r _ (fun p hp => h1 p (List.mem_cons_of_mem _ hp)) fun q hq => ?_
      rcases List.mem_cons.mp hq with rfl | hq
      · obtain ⟨c, hc⟩ := h1 (n, k) List.mem_cons_self (by simpa using hk)
        rw [hc]
        rfl
      · exact h2 q hq
    · rw [if_neg hk]
      exact clOf_mem r _ (fun p hp => h1 p (List.mem_cons_of_mem _ hp)) h2
theorem clOf_has {cells : List (Str × Addr)} {x : Str} : ∀ (names : List (Str × NameKind)) (acc : List (Str × Addr)), ((x, NameKind.free) ∈ names ∨ ∃ c, (x, c) ∈ acc) → ∃ c, (x, c) ∈ clOf cells names acc
  | [], acc, h => h.elim (fun z => absurd z (by simp)) id
  | (n, k) :: r, acc, h => by
    rw [clOf]
    by_cases hk : (k == NameKind.free) = true
    · rw [if_pos hk]
      refine clOf_has r _ ?_
      rcases h with h | ⟨c, hc⟩
      · rcases List.mem_cons.mp h with e | h
        · cases e
          exact .inr ⟨_, List.mem_cons_self⟩
        · exact .inl h
      · exact .inr ⟨c, List.mem_cons_of_mem _ hc⟩
    · rw [if_neg hk]
      refine clOf_has r _ ?_
      rcases h with h | h
      · rcases List.mem_cons.mp h with e | h
        · cases e
          exact absurd rfl hk
        · exact .inl h
      · exact .inr h
theorem lookup_some_of_mem {x : Str} {c : Addr} : ∀ {l : List (Str × Addr)}, (x, c) ∈ l → ∃ c', l.lookup x = some c'
  | (n, d) :: r, h => by
    rw [List.lookup_cons]
    cases e : x == n with
    | true => exact ⟨d, rfl⟩
    | false =>
      rcases List.mem_cons.mp h with z | h
      · cases z
        simp at e
      · exact lookup_some_of_mem h
theorem clOf_from {cells : List (Str × Addr)} {q : Str × Addr} : ∀ (names : List (Str × NameKind)) (acc : List (Str × Addr)), q ∈ clOf cells names acc → (q.1, NameKind.free) ∈ names ∨ q ∈ acc
  | [], acc, h => .inr h
  | (n, k) :: r, acc, h => by
    rw [clOf] at h
    by_cases hk : (k == NameKind.free) = true
    · rw [if_pos hk] at h
      have hk' : k = .free := by simpa using hk
      rcases clOf_from r _ h with h | h
      · exact .inl (List.mem_cons_of_mem _ h)
      · rcases List.mem_cons.mp h with rfl | h
        · exact .inl (by rw [hk']; exact List.mem_cons_self)
        · exact .inr h
    · rw [if_neg hk] at h
      exact (clOf_from r _ h).imp (List.mem_cons_of_mem _) id
theorem cellsFrom_spec {x : Str} {c : Addr} : ∀ (names : List (Str × NameKind)) (h : Heap) (acc : List (Str × Addr)), (x, c) ∈ cellsFrom h.objs.size names acc → (x, c) ∈ acc ∨ (h.objs.size ≤ c ∧ (pushCells h names).IsCell c none ∧ (x, NameKind.cell) ∈ names)
  | [], _, _, h => .inl h
  | (n, k) :: r, hp, acc, h => by
    unfold cellsFrom at h
    unfold pushCells
    by_cases hk : (k == NameKind.cell) = true
    · rw [if_pos hk] at h ⊢
      have hk' : k = .cell := by simpa using hk
      have h' : (x, c) ∈ cellsFrom (hp.push { cls := .type "cell", data := .cell none }).objs.size r ((n, hp.objs.size) :: acc) := by rw [Heap.size_push]; exact h
      rcases cellsFrom_spec r _ _ h' with h | ⟨h1, h2, h3⟩
      · rcases List.mem_cons.mp h with e | h
        · cases e
          exact .inr ⟨Nat.le_refl _, ⟨_, pushCells_keeps r _ _ _ (Heap.get?_push_size _ rfl), rfl⟩, by rw [hk']; exact List.mem_cons_self⟩
        · exact .inl h
      · rw [Heap.size_push] at h1
        exact .inr ⟨by omega, h2, List.mem_cons_of_mem _ h3⟩
    · rw [if_neg hk] at h ⊢
      exact (cellsFrom_spec r hp acc h).imp id fun ⟨h1, h2, h3⟩ => ⟨h1, h2, List.mem_cons_of_mem _ h3⟩
theorem cellsFrom_has {x : Str} : ∀ (names : List (Str × NameKind)) (n : Nat) (acc : List (Str × Addr)), ((x, NameKind.cell) ∈ names ∨ ∃ c, (x, c) ∈ acc) → ∃ c, (x, c) ∈ cellsFrom n names acc
  | [], _, acc, h => h.elim (fun z => absurd z (by simp)) id
  | (y, k) :: r, n, acc, h => by
    unfold cellsFrom
    by_cases hk : (k == NameKind.cell) = true
    · rw [if_pos hk]
      refine cellsFrom_has r _ _ ?_
      rcases h with h | ⟨c, hc⟩
      · rcases List.mem_cons.mp h with e | h
        · cases e
          exact .inr ⟨_, List.mem_cons_self⟩
        · exact .inl h
      · exact .inr ⟨c, List.mem_cons_of_mem _ hc⟩
    · rw [if_neg hk]
      refine cellsFrom_has r _ _ ?_
      rcases h with h | h
      · rcases List.mem_cons.mp h with e | h
        · cases e
          exact absurd rfl hk
        · exact .inl h
      · exact .inr h
theorem cellsFrom_inj {lo : Nat} : ∀ (names : List (Str × NameKind)) (n : Nat) (acc : List (Str × Addr)), (∀ x c, (x, c) ∈ acc → c < n) → (∀ x y c, lo ≤ c → (x, c) ∈ acc → (y, c) ∈ acc → x = y) → ∀ x y c, lo ≤ c → (x, c) ∈ cellsFrom n names acc → (y, c) ∈ cellsFrom n names acc → x = y
  | [], _, _, _, h => h
  | (z, k) :: r, n, acc, h1, h2 => by
    unfold cellsFrom
    by_cases hk : (k == NameKind.cell) = true
    · rw [if_pos hk]
      refine cellsFrom_inj r _ _ (fun x c hm => ?_) fun x y c hc hx hy => ?_
      · rcases List.mem_cons.mp hm with e | hm
        · cases e; exact Nat.lt_succ_self _
        · exact Nat.lt_succ_of_lt (h1 x c hm)
      · rcases List.mem_cons.mp hx with e | hx <;> rcases List.mem_cons.mp hy with e' | hy
        · cases e; cases e'; rfl
        · cases e; exact absurd (h1 _ _ hy) (Nat.lt_irrefl _)
        · cases e'; exact absurd (h1 _ _ hx) (Nat.lt_irrefl _)
        · exact h2 x y c hc hx hy
    · rw [if_neg hk]
      exact cellsFrom_inj r n acc h1 h2
def blkCells (scope : Scope) (env : Env) (n : Nat) : List (Str × Addr) := cellsFrom (n + 1) scope.names (clOf env.cells scope.names [])
def cxC (X : Cx) (N' : List Str) (scope : Scope) (s : Shared) (H : Hp) (ex : List Addr) : Cx :=
  { X with N := N', s₀ := s, H₀ := H, env := compEnvC scope (blkCells scope X.env s.heap.objs.size) s.heap.objs.size X.env, outer := X.stack, ex := ex, fn := fun x => decide ((x, NameKind.cell) ∈ scope.names), pn := [] }
def pick (σ : St) (ix : List (Option Nat)) : St := ix.map fun o => match o with | some i => (match σ[i]? with | some v => v | none => none) | none => none
structure Scp (psc : Scope) (PN N' : List Str) (ix : List (Option Nat)) (scope : Scope) : Prop where
  kind : scope.kind = .function
  names : ∀ x ∈ scope.names, x.2 = .local → scope.names.lookup x.1 = some .local
  uni : ∀ x ∈ scope.names, x.2 = .free → scope.names.lookup x.1 = some .free
  apart : ∀ x ∈ scope.names, x.2 = .cell → (x.1, NameKind.free) ∉ scope.names
  free : ∀ x ∈ scope.names, x.2 = .free → psc.names.lookup x.1 = some .cell ∨ psc.names.lookup x.1 = some .free
  len : ix.length = N'.length
  at_ : ∀ (j i : Nat) (x : Str), N'[j]? = some x → ix[j]? = some (some i) → PN[i]? = some x ∧ (x, NameKind.free) ∈ scope.names
section
variable {X : Cx} {pins : List (Addr × Obj)} {σ : St} {H : Hp} {s : Shared} {N' : List Str} {ix : List (Option Nat)} {scope : Scope} {fp : List Addr}
theorem relabel_names_free {env : Env} : ∀ {names : List (Str × NameKind)} {x : Str}, names.lookup x = some .free →
    (names.map fun (n, k) => if (k == NameKind.free && env.scope.kind == .function && env.kindOf n == some .cell) then (n, NameKind.cell) else (n, k)).lookup x = some .cell ∨
    (names.map fun (n, k) => if (k == NameKind.free && env.scope.kind == .function && env.kindOf n == some .cell) then (n, NameKind.cell) else (n, k)).lookup x = some .free
  | [], _, h => by simp at h
  | (n, k) :: r, x, h => by
    have ih := @relabel_names_free env r x
    simp only [List.map_cons]
    cases hx : x == n with
    | true =>
      simp only [List.lookup_cons, hx] at h
      cases h
      by_cases hc : (NameKind.free == NameKind.free && env.scope.kind == .function && env.kindOf n == some .cell) = true
      · rw [if_pos hc]; simp [List.lookup_cons, hx]
      · rw [if_neg hc]; simp [List.lookup_cons, hx]
    | false =>
      simp only [List.lookup_cons, hx] at h
      by_cases hc : (k == NameKind.free && env.scope.kind == .function && env.kindOf n == some .cell) = true
      · rw [if_pos hc]; simp only [List.lookup_cons, hx]; exact ih h
      · rw [if_neg hc]; simp only [List.lookup_cons, hx]; exact ih h
theorem relabel_is_free {scope : Scope} {env : Env} {x : Str} (h : scope.names.lookup x = some .free) : (relabel scope env).names.lookup x = some .cell ∨ (relabel scope env).names.lookup x = some .free := relabel_names_free h
theorem relabel_kind {scope : Scope} {env : Env} {x : Str} (h : (relabel scope env).names.lookup x = some .cell ∨ (relabel scope env).names.lookup x = some .free) : (x, NameKind.cell) ∈ scope.names ∨ (x, NameKind.free) ∈ scope.names := by
  have : ∃ k, (x, k) ∈ (relabel scope env).names ∧ (k = .cell ∨ k = .free) := by
    rcases h with h | h
    · exact ⟨_, PySem.mem_of_lookup h, .inl rfl⟩
    · exact ⟨_, PySem.mem_of_lookup h, .inr rfl⟩
  obtain ⟨k, hm, hk⟩ := this
  obtain ⟨⟨n, k'⟩, hm', e⟩ := List.mem_map.mp hm
  dsimp only at e
  split at e
  · rename_i hc
    cases e
    have : k' = .free := by simp at hc; exact hc.1.1
    rw [this] at hm'
    exact .inr hm'
  · cases e
    rcases hk with rfl | rfl
    · exact .inl hm'
    · exact .inr hm'
theorem inv_comp (I : Inv X pins σ H s) (S : Scp X.env.scope X.N N' ix scope) (hf : ∀ b ∈ fp, FpOk X pins H b) (hfl : ∀ b ∈ fp, b < s.heap.objs.size) (t' : Nat) :
    Inv (cxC X N' scope s H fp) [] (pick σ ix) H { s with heap := pushCells (s.heap.push { cls := .type "dict", data := .dict #[] }) scope.names, toks := t' } := by
  have hn : (pushCells (s.heap.push { cls := .type "dict", data := .dict #[] }) scope.names).Ns s.heap.objs.size fun _ => none := (Heap.Ns.new s.heap (.type "dict")).keeps (pushCells_keeps _ _)
  have hk : ∀ b o, s.heap.get? b = some o → (pushCells (s.heap.push { cls := .type "dict", data := .dict #[] }) scope.names).get? b = some o := fun b o e => pushCells_keeps _ _ b o (Heap.get?_push_of_some _ e)
  have hfr : ∀ p ∈ scope.names, p.2 = NameKind.free → ∃ c, X.env.cells.lookup p.1 = some c := fun p hp e => I.ok.has p.1 (S.free p hp e)
  have clm : ∀ q ∈ clOf X.env.cells scope.names [], X.env.cells.lookup q.1 = some q.2 := clOf_mem scope.names [] hfr (by simp)
  have spec : ∀ x c, (blkCells scope X.env s.heap.objs.size).lookup x = some c → (X.env.cells.lookup x = some c ∧ (x, NameKind.free) ∈ scope.names) ∨
      (s.heap.objs.size < c ∧ (pushCells (s.heap.push { cls := .type "dict", data := .dict #[] }) scope.names).IsCell c none ∧ (x, NameKind.cell) ∈ scope.names) := fun x c e => by
    have hm : (x, c) ∈ cellsFrom (s.heap.push { cls := .type "dict", data := .dict #[] }).objs.size scope.names (clOf X.env.cells scope.names []) := by rw [Heap.size_push]; exact PySem.mem_of_lookup e
    rcases cellsFrom_spec scope.names _ _ hm with h | ⟨h1, h2, h3⟩
    · exact .inl ⟨clm _ h, (clOf_from scope.names [] h).elim id (fun z => absurd z (by simp))⟩
    · rw [Heap.size_push] at h1
      exact .inr ⟨h1, h2, h3⟩
  have hasC : ∀ x, ((relabel scope X.env).names.lookup x = some .cell ∨ (relabel scope X.env).names.lookup x = some .free) → ∃ c, (blkCells scope X.env s.heap.objs.size).lookup x = some c := fun x hx => by
    have : ∃ c, (x, c) ∈ blkCells scope X.env s.heap.objs.size := cellsFrom_has scope.names _ _ ((relabel_kind hx).imp id fun z => clOf_has scope.names [] (.inl z))
    obtain ⟨c, hc⟩ := this
    exact lookup_some_of_mem hc
  have cold : ∀ x c, X.env.cells.lookup x = some c → c < s.heap.objs.size := fun x c e => let ⟨v, q⟩ := I.cell x c e; q.lt
  refine ⟨⟨I.ok.mod, S.kind, I.ok.glob, I.ok.blt, Nat.le_refl _, fun x y c e1 e2 => ?_, hasC, fun x c z e => ?_, I.ok.hd, I.ok.frames, .inl rfl,
    fun b hb => ⟨Nat.ne_of_lt (hfl b hb), fun x c e => ?_⟩, I.bs, Nat.le_trans I.ok.bsz I.sz, fun b o e hb => ?_, fun b hb z => ?_, I.stack, I.stkFree⟩,
    rfl, I.bare, Un.kept hk, ⟨_, hn, fun j x v e1 e2 e3 => ?_⟩, fun x c e => ?_, I.hok.fresh (Nat.le_refl _), fun x c e => ?_, fun p hp => absurd (show p ∈ ([] : List (Addr × Obj)) from hp) (by simp), I.hok.kept hk, ?_⟩
  · by_cases hc : c < s.heap.objs.size + 1
    · rcases spec x c e1 with ⟨q1, _⟩ | ⟨q1, _⟩
      · rcases spec y c e2 with ⟨q2, _⟩ | ⟨q2, _⟩
        · exact I.ok.inj x y c q1 q2
        · exact absurd q2 (Nat.not_lt.mpr (Nat.le_of_lt_succ hc))
      · exact absurd q1 (Nat.not_lt.mpr (Nat.le_of_lt_succ hc))
    · exact cellsFrom_inj (lo := s.heap.objs.size + 1) scope.names _ _ (fun x c hm => Nat.lt_succ_of_lt (cold x c (clm _ hm))) (fun x y c hc hx _ => absurd (cold x c (clm _ hx)) (Nat.not_lt.mpr (Nat.le_trans (Nat.le_succ _) hc))) x y c (Nat.not_lt.mp hc) (PySem.mem_of_lookup e1) (PySem.mem_of_lookup e2)
  · have z' : (x, NameKind.cell) ∈ scope.names := of_decide_eq_true z
    rcases spec x c e with ⟨_, q⟩ | ⟨q, _⟩
    · exact absurd q (S.apart _ z' rfl)
    · exact Nat.le_of_lt q
  · rcases spec x c e with ⟨q, _⟩ | ⟨q, _⟩
    · exact (hf b hb).2.2.2.2.1 x c q
    · exact fun z => absurd (hfl b hb) (Nat.not_lt.mpr (z ▸ Nat.le_of_lt q))
  · exact (hf b hb).2.2.2.1.elim (fun z => I.ok.noex b o e z) fun z => absurd (Nat.lt_of_lt_of_le (Heap.lt_size e) I.ok.bsz) (Nat.not_lt.mpr z)
  · have hb2 := hf b hb
    rcases List.mem_cons.mp (I.stkSub b z) with q | q
    · exact hb2.2.1 q
    · exact hb2.2.2.1 q
  · have e4 : ∃ i, ix[j]? = some (some i) ∧ σ[i]? = some (some v) := by
      have e2' : (pick σ ix)[j]? = some (some v) := e2
      unfold pick at e2'
      rw [List.getElem?_map] at e2'
      cases q : ix[j]? with
      | none => rw [q] at e2'; cases e2'
      | some o =>
        rw [q] at e2'
        cases o with
        | none => cases e2'
        | some i =>
          refine ⟨i, rfl, ?_⟩
          cases z : σ[i]? with
          | none => simp [z] at e2'
          | some y => simp [z] at e2'; rw [e2']
    obtain ⟨i, e4, e5⟩ := e4
    obtain ⟨a1, a2⟩ := S.at_ j i x e1 e4
    have a3 := S.free _ a2 rfl
    obtain ⟨m0, hn0, hl0⟩ := I.loc
    obtain ⟨u, r, l⟩ := hl0 i x v a1 e5 (.inr a3)
    refine ⟨u, r, ?_⟩
    rcases l with ⟨k1, _⟩ | ⟨k1, c, hcl, hce⟩
    · have k1' : X.env.scope.names.lookup x = some .local := k1
      rcases a3 with z | z <;> (rw [k1'] at z; cases z)
    · -- the name is captured here
      have e3' : (relabel scope X.env).names.lookup x = some .local ∨ (relabel scope X.env).names.lookup x = some .cell ∨ (relabel scope X.env).names.lookup x = some .free := e3
      have k3 := relabel_is_free (env := X.env) (S.uni _ a2 rfl)
      obtain ⟨c', hc'⟩ := hasC x k3
      rcases spec x c' hc' with ⟨q, _⟩ | ⟨_, _, q⟩
      · rw [hcl] at q
        cases q
        exact .inr ⟨k3, c, hc', hce.keeps hk⟩
      · exact absurd a2 (S.apart _ q rfl)
  · rcases spec x c e with ⟨q, _⟩ | ⟨q, q2, _⟩
    · obtain ⟨v, q'⟩ := I.cell x c q
      exact ⟨v, q'.keeps hk⟩
    · exact ⟨none, q2⟩
  · rcases spec x c e with ⟨q, _⟩ | ⟨q, _⟩
    · exact I.freeC x c q
    · exact I.hok.fresh (Nat.le_of_lt q)
  · show (pick σ ix).length = N'.length
    unfold pick
    rw [List.length_map]
    exact S.len
end
section
variable {prog : Program} {w : World} {A : Around} {R : Result → Shared → Prop} {s : Shared}
def testsOf (ifs : List Expr) (env : Env) : Sem Bool := forIn ifs true fun c r => if r = true then do let ok ← isTrue c env (eval c env); pure (ForInStep.yield ok) else pure (ForInStep.yield r)
theorem compLoop_any {elt target iter : Expr} {ifs : List Expr} {scope : Scope} {pos : Pos} {it acc : Value} {env : Env} (I : Nat → Shared → Prop)
    (turn : ∀ n s, I n s → wpAny (model prog w) A (pyNext it) (fun r s₁ => match r with
      | none => R (.ok .next) s₁
      | some v => wpAny (model prog w) A (letOwnedTupleGo target it v) (fun _ s₁' => wpAny (model prog w) A (assign target env v) (fun _ s₂ => wpAny (model prog w) A (testsOf ifs env) (fun ok s₃ =>
          if ok = true then wpAny (model prog w) A (eval elt env) (fun x s₄ => wpAny (model prog w) A (call (.builtin "list.append") [acc, x]) (fun _ s₅ => ∃ m, m < n ∧ I m s₅) (fun _ _ => False) s₄) (fun _ _ => False) s₃
          else ∃ m, m < n ∧ I m s₃) (fun _ _ => False) s₂) (fun _ _ => False) s₁') (fun _ _ => False) s₁) (fun _ _ => False) s)
    (n : Nat) (h : I n s) : codeAny (model prog w) A (.compLoop (.ListComp elt [⟨target, iter, ifs, 0⟩] scope pos) 0 it acc env) R s := by
  refine codeAny_loop rfl I (fun n s hI => ?_) n h
  show wpAny _ _ ((compTurn (.ListComp elt [⟨target, iter, ifs, 0⟩] scope pos) 0 it acc env).onRaise (fun x => do noteFrame x env; theTreesLotGoes x)) _ _ s
  refine wpAny_noted ?_
  rw [compTurn_list]
  refine wpAny_bind (wpAny_standAt (wpAny_bind (wpAny_mono (turn n s hI) (fun r s₁ h₁ => ?_) fun _ _ h' => h'.elim)))
  cases r with
  | none => exact wpAny_pure h₁
  | some v =>
    refine wpAny_bind (wpAny_mono h₁ (fun _ s₁' h₁' => ?_) fun _ _ h' => h'.elim)
    refine wpAny_bind (wpAny_mono h₁' (fun _ s₂ h₂ => wpAny_bind (wpAny_mono h₂ (fun ok s₃ h₃ => ?_) fun _ _ h' => h'.elim)) fun _ _ h' => h'.elim)
    cases ok with
    | false => exact wpAny_pure ⟨rfl, h₃⟩
    | true =>
      exact wpAny_bind (wpAny_bind (wpAny_mono h₃ (fun x s₄ h₄ => wpAny_bind (wpAny_mono h₄ (fun _ s₅ h₅ => wpAny_pure (wpAny_pure ⟨rfl, h₅⟩)) fun _ _ h' => h'.elim)) fun _ _ h' => h'.elim))
end
theorem newEnv_comp {M : Model} {A : Around} {E : Value → Shared → Prop} {s : Shared} {scope : Scope} {globals : Addr} {cl : List (Str × Addr)} {qual : Str} {env : Env} {Q : Env → Shared → Prop}
    (hQ : Q { scope := scope, locals := s.heap.objs.size, globals := globals, cells := cellsFrom (s.heap.objs.size + 1) scope.names cl, qual := qual, func := none, code := env.code, frame := env.frame, builtins := env.builtins } { s with heap := pushCells (s.heap.push { cls := .type "dict", data := .dict #[] }) scope.names }) :
    wpAny M A (newFunctionEnv scope globals cl [] qual none .none (some env)) Q E s := by
  simp only [newFunctionEnv, Option.isSome_some, if_true]
  refine wpAny_bind (wpAny_alloc ?_)
  refine wpAny_bind (wpAny_layCells _ (fun name kind cells => by cases hkc : kind == NameKind.cell <;> simp [hkc]) _ _ _ _ ?_)
  rw [show ({ s with heap := s.heap.push { cls := .type "dict", data := .dict #[] } } : Shared).heap.objs.size = s.heap.objs.size + 1 from Heap.size_push ..]
  exact wpAny_bind (wpAny_pure (wpAny_pure hQ))
def PF (X : Cx) (ifs : List Expr) (t : TT) : Prop :=
  ∀ (pins : List (Addr × Obj)) (s : Shared) (σ : St) (H : Hp) (Q : Bool → Hp → Prop), Inv X pins σ H s → t σ H Q → wpAny (model X.prog X.w) X.A (testsOf ifs X.env) (TP X pins σ Q) X.xe s
def tYes : TT := fun _ H Q => Q true H
theorem pf_nil {X : Cx} : PF X [] tYes := fun _ _ _ H _ I h => wpAny_tests_nil ⟨H, I, h⟩
def CompGo (J : It) (g : TG) (tt : TT) (te : TE) (σ : St) (H : Hp) (Q : VK) : Prop := ∀ D, H D = none → ∃ W : Nat → Nat → St → Hp → Prop, (∃ m, W 0 m σ (upd H D (.lst []))) ∧ ∀ i m σ H, W i m σ H →
  (J.stop i H ∧ Q (.ref D) H) ∨ (J.go i H ∧ ∃ N : St → Hp → Prop, (∀ σ' H', N σ' H' → ∃ m', m' < m ∧ W (i + 1) m' σ' H') ∧ ∀ x H', J.yld i H x H' → g x σ H' fun σ2 H2 => tt σ2 H2 fun b H3 =>
    if b = true then te σ2 H3 fun v H4 => ∃ xs, H4 D = some (.lst xs) ∧ xs.length < sizeLine ∧ N σ2 (upd H4 D (.lst (xs ++ [v]))) else N σ2 H3)
def tComp (ix : List (Option Nat)) (wi : TI) (g : TG) (tt : TT) (te : TE) : TE := fun σ H Q => wi σ H fun J H1 => CompGo J g tt te (pick σ ix) H1 Q
section
variable {X : Cx} {N' : List Str} {ix : List (Option Nat)} {scope : Scope} {tg iter elt : Expr} {ifs : List Expr} {wi : TI} {g : TG} {tt : TT} {te : TE} {pos : Pos}
theorem comp_core (hc : X.calm = true) (hxe : X.xe = fun _ _ => False) (S : Scp X.env.scope X.N N' ix scope) (hi : PI X tg iter wi) (hg : ∀ s H ex, PG (cxC X N' scope s H ex) tg g) (ht : ∀ s H ex, PF (cxC X N' scope s H ex) ifs tt) (he : ∀ s H ex, PE (cxC X N' scope s H ex) elt te)
    {pins : List (Addr × Obj)} {s : Shared} {σ : St} {H : Hp} {Q : VK} (I : Inv X pins σ H s) (h : tComp ix wi g tt te σ H Q) {Post : Value → Addr → Result → Shared → Prop}
    (fin' : ∀ (D C : Addr) (H' : Hp) (s' : Shared), Inv X pins σ H' s' → FpOk X pins H' C → (∃ m, s'.heap.Ns C m) → Q (.ref D) H' → Post (.ref D) C (.ok .next) s') :
    wpAny (model X.prog X.w) X.A (eval iter X.env) (fun x s₁ => wpAny (model X.prog X.w) X.A (pyIter x) (fun it s₂ => wpAny (model X.prog X.w) X.A (newList []) (fun acc s₃ =>
      wpAny (model X.prog X.w) X.A (newFunctionEnv scope X.env.globals (clOf X.env.cells scope.names []) [] X.env.qual none .none (some X.env)) (fun cenv s₄ =>
        codeAny (model X.prog X.w) X.A (.compStart (.ListComp elt [⟨tg, iter, ifs, 0⟩] scope pos) 0 it acc { cenv with scope := relabel scope X.env }) (Post acc cenv.locals) s₄) X.xe s₃) X.xe s₂) X.xe s₁) X.xe s := by
  refine thn (hi pins s σ H _ I h) fun v s1 h1 => thn h1 fun itv s2 h2 => ?_
  obtain ⟨it, fp, tn, J, H2, e, I2, T, st2, f2, go⟩ := h2
  subst e
  refine wpAny_newObj_type ?_
  have hD : H2 s2.heap.objs.size = none := I2.hok.fresh (Nat.le_refl _)
  have I3 : Inv X pins σ (upd H2 s2.heap.objs.size (.lst [])) { s2 with heap := s2.heap.push { cls := .type "list", dict := none, data := .seq ([] : List Value).toArray } } :=
    I2.laid (t' := s2.toks) (fun b u e => Heap.get?_push_of_some _ e) (Nat.le_refl _) ⟨Nat.zero_le _, [], 0, .nil, Heap.get?_push_size _ rfl⟩
  obtain ⟨W, ⟨m0, w0⟩, turn⟩ := go s2.heap.objs.size hD
  have fpl : ∀ b ∈ fp, b < s2.heap.objs.size := fun b hb => let ⟨o, e, _⟩ := T.obj _ _ st2 b hb; Heap.lt_size e
  have tF : ∀ {α : Type} {t : Sem α} {Q' : α → Shared → Prop} {s' : Shared}, wpAny (model X.prog X.w) X.A t Q' X.xe s' → wpAny (model X.prog X.w) X.A t Q' (fun _ _ => False) s' := fun hw => hxe ▸ hw
  generalize hH3 : upd H2 s2.heap.objs.size (.lst []) = H3 at I3 w0
  generalize hs3 : ({ s2 with heap := s2.heap.push { cls := .type "list", dict := none, data := .seq ([] : List Value).toArray } } : Shared) = s3 at I3 ⊢
  have h23 : ∀ b o, s2.heap.get? b = some o → s3.heap.get? b = some o := fun b o e => by rw [← hs3]; exact Heap.get?_push_of_some _ e
  have sz3 : s2.heap.objs.size ≤ s3.heap.objs.size := by rw [← hs3]; show _ ≤ (s2.heap.push _).objs.size; rw [Heap.size_push]; exact Nat.le_succ _
  have fpl3 : ∀ b ∈ fp, b < s3.heap.objs.size := fun b hb => Nat.lt_of_lt_of_le (fpl b hb) sz3
  have f3 : ∀ b ∈ fp, FpOk X pins H3 b := fun b hb => ⟨by rw [← hH3, upd_ne (Nat.ne_of_lt (fpl b hb))]; exact (f2 b hb).1, (f2 b hb).2⟩
  refine newEnv_comp ?_
  generalize hh1 : pushCells (s3.heap.push { cls := .type "dict", data := .dict #[] }) scope.names = h1
  have hk : ∀ b o, s3.heap.get? b = some o → h1.get? b = some o := fun b o e => by rw [← hh1]; exact pushCells_keeps _ _ b o (Heap.get?_push_of_some _ e)
  have I4 : Inv (cxC X N' scope s3 H3 fp) [] (pick σ ix) H3 { s3 with heap := h1 } := by rw [← hh1]; exact inv_comp I3 S f3 fpl3 s3.toks
  have st4 : tn 0 h1 := T.keep _ _ _ st2 fun b hb o e => hk b o (h23 b o e)
  have fin : ∀ {σ' : St} {H' : Hp} {s' : Shared}, Inv (cxC X N' scope s3 H3 fp) [] σ' H' s' → Q (.ref s2.heap.objs.size) H' → Post (.ref s2.heap.objs.size) s3.heap.objs.size (.ok .next) s' := fun {σ' H' s'} J q => by
    obtain ⟨m, hn, _⟩ := J.loc
    have K1 : Inv X pins σ H' s' := I3.call' J.os J.base J.hok J.bare fun b hb => ⟨(f3 b hb).2.2.2.1, (f3 b hb).2.1, (f3 b hb).2.2.2.2.1, (f3 b hb).2.2.2.2.2⟩
    exact fin' _ _ H' s' K1 (I3.fpOk (b := s3.heap.objs.size) (Nat.le_refl _) (show H' s3.heap.objs.size = none from J.free)) ⟨m, hn⟩ q
  have loop : codeAny (model X.prog X.w) X.A (.compLoop (.ListComp elt [⟨tg, iter, ifs, 0⟩] scope pos) 0 (.ref it) (.ref s2.heap.objs.size) (compEnvC scope (blkCells scope X.env s3.heap.objs.size) s3.heap.objs.size X.env)) (Post (.ref s2.heap.objs.size) s3.heap.objs.size) { s3 with heap := h1 } := by
    refine compLoop_any (fun n s' => ∃ i σ' H', Inv (cxC X N' scope s3 H3 fp) [] σ' H' s' ∧ tn i s'.heap ∧ (∀ b ∈ fp, H' b = none) ∧ W i n σ' H') ?_ m0 ⟨0, _, H3, I4, st4, fun b hb => (f3 b hb).1, w0⟩
    rintro n s5 ⟨i, σ5, H5, I5, st5, fr5, w5⟩
    have stat : ∀ {H' : Hp}, (∀ b ∈ fp, H' b = none) → ∀ b ∈ fp, FpOk (cxC X N' scope s3 H3 fp) [] H' b := fun hn b hb => ⟨hn b hb, (I5.ok.exf b hb).1, I5.ok.exfs b hb, .inl hb, (I5.ok.exf b hb).2, fun p hp => absurd (show p ∈ ([] : List (Addr × Obj)) from hp) (by simp)⟩
    rcases turn i n σ5 H5 w5 with ⟨stop, qn⟩ | ⟨go, N, hN, step⟩
    · refine thn (tF (T.done (cxC X N' scope s3 H3 fp) rfl rfl rfl hc i [] s5 σ5 H5 X.xe I5 (stat fr5) st5 stop)) fun r s6 ⟨hr, I6⟩ => ?_
      subst hr
      exact fin I6 qn
    · refine thn (tF (T.item (cxC X N' scope s3 H3 fp) rfl rfl rfl hc i [] s5 σ5 H5 X.xe I5 (stat fr5) st5 go)) fun r s6 ⟨u, hr, h6⟩ => ?_
      subst hr
      refine thn (tF h6) fun _ s7 ⟨x, H7, I7, r7, y7, st7, fr7⟩ => ?_
      have I7' := I7.pinned (stat fr7) (T.obj _ _ st7)
      have again : ∀ {σ' : St} {H' : Hp} {s' : Shared}, Inv (cxC X N' scope s3 H3 fp) ([] ++ pinsAt fp s7.heap) σ' H' s' → N σ' H' → ∃ m, m < n ∧ ∃ i σ' H', Inv (cxC X N' scope s3 H3 fp) [] σ' H' s' ∧ tn i s'.heap ∧ (∀ b ∈ fp, H' b = none) ∧ W i m σ' H' := fun {σ' H' s'} J n10 => by
        obtain ⟨m', hm, w10⟩ := hN σ' H' n10
        refine ⟨m', hm, i + 1, σ', H', J.unpinned, T.keep _ _ _ st7 fun b hb o e => (J.pin (b, o) (List.mem_append_right _ (List.mem_append_right _ (mem_pinsAt hb e)))).1, fun b hb => ?_, w10⟩
        obtain ⟨o, e, d⟩ := T.obj _ _ st7 b hb
        exact (J.pin (b, o) (List.mem_append_right _ (List.mem_append_right _ (mem_pinsAt hb e)))).2.1
      refine thn (tF (hg s3 H3 fp _ s7 σ5 H7 x u _ I7' r7 (step x H7 y7))) fun _ s8 ⟨σ8, H8, I8, q8⟩ => ?_
      refine thn (tF (ht s3 H3 fp _ s8 σ8 H8 _ I8 q8)) fun ok s8' ⟨H8', I8', q8'⟩ => ?_
      cases ok with
      | false => exact again I8' (by simpa using q8')
      | true =>
        rw [if_pos rfl] at q8' ⊢
        refine thn (tF (he s3 H3 fp _ s8' σ8 H8' _ I8' q8')) fun v s9 ⟨y, H9, I9, r9, xs, hl9, hz9, n9⟩ => ?_
        exact thn (tF (mt_append (X := cxC X N' scope s3 H3 fp) _ s9 σ8 H9 (.ref s2.heap.objs.size) [y] (.ref s2.heap.objs.size) [v] (fun _ H' => N σ8 H') I9 rfl (.cons r9 .nil) ⟨s2.heap.objs.size, xs, y, rfl, rfl, hl9, hz9, n9⟩)) fun _ s10 ⟨_, H10, I10, _, n10⟩ => again I10 n10
  exact codeAny_compStart_list loop (T.self _ 0 _ _ _ st4 loop)
theorem pe_comp (hc : X.calm = true) (hxe : X.xe = fun _ _ => False) (S : Scp X.env.scope X.N N' ix scope) (hi : PI X tg iter wi) (hg : ∀ s H ex, PG (cxC X N' scope s H ex) tg g) (ht : ∀ s H ex, PF (cxC X N' scope s H ex) ifs tt) (he : ∀ s H ex, PE (cxC X N' scope s H ex) elt te)
    (hs : ∀ x, foldedSetIterable iter X.env x = pure x := by intro _; rfl) : PE X (.ListComp elt [⟨tg, iter, ifs, 0⟩] scope pos) (tComp ix wi g tt te) := by
  intro pins s σ H Q I h
  rw [eval_ListComp]
  refine wpAny_comprehension_free (use := none) rfl hs (closure_is fun p hp e => I.ok.has p.1 (S.free p hp e)) S.kind S.names (comp_core hc hxe S hi hg ht he I h fun D C H' s' K1 F ⟨m, hn⟩ q => ?_)
  refine ⟨m, hn, fun h' sb => ?_⟩
  obtain ⟨g0, g1, g2, g3, g4, g5⟩ := F
  exact ⟨.ref D, H', K1.turned (t' := s'.toks) (fun b o hb e => sb.extBut b o hb e) g0 g1 g3 g4 g5, rfl, q⟩
theorem ps_comp {i : Nat} {y : Str} {py spos : Pos} (hc : X.calm = true) (hxe : X.xe = fun _ _ => False) (hN : X.N.Nodup) (hy : X.N[i]? = some y) (hl : X.env.scope.names.lookup y = some .local)
    (hsw : swapsWith (.ListComp elt [⟨tg, iter, ifs, 0⟩] scope pos) (some (.Name y py)) spos.line X.env = pure true)
    (S : Scp X.env.scope X.N N' ix scope) (hi : PI X tg iter wi) (hg : ∀ s H ex, PG (cxC X N' scope s H ex) tg g) (ht : ∀ s H ex, PF (cxC X N' scope s H ex) ifs tt) (he : ∀ s H ex, PE (cxC X N' scope s H ex) elt te)
    (hs : ∀ x, foldedSetIterable iter X.env x = pure x := by intro _; rfl) : PS X (.Assign [.Name y py] (.ListComp elt [⟨tg, iter, ifs, 0⟩] scope pos) spos) (tAsg (tComp ix wi g tt te) (gName i)) := by
  intro pins s σ H D I h
  rw [exec_Assign_Name_used _ _ _ _ hsw]
  refine wpAny_bind (wpAny_standAt (wpAny_bind ?_))
  show wpAny _ X.A (do let _ ← comprehension (.ListComp elt [⟨tg, iter, ifs, 0⟩] scope pos) scope X.env _ (newList []) false (eval iter X.env) (some (assign (.Name y py) X.env))) _ _ s
  refine wpAny_bind (wpAny_mono (wpAny_comprehension_free (use := some (assign (.Name y py) X.env)) (Q := fun _ s' => SP X pins D .next s') rfl hs (closure_is fun p hp e => I.ok.has p.1 (S.free p hp e)) S.kind S.names
    (comp_core hc hxe S hi hg ht he I h fun L C H' s' K1 F ⟨m, hn⟩ q => ?_)) (fun _ s' hq => wpAny_pure (wpAny_pure hq)) fun _ _ e => e)
  show wpAny _ X.A (assign (.Name y py) X.env (.ref L)) _ _ _
  obtain ⟨g0, g1, g2, g3, g4, g5⟩ := F
  refine wpAny_assign_Name (store_ok2 K1 hN hy (.inl hl) (v := .ref L) rfl (fun s2 I2 ⟨a, sb, ha⟩ => ?_) (.inr hl))
  have hCa : C ≠ a := by
    rcases ha with rfl | ha
    · exact g1
    · exact fun z => g4 _ _ ha z.symm
  refine ⟨m, hn.sameBut sb hCa, fun h' sb' => ?_⟩
  exact ⟨_, H', I2.turned (t' := s2.toks) (fun b o hb e => sb'.extBut b o hb e) g0 g1 g3 g4 g5, q⟩
end
def relS (scope psc : Scope) : Scope :=
  { scope with names := scope.names.map fun (n, k) => if (k == .free && psc.kind == .function && psc.names.lookup n == some .cell) then (n, .cell) else (n, k) }
def scpB (psc : Scope) (PN N' : List Str) (ix : List (Option Nat)) (scope : Scope) : Bool :=
  scope.kind == .function &&
  scope.names.all (fun x => x.2 != .local || scope.names.lookup x.1 == some .local) &&
  scope.names.all (fun x => x.2 != .free || scope.names.lookup x.1 == some .free) &&
  scope.names.all (fun x => x.2 != .cell || !scope.names.contains (x.1, NameKind.free)) &&
  scope.names.all (fun x => x.2 != .free || (psc.names.lookup x.1 == some .cell || psc.names.lookup x.1 == some .free)) &&
  ix.length == N'.length &&
  (List.range N'.length).all (fun j => match ix[j]?, N'[j]? with | some (some i), some x => PN[i]? == some x && scope.names.contains (x, NameKind.free) | _, _ => true)
theorem scp_of {psc : Scope} {PN N' : List Str} {ix : List (Option Nat)} {scope : Scope} (h : scpB psc PN N' ix scope = true) : Scp psc PN N' ix scope := by
  unfold scpB at h
  simp only [Bool.and_eq_true, List.all_eq_true, beq_iff_eq, Bool.or_eq_true, bne_iff_ne, ne_eq, List.contains_iff_mem, Bool.not_eq_true', List.mem_range] at h
  obtain ⟨⟨⟨⟨⟨⟨h1, h2⟩, h3⟩, h4⟩, h5⟩, h6⟩, h7⟩ := h
  refine ⟨h1, fun x hx e => (h2 x hx).resolve_left fun z => z e, fun x hx e => (h3 x hx).resolve_left fun z => z e, fun x hx e hm => ?_, fun x hx e => (h5 x hx).resolve_left fun z => z e, h6, fun j i x e1 e2 => ?_⟩
  · have := (h4 x hx).resolve_left fun z => z e
    rw [List.contains_iff_mem.mpr hm] at this
    cases this
  · have hj : j < N'.length := (List.getElem?_eq_some_iff.mp e1).1
    have := h7 j hj
    rw [e1, e2] at this
    simp only [Bool.and_eq_true, beq_iff_eq, List.contains_iff_mem] at this
    exact this
section
variable {X : Cx} {x : Str} {pos : Pos} {i : Nat} {e : Expr} {te : TE}
end
end L2
set_option Elab.async false
set_option linter.all false
set_option maxRecDepth 100000
set_option maxHeartbeats 1000000
namespace L2
open PySem PySem.Spec PyProof.Rows
theorem pi_listK {X : Cx} {K : PySem.W.Frag} {tg l : Expr} {tl : TE} (hK : X.K = K) (hl : PE X l tl) : PI X tg l (iList K tl) := hK ▸ pi_list hl
theorem ix_listK {X : Cx} {K : PySem.W.Frag} (hK : X.K = K) : IxR X (rIxL K) := hK ▸ ix_list
inductive Dt where
  | non | bl (b : Bool) | int (i : Int) | str (x : Str) | tup (xs : List Dt) | lst (xs : List Dt)
mutual
def Rep (H : Hp) : V → Dt → Prop
  | v, .non => v = .non
  | v, .bl b => v = .bl b
  | v, .int i => v = .int i
  | v, .str x => v = .str x
  | v, .tup ds => ∃ p xs, v = .ref p ∧ H p = some (.tup xs) ∧ Reps H xs ds
  | v, .lst ds => ∃ p xs, v = .ref p ∧ H p = some (.lst xs) ∧ Reps H xs ds
def Reps (H : Hp) : List V → List Dt → Prop
  | xs, [] => xs = []
  | xs, d :: ds => ∃ x r, xs = x :: r ∧ Rep H x d ∧ Reps H r ds
end
mutual
theorem Rep.mono {H H' : Hp} (e : Same H H') : ∀ {v : V} (d : Dt), Rep H v d → Rep H' v d
  | v, .non, h => h
  | v, .bl b, h => h
  | v, .int i, h => h
  | v, .str x, h => h
  | v, .tup ds, ⟨p, xs, h1, h2, h3⟩ => ⟨p, xs, h1, e _ _ h2, Reps.mono e ds h3⟩
  | v, .lst ds, ⟨p, xs, h1, h2, h3⟩ => ⟨p, xs, h1, e _ _ h2, Reps.mono e ds h3⟩
theorem Reps.mono {H H' : Hp} (e : Same H H') : ∀ {xs : List V} (ds : List Dt), Reps H xs ds → Reps H' xs ds
  | xs, [], h => h
  | xs, d :: ds, ⟨x, r, h1, h2, h3⟩ => ⟨x, r, h1, Rep.mono e d h2, Reps.mono e ds h3⟩
end
mutual
theorem Rep.inj {H : Hp} : ∀ {v : V} (d e : Dt), Rep H v d → Rep H v e → d = e
  | v, .non, e, h, h' => by
    cases h
    cases e <;> first | rfl | (simp [Rep] at h')
  | v, .bl b, e, h, h' => by
    cases h
    cases e <;> simp [Rep] at h' <;> simp [h']
  | v, .int i, e, h, h' => by
    cases h
    cases e <;> simp [Rep] at h' <;> simp [h']
  | v, .str x, e, h, h' => by
    cases h
    cases e <;> simp [Rep] at h' <;> simp [h']
  | v, .tup ds, e, ⟨p, xs, h1, h2, h3⟩, h' => by
    subst h1
    cases e with
    | tup es =>
      obtain ⟨p', xs', g1, g2, g3⟩ := h'
      cases g1
      rw [h2] at g2
      cases g2
      rw [Reps.inj ds es h3 g3]
    | lst es =>
      obtain ⟨p', xs', g1, g2, g3⟩ := h'
      cases g1
      rw [h2] at g2
      cases g2
    | _ => simp [Rep] at h'
  | v, .lst ds, e, ⟨p, xs, h1, h2, h3⟩, h' => by
    subst h1
    cases e with
    | tup es =>
      obtain ⟨p', xs', g1, g2, g3⟩ := h'
      cases g1
      rw [h2] at g2
      cases g2
    | lst es =>
      obtain ⟨p', xs', g1, g2, g3⟩ := h'
      cases g1
      rw [h2] at g2
      cases g2
      rw [Reps.inj ds es h3 g3]
    | _ => simp [Rep] at h'
theorem Reps.inj {H : Hp} : ∀ {xs : List V} (ds es : List Dt), Reps H xs ds → Reps H xs es → ds = es
  | xs, [], es, h, h' => by
    cases h
    cases es with
    | nil => rfl
    | cons e es => obtain ⟨x, r, g, _⟩ := h'; cases g
  | xs, d :: ds, es, ⟨x, r, h1, h2, h3⟩, h' => by
    subst h1
    cases es with
    | nil => cases h'
    | cons e es =>
      obtain ⟨x', r', g1, g2, g3⟩ := h'
      cases g1
      rw [Rep.inj d e h2 g2, Reps.inj ds es h3 g3]
end
theorem Reps.length {H : Hp} : ∀ {xs : List V} {ds : List Dt}, Reps H xs ds → xs.length = ds.length
  | xs, [], h => by cases h; rfl
  | xs, d :: ds, ⟨x, r, h1, h2, h3⟩ => by subst h1; simp [Reps.length h3]
theorem Reps.get {H : Hp} : ∀ {xs : List V} {ds : List Dt} {i : Nat} {d : Dt}, Reps H xs ds → ds[i]? = some d → ∃ x, xs[i]? = some x ∧ Rep H x d
  | xs, [], i, d, h, e => by simp at e
  | xs, d' :: ds, 0, d, ⟨x, r, h1, h2, h3⟩, e => by
    subst h1
    simp at e
    subst e
    exact ⟨x, rfl, h2⟩
  | xs, d' :: ds, i + 1, d, ⟨x, r, h1, h2, h3⟩, e => by
    subst h1
    obtain ⟨y, hy, hr⟩ := Reps.get (i := i) (d := d) h3 (by simpa using e)
    exact ⟨y, by simpa using hy, hr⟩
theorem Reps.append {H : Hp} : ∀ {xs : List V} {ds : List Dt} {ys : List V} {es : List Dt}, Reps H xs ds → Reps H ys es → Reps H (xs ++ ys) (ds ++ es)
  | xs, [], ys, es, h, g => by cases h; exact g
  | xs, d :: ds, ys, es, ⟨x, r, h1, h2, h3⟩, g => by subst h1; exact ⟨x, r ++ ys, rfl, h2, Reps.append h3 g⟩
mutual
def deq : Dt → Dt → Option Bool
  | .non, .non => some true
  | .bl a, .bl b => some (a == b)
  | .int a, .int b => some (a == b)
  | .str a, .str b => some (a == b)
  | .tup xs, .tup ys => deqs xs ys
  | .lst xs, .lst ys => if xs.length = ys.length then deqs xs ys else some false
  | _, _ => none
def deqs : List Dt → List Dt → Option Bool
  | [], [] => some true
  | x :: xs, y :: ys => match deq x y, deqs xs ys with
    | some a, some b => some (a && b)
    | _, _ => none
  | _, _ => some false
end
mutual
def dep : Dt → Nat
  | .tup ds => deps ds + 1
  | .lst ds => deps ds + 1
  | _ => 0
def deps : List Dt → Nat
  | [] => 0
  | d :: ds => max (dep d) (deps ds)
end
def eAt (ds es : List Dt) (j : Nat) : Bool := match ds[j]?, es[j]? with
  | some d, some e => (deq d e).getD false
  | _, _ => false
theorem deqs_range : ∀ (ds es : List Dt) (b : Bool), deqs ds es = some b → ((List.range (min ds.length es.length)).all (eAt ds es) && ds.length == es.length) = b
  | [], [], b, h => by cases h; rfl
  | [], _ :: _, b, h => by cases h; simp
  | _ :: _, [], b, h => by cases h; simp
  | d :: ds, e :: es, b, h => by
    rw [deqs] at h
    cases h1 : deq d e with
    | none => rw [h1] at h; cases h
    | some a =>
      cases h2 : deqs ds es with
      | none => rw [h1, h2] at h; cases h
      | some c =>
        rw [h1, h2] at h
        cases h
        rw [← deqs_range ds es c h2]
        simp only [List.length_cons, Nat.succ_min_succ, List.range_succ_eq_map, List.all_cons, List.all_map, Bool.and_assoc]
        congr 1
        · simp [eAt, h1]
        · congr 1
          simp
mutual
theorem deq_self : ∀ (d : Dt) (b : Bool), deq d d = some b → b = true
  | .non, b, h => by cases h; rfl
  | .bl a, b, h => by simp [deq] at h; exact h
  | .int a, b, h => by simp [deq] at h; exact h
  | .str a, b, h => by simp [deq] at h; exact h
  | .tup xs, b, h => deqs_self xs b h
  | .lst xs, b, h => by
    rw [deq, if_pos rfl] at h
    exact deqs_self xs b h
theorem deqs_self : ∀ (ds : List Dt) (b : Bool), deqs ds ds = some b → b = true
  | [], b, h => by cases h; rfl
  | d :: ds, b, h => by
    rw [deqs] at h
    cases h1 : deq d d with
    | none => rw [h1] at h; cases h
    | some a =>
      cases h2 : deqs ds ds with
      | none => rw [h1, h2] at h; cases h
      | some c =>
        rw [h1, h2] at h
        cases h
        rw [deq_self d a h1, deqs_self ds c h2]
        rfl
end
section
variable {X : Cx} {pins : List (Addr × Obj)} {σ : St} {H : Hp} {s : Shared}
mutual
theorem eqAt_D (I : Inv X pins σ H s) : ∀ (d e : Dt) {A : Around} {x y : V} {u v : Value} {b : Bool}, Rep H x d → Rep H y e → RelV x u → RelV y v → deq d e = some b → A.units + dep d < cLine → SeqAt.EqAt A s u v b
  | .non, e, A, x, y, u, v, b, hx, hy, rx, ry, hb, hu => by
    cases e <;> first | (cases hb; cases hx; cases hy; cases rx; cases ry; exact SeqAt.EqAt.same _) | (simp [deq] at hb)
  | .bl a, e, A, x, y, u, v, b, hx, hy, rx, ry, hb, hu => by
    cases e <;> first | (cases hb; cases hx; cases hy; cases rx; cases ry; exact SeqAt.EqAt.bool_bool _ _) | (simp [deq] at hb)
  | .int a, e, A, x, y, u, v, b, hx, hy, rx, ry, hb, hu => by
    cases e <;> first | (cases hb; cases hx; cases hy; obtain ⟨t, rfl⟩ := rx; obtain ⟨t', rfl⟩ := ry; exact SeqAt.EqAt.int_int _ _ _ _) | (simp [deq] at hb)
  | .str a, e, A, x, y, u, v, b, hx, hy, rx, ry, hb, hu => by
    cases e <;> first | (cases hb; cases hx; cases hy; obtain ⟨t, rfl⟩ := rx; obtain ⟨t', rfl⟩ := ry; exact SeqAt.EqAt.str_str _ _ _ _) | (simp [deq] at hb)
  | .tup ds, e, A, x, y, u, v, b, hx, hy, rx, ry, hb, hu => by
    cases e with
    | tup es =>
      obtain ⟨p, xs, e1, hp, hr⟩ := id hx
      obtain ⟨q, ys, e2, hq, hs⟩ := id hy
      subst e1 e2
      cases rx
      cases ry
      by_cases hpq : p = q
      · subst hpq
        have := Rep.inj _ _ hx hy
        cases this
        rw [deq_self _ b hb]
        exact SeqAt.EqAt.same _
      · obtain ⟨its, r1, pl1, _⟩ := I.tuple (xs := xs) (.inl (.inl hp))
        obtain ⟨its', r2, pl2, _⟩ := I.tuple (xs := ys) (.inl (.inl hq))
        have l1 := r1.length
        have l2 := r2.length
        have g1 := hr.length
        have g2 := hs.length
        have hu' : A.in1.units + deps ds < cLine := by
          have : A.units + (deps ds + 1) < cLine := hu
          rw [PySem.Around.in1_units]; omega
        have hb' : deqs ds es = some b := hb
        rw [← deqs_range ds es b hb']
        have := SeqAt.RcAt.tuples (e := eAt ds es) (A := A) (s := s) pl1 pl2 (Nat.lt_of_le_of_lt (Nat.le_add_right _ _) hu) (fun j h1 h2 => by
          have := eqAt_Ds I ds es hr hs r1 r2 hb' hu' j (by simpa using h1) (by simpa using h2)
          simpa using this)
        simp only [List.size_toArray, ← l1, ← l2, g1, g2] at this
        exact SeqAt.EqAt.of_refs hpq this
    | _ => simp [deq] at hb
  | .lst ds, e, A, x, y, u, v, b, hx, hy, rx, ry, hb, hu => by
    cases e with
    | lst es =>
      obtain ⟨p, xs, e1, hp, hr⟩ := id hx
      obtain ⟨q, ys, e2, hq, hs⟩ := id hy
      subst e1 e2
      cases rx
      cases ry
      by_cases hpq : p = q
      · subst hpq
        have := Rep.inj _ _ hx hy
        cases this
        rw [deq_self _ b hb]
        exact SeqAt.EqAt.same _
      · obtain ⟨its, r1, pl1, _⟩ := I.list (xs := xs) (.inl (.inl hp))
        obtain ⟨its', r2, pl2, _⟩ := I.list (xs := ys) (.inl (.inl hq))
        have l1 := r1.length
        have l2 := r2.length
        have g1 := hr.length
        have g2 := hs.length
        have hu0 : A.units < cLine := Nat.lt_of_le_of_lt (Nat.le_add_right _ _) hu
        have hu' : A.in1.units + deps ds < cLine := by
          have : A.units + (deps ds + 1) < cLine := hu
          rw [PySem.Around.in1_units]; omega
        rw [deq] at hb
        by_cases hl : ds.length = es.length
        · rw [if_pos hl] at hb
          rw [← deqs_range ds es b hb]
          have := SeqAt.RcAt.lists (e := eAt ds es) (A := A) (s := s) pl1.isList pl2.isList (by simp only [List.size_toArray]; omega) hu0 (fun j h1 h2 => by
            have := eqAt_Ds I ds es hr hs r1 r2 hb hu' j (by simpa using h1) (by simpa using h2)
            simpa using this)
          simp only [List.size_toArray, ← l1, g1] at this
          refine SeqAt.EqAt.of_refs hpq ?_
          have e3 : min ds.length es.length = ds.length := by omega
          rw [e3, hl]
          simpa [hl] using this
        · rw [if_neg hl] at hb
          cases hb
          exact SeqAt.EqAt.of_refs hpq (SeqAt.RcAt.lists_lengths pl1.isList pl2.isList (by simp only [List.size_toArray, bne_iff_ne, ne_eq]; omega) hu0)
    | _ => simp [deq] at hb
theorem eqAt_Ds (I : Inv X pins σ H s) : ∀ (ds es : List Dt) {A : Around} {xs ys : List V} {us vs : List Value} {b : Bool}, Reps H xs ds → Reps H ys es → Vals xs us → Vals ys vs → deqs ds es = some b → A.units + deps ds < cLine →
    ∀ (j : Nat) (h1 : j < us.length) (h2 : j < vs.length), SeqAt.EqAt A s us[j] vs[j] (eAt ds es j)
  | [], es, A, xs, ys, us, vs, b, hx, hy, rx, ry, hb, hu, j, h1, h2 => by
    cases hx
    cases rx
    exact absurd h1 (Nat.not_lt_zero _)
  | d :: ds, es, A, xs, ys, us, vs, b, ⟨x, r, e1, hd, hr⟩, hy, rx, ry, hb, hu, j, h1, h2 => by
    subst e1
    cases es with
    | nil =>
      cases hy
      cases ry
      exact absurd h2 (Nat.not_lt_zero _)
    | cons e es =>
      obtain ⟨y, r', e2, he, hs⟩ := hy
      subst e2
      cases rx with
      | cons rx rxs =>
        cases ry with
        | cons ry rys =>
          rw [deqs] at hb
          cases g1 : deq d e with
          | none => rw [g1] at hb; cases hb
          | some a =>
            cases g2 : deqs ds es with
            | none => rw [g1, g2] at hb; cases hb
            | some c =>
              have hm : A.units + max (dep d) (deps ds) < cLine := hu
              cases j with
              | zero =>
                have := eqAt_D I d e (A := A) hd he rx ry g1 (by omega)
                simpa [eAt, g1] using this
              | succ j =>
                have := eqAt_Ds I ds es (A := A) hr hs rxs rys g2 (by omega) j (by simpa using h1) (by simpa using h2)
                simpa [eAt] using this
end
def rEqD : R2 := fun x y H Q => ∃ p q d e b, x = .ref p ∧ y = .ref q ∧ Rep H x d ∧ Rep H y e ∧ deq d e = some b ∧ dep d ≤ 60 ∧ Q (.bl b) H
theorem op_eqD (hu : X.A.units + 64 < cLine) : OpR X (compareOp .Eq) rEqD := by
  intro pins s σ H x y v u Q I rx ry h
  obtain ⟨p, q, d, e, b, e1, e2, hx, hy, hb, hd, k⟩ := h
  subst e1 e2
  cases rx
  cases ry
  have fin : EP X pins σ Q (.bool b) s := ⟨.bl b, H, I, rfl, k⟩
  cases d with
  | tup ds =>
    cases e with
    | tup es =>
      obtain ⟨_, xs, z, hp, hr⟩ := hx
      cases z
      obtain ⟨_, ys, z, hq, hs⟩ := hy
      cases z
      obtain ⟨its, r1, pl1, _⟩ := I.tuple (xs := xs) (.inl (.inl hp))
      obtain ⟨its', r2, pl2, _⟩ := I.tuple (xs := ys) (.inl (.inl hq))
      have l1 := r1.length
      have l2 := r2.length
      have g1 := hr.length
      have g2 := hs.length
      have hd' : deps ds + 1 ≤ 60 := hd
      have hu' : X.A.in1.units + deps ds < cLine := by rw [PySem.Around.in1_units]; omega
      have hb' : deqs ds es = some b := hb
      refine SeqAt.eq_tupleAt (e := eAt ds es) pl1 pl2 (by omega) (fun j h1 h2 => by
        have := eqAt_Ds I ds es hr hs r1 r2 hb' hu' j (by simpa using h1) (by simpa using h2)
        simpa using this) ?_
      simp only [List.size_toArray, ← l1, ← l2, g1, g2]
      rw [deqs_range ds es b hb']
      exact fin
    | _ => simp [deq] at hb
  | lst ds =>
    cases e with
    | lst es =>
      obtain ⟨_, xs, z, hp, hr⟩ := hx
      cases z
      obtain ⟨_, ys, z, hq, hs⟩ := hy
      cases z
      obtain ⟨its, r1, pl1, _⟩ := I.list (xs := xs) (.inl (.inl hp))
      obtain ⟨its', r2, pl2, _⟩ := I.list (xs := ys) (.inl (.inl hq))
      have l1 := r1.length
      have l2 := r2.length
      have g1 := hr.length
      have g2 := hs.length
      have hd' : deps ds + 1 ≤ 60 := hd
      have hu' : X.A.in1.units + deps ds < cLine := by rw [PySem.Around.in1_units]; omega
      rw [deq] at hb
      by_cases hl : ds.length = es.length
      · rw [if_pos hl] at hb
        refine SeqAt.eq_listAt (e := eAt ds es) pl1.isList pl2.isList (by simp only [List.size_toArray]; omega) (by omega) (fun j h1 h2 => by
          have := eqAt_Ds I ds es hr hs r1 r2 hb hu' j (by simpa using h1) (by simpa using h2)
          simpa using this) ?_
        have e3 := deqs_range ds es b hb
        have e4 : min ds.length es.length = ds.length := by omega
        rw [e4, hl] at e3
        simp only [beq_self_eq_true, Bool.and_true] at e3
        simp only [List.size_toArray, ← l1, g1, hl, e3]
        exact fin
      · rw [if_neg hl] at hb
        cases hb
        exact SeqAt.eq_list_lengthsAt pl1.isList pl2.isList (by simp only [List.size_toArray, bne_iff_ne, ne_eq]; omega) (by omega) fin
    | _ => simp [deq] at hb
  | _ => simp [Rep] at hx
end
end L2
set_option Elab.async false
set_option linter.all false
set_option maxRecDepth 100000
set_option maxHeartbeats 1000000
namespace L2
open PySem PySem.Spec PyProof.Rows
section
variable {X : Cx} {pins : List (Addr × Obj)} {σ : St} {H : Hp} {s : Shared} {h' : Heap}
end
def Itz (K : PySem.W.Frag) (a b : Addr) : It :=
  ⟨fun i H => ∃ xs ys x y, SqL K H a xs ∧ SqL K H b ys ∧ xs[i]? = some x ∧ ys[i]? = some y,
   fun i H v H' => ∃ T x y, v = .ref T ∧ H T = none ∧ H' = upd H T (.tup [x, y]) ∧ (∀ xs, SqL K H a xs → xs[i]? = some x) ∧ (∀ ys, SqL K H b ys → ys[i]? = some y),
   fun i H => ∃ xs ys, SqL K H a xs ∧ SqL K H b ys ∧ (xs.length ≤ i ∨ ys.length ≤ i)⟩
def iZip (K : PySem.W.Frag) (ta : TA) : TI := fun σ H R => ta σ H fun vs H1 => ∃ a b, vs = [.ref a, .ref b] ∧ (∃ xs, SqL K H1 a xs) ∧ (∃ ys, SqL K H1 b ys) ∧ R (Itz K a b) H1
section
variable {X : Cx} {elts : List Expr} {kt : Nat} {tpos : Pos}
end
def rSum (K : PySem.W.Frag) : List V → Hp → VK → Prop := fun xs H Q => ∃ (p : Addr) (ns : List Int), xs = [V.ref p] ∧ SqL K H p (ns.map V.int) ∧ Q (.int ns.sum) H
def rListH : List V → Hp → VK → Prop := fun xs H Q => ∃ p ys, xs = [V.ref p] ∧ (H p = some (.lst ys) ∨ H p = some (.tup ys)) ∧ ∀ l, H l = none → Q (.ref l) (upd H l (.lst ys))
theorem call_listH {X : Cx} : CallR X (.type "list") rListH := by
  intro pins s σ H xs us Q I r h
  obtain ⟨p, ys, e, hp, q⟩ := h
  exact call_list_of pins s σ H xs us Q I r ⟨p, ys, e, hp.imp (fun z => .inl (.inl z)) (fun z => .inl (.inl z)), q⟩
theorem pe_callT {X : Cx} {x : Str} {e : Expr} {es : List Expr} {t : TA} {p pos : Pos} {n : String} {r : List V → Hp → VK → Prop} (hc : CallR X (.type n) r) (hg : Gl X x) (hm : X.mg x = none) (hv : bootBuiltins x = some (.type n)) (ha : PA X (e :: es) t) (hs : plainArgs (e :: es) = true := by rfl) (hn : x ≠ "__name__" := by decide) (hdb : (x == ("__debug__" : Str)) = false := by decide) :
    PE X (.Call (.Name x p) (e :: es) [] pos) (tCB r t) :=
  have h' : notStar e = true ∧ plainArgs es = true := by simpa [plainArgs] using hs
  pe_callTy hc hg hm hv ha hn hdb (starEach_plain h'.1) (backTo_plain h'.2)
end L2
set_option Elab.async false
set_option linter.all false
set_option maxRecDepth 100000
set_option maxHeartbeats 1000000
namespace L2
open PySem PySem.Spec PyProof.Rows
def newH (B H : Hp) : Hp := fun b => match B b with | some _ => none | none => H b
def cutH (B : Hp) (D : Addr) (H : Hp) : Hp := fun b => if b = D then none else newH B H b
theorem newH_of {B H : Hp} {b : Addr} {o : HO} (h : newH B H b = some o) : B b = none ∧ H b = some o := by
  unfold newH at h
  cases e : B b with
  | some z => rw [e] at h; cases h
  | none => rw [e] at h; exact ⟨rfl, h⟩
theorem newH_at {B H : Hp} {b : Addr} (h : B b = none) : newH B H b = H b := by
  unfold newH
  rw [h]
theorem cutH_of {B H : Hp} {D b : Addr} {o : HO} (h : cutH B D H b = some o) : b ≠ D ∧ B b = none ∧ H b = some o := by
  unfold cutH at h
  by_cases e : b = D
  · rw [if_pos e] at h; cases h
  · rw [if_neg e] at h; exact ⟨e, newH_of h⟩
theorem cutH_at {B H : Hp} {D b : Addr} (e : b ≠ D) (h : B b = none) : cutH B D H b = H b := by
  unfold cutH
  rw [if_neg e, newH_at h]
theorem newH_same {B H : Hp} : Same (newH B H) H := fun b o h => (newH_of h).2
theorem cutH_same {B H : Hp} {D : Addr} : Same (cutH B D H) H := fun b o h => (cutH_of h).2.2
theorem cutH_new {B H : Hp} {D : Addr} : Same (cutH B D H) (newH B H) := fun b o h => by
  obtain ⟨h1, h2, h3⟩ := cutH_of h
  rw [newH_at h2]; exact h3
theorem cutH_mono {B H H' : Hp} {D : Addr} (e : Same H H') : Same (cutH B D H) (cutH B D H') := fun b o h => by
  obtain ⟨h1, h2, h3⟩ := cutH_of h
  rw [cutH_at h1 h2]; exact e _ _ h3
theorem cutH_upd {B H : Hp} {D : Addr} {o : HO} : cutH B D (upd H D o) = cutH B D H := by
  funext b
  unfold cutH newH
  by_cases e : b = D
  · rw [if_pos e, if_pos e]
  · rw [if_neg e, if_neg e, upd_ne e]
theorem comp_any {J : It} {g : TG} {te : TE} {σ : St} {H : Hp} {Q : VK} (n : Nat) (B : Hp) (Pσ : St → Prop) (ds : List Dt) (hB : Same B H) (h0 : Pσ σ) (hlen : ds.length = n) (hz : n ≤ 1000)
    (hgo : ∀ i H', i < n → Same H H' → J.go i H') (hst : ∀ H', Same H H' → J.stop n H')
    (hs : ∀ D i x d σ' H' H'', H D = none → (∃ o, H' D = some o) → Same H H' → i < n → ds[i]? = some d → J.yld i H' x H'' → Pσ σ' → ∀ R : St → V → Hp → Prop,
      (∀ σ2 v H3, Pσ σ2 → Same H' H3 → Rep (cutH B D H3) v d → R σ2 v H3) → g x σ' H'' fun σ2 H2 => te σ2 H2 fun v H3 => R σ2 v H3)
    (hd : ∀ D H', H D = none → Same H H' → Rep (newH B H') (.ref D) (.lst ds) → Q (.ref D) H') : CompGo J g tYes te σ H Q := by
  intro D hD
  have hBD : B D = none := hB.free hD
  refine ⟨fun i m σ' H' => m = n - i ∧ i ≤ n ∧ Pσ σ' ∧ Same H H' ∧ ∃ ys, H' D = some (.lst ys) ∧ Reps (cutH B D H') ys (ds.take i) ∧ ys.length = i, ⟨n, by simp, Nat.zero_le _, h0, Same.new hD, [], upd_same, rfl, rfl⟩, ?_⟩
  rintro i m σ' H' ⟨rfl, hi, hp, hs', ys, hys, hr, hl⟩
  by_cases hlt : i < n
  · refine .inr ⟨hgo i H' hlt hs', fun σ2 H2 => Pσ σ2 ∧ Same H H2 ∧ ∃ ys, H2 D = some (.lst ys) ∧ Reps (cutH B D H2) ys (ds.take (i + 1)) ∧ ys.length = i + 1, fun σ2 H2 ⟨a, b, c⟩ => ⟨n - (i + 1), by omega, rfl, hlt, a, b, c⟩, fun x H'' hy => ?_⟩
    have hdi : ds[i]? = some ds[i] := by simp [hlen, hlt]
    simp only [tYes, if_true]
    refine hs D i x ds[i] σ' H' H'' hD ⟨_, hys⟩ hs' hlt hdi hy hp _ fun σ2 v H3 hp2 s3 hv => ?_
    refine ⟨ys, s3 _ _ hys, by rw [hl]; exact small1000 (by omega), hp2, (hs'.trans s3).upd hD, ys ++ [v], upd_same, ?_, by simp [hl]⟩
    rw [cutH_upd]
    have e : ds.take (i + 1) = ds.take i ++ [ds[i]] := by rw [List.take_succ, hdi]; rfl
    rw [e]
    exact (Reps.mono (cutH_mono s3) _ hr).append ⟨v, [], rfl, hv, rfl⟩
  · have e : i = n := by omega
    subst e
    refine .inl ⟨hst H' hs', hd D H' hD hs' ⟨D, ys, rfl, ?_, ?_⟩⟩
    · rw [newH_at hBD]; exact hys
    · rw [List.take_of_length_le (by omega)] at hr
      exact Reps.mono cutH_new _ hr
theorem Reps.of_get {H : Hp} {xs : List V} {ds : List Dt} {i : Nat} {x : V} (h : Reps H xs ds) (e : xs[i]? = some x) : ∃ d, ds[i]? = some d ∧ Rep H x d := by
  have hi : i < xs.length := (List.getElem?_eq_some_iff.mp e).1
  have hi' : i < ds.length := by rw [← h.length]; exact hi
  obtain ⟨y, hy, hr⟩ := h.get (i := i) (d := ds[i]) (by simp [hi'])
  rw [e] at hy
  cases hy
  exact ⟨ds[i], by simp [hi'], hr⟩
theorem pg_tupK {X : Cx} {K : PySem.W.Frag} {es : List Expr} {k : Nat} {t : TGs} {n : Nat} {pos : Pos} (hK : X.K = K) (hc : X.calm = true) (h : PGs X es t)
    (hn : (assignEach es X.env).length = n := by rfl) (hst : (assignEach es X.env).findIdx? (·.1) = none := by rfl) : PG X (.Tuple es k pos) (gTup K n t) := hK ▸ pg_tup hc h hn hst
end L2
set_option Elab.async false
set_option linter.all false
set_option maxRecDepth 100000
namespace L2
open PySem PySem.Spec PyProof.Rows
theorem ObjOk.obj {P : Program} {w : World} {H : Hp} {h : Heap} {a : Addr} {o : HO} (x : ObjOk P w H h a o) : ∃ u, h.get? a = some u := by
  cases o with
  | lst xs => obtain ⟨_, _, _, _, e⟩ := x; exact ⟨_, e⟩
  | tup xs => obtain ⟨_, _, _, ob, e, _⟩ := x; exact ⟨_, e⟩
  | dK kvs => obtain ⟨_, _, _, _, o, _, _, e, _⟩ := x; exact ⟨_, e⟩
  | dT kvs => obtain ⟨_, _, _, _, o, _, _, e, _⟩ := x; exact ⟨_, e⟩
  | set S n => obtain ⟨o, _, _, _, e, _⟩ := x; exact ⟨_, e⟩
  | ins C dx fs => obtain ⟨_, _, _, e, _⟩ := x; exact ⟨_, e⟩
  | own y => exact x
  | xd fs => obtain ⟨_, ⟨_, _, _, e, _⟩, _⟩ := x; exact ⟨_, e⟩
  | rng lo hi => obtain ⟨_, _, _, e⟩ := x; exact ⟨_, e⟩
  | frz ob u => obtain ⟨e, _⟩ := x; exact ⟨_, e⟩
  | tbl ps => exact ⟨_, show h.get? a = some _ from x⟩
  | met f y => exact ⟨_, show h.get? a = some _ from x⟩
  | ext φ => obtain ⟨_, e, _⟩ := x; exact e
structure ExC (K : PySem.W.Frag) (C : Addr) : Prop where
  obj : ∀ {h : Heap}, K.In h → ∃ bm N nm q bs hdct sn sub ab col dd k0 k1 k2 k3 k5 mN, h.get? C = some (excClassObj nm q C N bs bm hdct sn sub ab col dd k0 k1 k2 k3 k5 "ValueError.__new__") ∧ h.Ns N mN ∧ mN "__init__" = none ∧
    OwnTail h [.type "ValueError", .type "Exception", .type "BaseException", .type "object"] bm
section
variable {P : Program} {w : World} {K : PySem.W.Frag} {mg : Str → Option Value} {base : Heap} {N : List Str} {qual : Str} {scope : Scope} {f : Addr} {cd : Value} {A : Around} {outer : List Env} {s₀ : Shared} {H₀ : Hp} {E : XK}
end
section
variable {X : Cx} {pins : List (Addr × Obj)} {σ : List (Option V)} {H : Hp} {s : Shared}
end
structure HnC (K : PySem.W.Frag) (C : Addr) : Prop where
  ty : PySem.W.typeIn K (.ref C) = some (.type "type")
  cl : (PySem.W.clsIn K C).isSome = true
  ex : PySem.W.mroIn K C (.type "BaseException") = some true
abbrev calmed (A : Around) : Around := { A with handled := none }
structure FnOkH (P : Program) (w : World) (K : PySem.W.Frag) (mg : Str → Option Value) (base : Heap) (k : Nat) (f : Addr) (fd : FuncData) (ps : List Str) (sp : Sp) : Prop where
  len : ∀ vs H Q E, sp vs H Q E → vs.length = ps.length
  run : ∀ (A : Around) (outer : List Env) (s : Shared) (H : Hp) (args : Args) (us : List Value) (vs : List V) (Q : VK) (E : XK), Room k (calmed A) → Env0 P w K mg base A outer s H → BindsTo s fd args (ps.zip us) → Vals vs us → sp vs H Q E →
    codeAny (model P w) A (.call (.ref f) args) (CR CX0 outer P w H s Q E) s
end L2
set_option Elab.async false
set_option linter.all false
set_option maxRecDepth 100000
namespace L2
open PySem PySem.Spec PyProof.Rows
section
variable {X : Cx} {x : Str} {ps : List Str} {k : Nat} {sp : Sp} {e : Expr} {es : List Expr} {t : TA} {p pos : Pos} {E : XK}
end
structure KitE (K : PySem.W.Frag) (C : Addr) : Prop where
  cl : (PySem.W.clsIn K C).isSome = true
  ga : PySem.W.findIn K (.ref C) "__getattribute__" = some (some (.builtin "BaseException.__getattribute__"))
  gh : PySem.W.findIn K (.ref C) "__getattr__" = some none
  at_ : PySem.W.findIn K (.ref C) "__class__" = some (some (.builtin "object.__class__"))
  get : PySem.W.specialIn K (.builtin "object.__class__") "__get__" = some (some (.builtin "getset_descriptor.__get__"))
  set : PySem.W.takesIn K (.builtin "object.__class__") = some true
  obj : PySem.W.mroIn K C (.type "object") = some true
  exc : PySem.W.mroIn K C (.type "BaseException") = some true
def ObjC (x : Addr) (D : Value) (h : Heap) : Prop := ∃ o, h.get? x = some o ∧ o.cls = D
theorem ObjC.ty {x : Addr} {D : Value} {M : Model} {h : Heap} (p : ObjC x D h) : PySem.W.Looks M h (typeOf (.ref x)) D := by
  obtain ⟨o, h1, h2⟩ := p
  exact h2 ▸ (PySem.W.Looks.ld h1).andThen .now
def tPar3 (i j k : Nat) (ta : TA) : TS := fun D σ H => ta σ H fun vs H1 => ∃ v w y, vs = [v, w, y] ∧ D.nx (((σ.set i (some v)).set j (some w)).set k (some y)) H1
end L2
set_option Elab.async false
set_option linter.all false
set_option maxRecDepth 100000
namespace L2
open PySem PySem.Spec PyProof.Rows
def Itd (hi : Int) (n : Nat) : It := ⟨fun i _ => i < n, fun i H x H' => H' = H ∧ x = .int (hi - i), fun i _ => n ≤ i⟩
def iRngD (ta : TA) : TI := fun σ H R => ta σ H fun vs H1 => ∃ i j : Int, vs = [.int i, .int j, .int (-1)] ∧ (0 ≤ j ∧ j ≤ i ∧ i < 2 ^ 30) ∧ R (Itd i (i - j).toNat) H1
def rSlH : V → Option Int → Option Int → Hp → VK → Prop := fun x lo hi H Q => ∃ a xs, x = .ref a ∧ H a = some (.lst xs) ∧ ∀ p, H p = none → Q (.ref p) (upd H p (.lst (cutV xs lo hi)))
end L2
set_option Elab.async false
set_option linter.all false
set_option maxRecDepth 100000
namespace L2
open PySem PySem.Spec PyProof.Rows
end L2
set_option Elab.async false
set_option linter.all false
set_option maxRecDepth 100000
namespace L2
open PySem PySem.Spec PyProof.Rows
end L2
set_option linter.all false
namespace RimD
def su : Nat → (Nat → Int) → Int
  | 0, _ => 0
  | n + 1, f => su n f + f n
def sg (k : Nat) : Int := if k % 2 = 0 then 1 else -1
def sk (k j : Nat) : Nat := if j < k then j else j + 1
abbrev Mat := Nat → Nat → Int
def mi (A : Mat) (k : Nat) : Mat := fun i j => A (i + 1) (sk k j)
def D : Nat → Mat → Int
  | 0, _ => 1
  | n + 1, A => su (n + 1) fun k => sg k * A 0 k * D n (mi A k)
end RimD
set_option linter.all false
namespace RimD
structure Rect (w : Nat) (rows : List (List Int)) : Prop where
  w : ∀ r ∈ rows, r.length = w
theorem Rect.at {w : Nat} {rows : List (List Int)} (h : Rect w rows) {i : Nat} (hi : i < rows.length) : (rows.getD i []).length = w := by
  rw [List.getD_eq_getElem?_getD, List.getElem?_eq_getElem hi]
  exact h.w _ (List.getElem_mem _)
end RimD
set_option linter.all false
namespace RimM
def nf (t b : Int) : Int × Int := if b < 0 then (t / -(Int.gcd t b : Int), b / -(Int.gcd t b : Int)) else (t / (Int.gcd t b : Int), b / (Int.gcd t b : Int))
theorem gpos {t b : Int} (hb : b ≠ 0) : 0 < (Int.gcd t b : Int) := by
  have := Int.gcd_pos_of_ne_zero_right t hb
  omega
theorem nf_neg {t b : Int} (h : b < 0) : nf t b = nf (-t) (-b) := by
  have e : Int.gcd (-t) (-b) = Int.gcd t b := by rw [Int.gcd_neg, Int.neg_gcd]
  unfold nf
  rw [if_pos h, if_neg (by omega), e, Int.ediv_neg, Int.ediv_neg, Int.neg_ediv_of_dvd (Int.gcd_dvd_left ..), Int.neg_ediv_of_dvd (Int.gcd_dvd_right ..)]
theorem nf_pos {t b : Int} (h : 0 < b) : nf t b = (t / (Int.gcd t b : Int), b / (Int.gcd t b : Int)) := by
  unfold nf
  rw [if_neg (by omega)]
structure Low (p : Int × Int) : Prop where
  pos : 0 < p.2
  co : Int.gcd p.1 p.2 = 1
theorem nf_low {t b : Int} (hb : b ≠ 0) : Low (nf t b) ∧ t * (nf t b).2 = (nf t b).1 * b := by
  have key : ∀ {t b : Int}, 0 < b → Low (nf t b) ∧ t * (nf t b).2 = (nf t b).1 * b := fun {t b} h => by
    have g := gpos (t := t) (b := b) (by omega)
    rw [nf_pos h]
    refine ⟨⟨Int.ediv_pos_of_pos_of_dvd h (Int.le_of_lt g) (Int.gcd_dvd_right ..), Int.gcd_ediv_gcd_ediv_gcd (by omega)⟩, ?_⟩
    show t * (b / (Int.gcd t b : Int)) = t / (Int.gcd t b : Int) * b
    obtain ⟨x, hx⟩ := Int.gcd_dvd_left (a := t) (b := b)
    obtain ⟨y, hy⟩ := Int.gcd_dvd_right (a := t) (b := b)
    have e1 : t / (Int.gcd t b : Int) = x := by
      conv => lhs; arg 1; rw [hx]
      exact Int.mul_ediv_cancel_left _ (by omega)
    have e2 : b / (Int.gcd t b : Int) = y := by
      conv => lhs; arg 1; rw [hy]
      exact Int.mul_ediv_cancel_left _ (by omega)
    rw [e1, e2]
    conv => lhs; arg 1; rw [hx]
    conv => rhs; arg 2; rw [hy]
    rw [Int.mul_assoc, Int.mul_left_comm]
  rcases Int.lt_or_lt_of_ne hb with h | h
  · rw [nf_neg h]
    obtain ⟨a, e⟩ := key (t := -t) (b := -b) (by omega)
    refine ⟨a, ?_⟩
    rw [Int.neg_mul, Int.mul_neg] at e
    omega
  · exact key h
end RimM
set_option linter.all false
namespace RimD
open RimM
def Bd (B : Nat) (rows : List (List Int)) : Prop := ∀ r ∈ rows, ∀ x ∈ r, x.natAbs ≤ 2 ^ B
end RimD
set_option Elab.async false
set_option linter.all false
set_option maxRecDepth 100000
namespace L2
open PySem PySem.Spec PyProof.Rows
def numsV (n : Nat) : List V := (List.range n).map fun i : Nat => V.int (i : Int)
def tLRange (ta : TA) : TE := fun σ H Q => ta σ H fun vs H1 => ∃ n : Nat, vs = [.int (n : Int)] ∧ n ≤ 1000 ∧ ∀ l, H1 l = none → Q (.ref l) (upd H1 l (.lst (numsV n)))
def tRev (te : TE) (ts : TO) : TE := fun σ H Q => te σ H fun x H1 => ts σ H1 fun o H2 => o = some (-1) ∧ ∃ a xs, x = .ref a ∧ H2 a = some (.lst xs) ∧ ∀ p, H2 p = none → Q (.ref p) (upd H2 p (.lst xs.reverse))
end L2
set_option Elab.async false
set_option linter.all false
set_option maxRecDepth 100000
set_option maxHeartbeats 4000000
namespace L2
open PySem PySem.Spec PyProof.Rows PySem.W
section
variable {X : Cx} {pins : List (Addr × Obj)} {σ : St} {H : Hp} {s : Shared}
theorem Inv.keeps (I : Inv X pins σ H s) {m : Str → Option Value} {h' : Heap} (F : Fr X.base X.env.locals h' m) (N : News X.base X.env.locals h' (allNews X.base s.heap X.env.locals)) :
    ∀ b o, b ≠ X.env.locals → s.heap.get? b = some o → h'.get? b = some o := fun b o hb e => by
  cases q : X.base.get? b with
  | some u =>
    have z := I.bk b u q
    rw [e] at z
    cases z
    exact F.keep b _ q
  | none => exact (N (b, o) (mem_allNews hb q e)).1
end
end L2
set_option Elab.async false
set_option linter.all false
set_option maxRecDepth 100000
set_option maxHeartbeats 4000000
namespace L2
open PySem PySem.Spec PyProof.Rows PySem.W HT
section
open PySem.SeqAt
open PySem.AutoSeq1 (wpAny_loadPart')
open PySem.MeetsSeq PySem.MeetsSeq2 PySem.MeetsSeq3
end
section
variable {prog : Program} {w : World} {A : Around} {E : Value → Shared → Prop} {s : Shared}
end
end L2
set_option Elab.async false
set_option linter.all false
set_option maxRecDepth 100000
set_option maxHeartbeats 4000000
namespace L2
open PySem PySem.Spec PyProof.Rows PySem.W HT
section
variable {X : Cx} {pins : List (Addr × Obj)} {σ : St} {H : Hp} {s : Shared}
end
end L2
set_option Elab.async false
set_option linter.all false
set_option maxRecDepth 100000
set_option maxHeartbeats 4000000
namespace L2
open PySem PyProof.Rows PySem.W
section
variable {lt : Nat → Nat → Bool} {N : Nat}
end
end L2
set_option Elab.async false
set_option linter.all false
set_option maxRecDepth 100000
set_option maxHeartbeats 4000000
namespace L2
open PySem PySem.Spec PyProof.Rows PySem.W
def rMinL : List V → Hp → VK → Prop := fun vs H Q => ∃ (p : Addr) (ns : List Int), vs = [.ref p] ∧ H p = some (.lst (ns.map V.int)) ∧ 0 < ns.length ∧ ∀ z, z ∈ ns → (∀ x ∈ ns, z ≤ x) → Q (.int z) H
def rSortI : List V → Hp → VK → Prop := fun vs H Q => ∃ (p : Addr) (ns : List Int), vs = [.ref p] ∧ H p = some (.lst (ns.map V.int)) ∧ ns.length < 64 ∧ ∀ (l : Addr) (zs : List Int), H l = none → zs.Perm ns → zs.Pairwise (· ≤ ·) → Q (.ref l) (upd H l (.lst (zs.map V.int)))
end L2
set_option Elab.async false
set_option linter.all false
set_option maxRecDepth 100000
set_option maxHeartbeats 4000000
namespace L2
open PySem PySem.Spec PyProof.Rows PySem.W
section
variable {prog : Program} {w : World} {A : Around} {E : Value → Shared → Prop} {s : Shared}
end
end L2
set_option Elab.async false
set_option linter.all false
set_option maxRecDepth 100000
set_option maxHeartbeats 4000000
namespace L2
open PySem PySem.Spec PyProof.Rows PySem.W
theorem lri_nolen : typeLookup (.type "list_reverseiterator") "__len__" = pure none := by
  rw [typeLookup_type, builtinLookup_eq_fast]; kernel_rfl
theorem lri_hint : typeLookup (.type "list_reverseiterator") "__length_hint__" = pure (some (.builtin "list_reverseiterator.__length_hint__")) := by
  rw [typeLookup_type, builtinLookup_eq_fast]; kernel_rfl
section
variable {prog : Program} {w : World} {A : Around} {E : Value → Shared → Prop} {s : Shared}
abbrev lstObj (acc : Array Value) (c : Nat) : Obj := { cls := .type "list", dict := none, data := .seq acc c, slots := #[] }
end
theorem bt_reversed : bootBuiltins "reversed" = some (.type "reversed") := by decide +kernel
def tLRev (ta : TA) : TE := fun σ H Q => ta σ H fun vs H1 => ∃ a xs, vs = [.ref a] ∧ H1 a = some (.lst xs) ∧ ∀ p, H1 p = none → Q (.ref p) (upd H1 p (.lst xs.reverse))
end L2
set_option Elab.async false
set_option linter.all false
set_option maxRecDepth 100000
set_option maxHeartbeats 4000000
namespace L2
open PySem PySem.Spec PyProof.Rows PySem.W
def rMulS : R2 := fun x y H Q => ∃ i n, x = .str i ∧ y = .int n ∧ MulOk i n ∧ Q (.str (Txt.mul i n)) H
theorem op_mul_str {X : Cx} : OpR X (binaryOp .Mult) rMulS := by
  intro pins s σ H x y v u Q I rx ry h
  obtain ⟨i, n, rfl, rfl, ok, q⟩ := h
  obtain ⟨t, rfl⟩ := rx
  obtain ⟨t', rfl⟩ := ry
  exact SB.mul ok fun t' k => ⟨.str (Txt.mul i n), H, I.tok _, ⟨_, rfl⟩, q⟩
theorem strs_of : ∀ {ts : List Str} {us : List Value}, Vals (ts.map V.str) us → ∃ l : List (Str × Tok), strValues l = us ∧ l.map (·.1) = ts
  | [], _, .nil => ⟨[], rfl, rfl⟩
  | t :: ts, _, .cons ⟨k, e⟩ r => by
    obtain ⟨l, e1, e2⟩ := strs_of (ts := ts) r
    exact ⟨(t, k) :: l, by rw [e, ← e1]; rfl, by rw [← e2]; rfl⟩
def rJoin : V → List V → Hp → VK → Prop := fun x vs H Q => ∃ z p ts, x = .str z ∧ vs = [.ref p] ∧ H p = some (.lst (ts.map V.str)) ∧ JoinOk z ts = true ∧ Q (.str (Txt.join z ts)) H
theorem mt_join {X : Cx} : MtR X "str.join" rJoin := by
  intro pins s σ H x xs v us Q I rx r h
  obtain ⟨z, p, ts, rfl, rfl, hp, ok, q⟩ := h
  obtain ⟨t, rfl⟩ := rx
  obtain ⟨u, rfl, e⟩ := vals1 r
  cases e
  obtain ⟨its, rv, pl, _⟩ := I.list (.inl (.inl hp))
  obtain ⟨l, e1, e2⟩ := strs_of rv
  subst e1
  exact SC.join pl.isList e2 ok fun t' k => ⟨.str _, H, I.tok _, ⟨_, rfl⟩, q⟩
section
variable {prog : Program} {w : World} {A : Around} {E : Value → Shared → Prop} {s : Shared}
theorem collect_rev {it l : Addr} {items : Array Value} {Q : List Value → Shared → Prop} (hh : A.handled = none) (hit : s.heap.IsRevIter it l ((items.size : Int) - 1)) (hl : s.heap.IsList l items) (hne : l ≠ it) (hz : items.size ≤ sizeLine)
    (hQ : ∀ h' tk acc, (∀ b o, b ≠ it → s.heap.get? b = some o → h'.get? b = some o) → ItemsOf (fun i v => items[items.size - 1 - i]? = some v) acc items.size → Q acc.toList { s with heap := h', toks := tk }) :
    wpAny (model prog w) A (collect (.ref it)) Q E s := by
  obtain ⟨oi, hoi, _⟩ := id hit
  obtain ⟨ol, hol, _⟩ := id hl
  have itl := Heap.lt_size hoi
  have ll := Heap.lt_size hol
  have nS : ∀ b o, s.heap.get? b = some o → b ≠ s.heap.objs.size := fun b o e => Nat.ne_of_lt (Heap.lt_size e)
  have nf : s.heap.objs.size ∉ [it, l] := fun hm => by
    rcases List.mem_cons.mp hm with e | hm
    · exact absurd itl (by rw [← e]; exact Nat.lt_irrefl _)
    · exact absurd ll (by rw [← List.mem_singleton.mp hm]; exact Nat.lt_irrefl _)
  have ne1 : Builtin.List.listSameRef (.ref s.heap.objs.size) (.ref it) = false := by
    have : s.heap.objs.size ≠ it := fun e => nf (by rw [e]; exact List.mem_cons_self)
    simp [Builtin.List.listSameRef, this]
  unfold collect
  refine wpAny_bind (wpAny_runValue (codeAny_builtin F.entry_proto_collect ?_))
  rw [Around.under_plainId F.plain_proto_collect _]
  show wpAny _ _ (newList [] >>= fun acc => again (.builtin "list.__iadd__" ⟨[acc, .ref it], []⟩)) _ _ s
  refine wpAny_bind (wpAny_newObj_type (wpAny_pure ⟨plainId_quiet F.plain_list_iadd _, codeAny_builtin F.entry_list_iadd ?_⟩))
  rw [Around.under_plainId F.plain_list_iadd _]
  have hS : (s.heap.push (lstObj #[] 0)).get? s.heap.objs.size = some (lstObj #[] 0) := Heap.get?_push_size _ rfl
  have k1 : ∀ b o, s.heap.get? b = some o → (s.heap.push (lstObj #[] 0)).get? b = some o := fun b o e => Heap.get?_push_of_some _ e
  show wpAny _ _ (Builtin.List.listExtendWith (.ref s.heap.objs.size) (.ref it) (.ref s.heap.objs.size)) _ _ { s with heap := s.heap.push (lstObj #[] 0) }
  generalize s.heap.push (lstObj #[] 0) = h2 at *
  have hit2 : h2.IsRevIter it l ((items.size : Int) - 1) := hit.at fun o e => k1 _ _ e
  have hl2 : h2.IsList l items := hl.at fun o e => k1 _ _ e
  have ty : Shared.TypeIs { s with heap := h2 } (.ref it) "list_reverseiterator" := Heap.IsRevIter.typeIs (s := { s with heap := h2 }) hit2
  have W := (Walks.listRev (prog := prog) (w := w) (A := A.in1) hh it l hne items).toS
  unfold Builtin.List.listExtendWith
  refine wpAny_bind (wpAny_typeOf ty ?_)
  rw [if_neg (by rw [ne1]; decide)]
  refine wpAny_bind (wpAny_pyIter_revIter (s := { s with heap := h2 }) hit2 (wpAny_bind (wpAny_holding ?_)))
  unfold Builtin.List.listLengthHint
  refine wpAny_bind (wpAny_specialOf ty lri_nolen ?_)
  show wpAny _ _ (specialOf (Value.ref it) (Str.ofString "__length_hint__") >>= _) _ _ _
  refine wpAny_bind (wpAny_specialOf ty lri_hint ?_)
  generalize hid : ("list_reverseiterator.__length_hint__" : String) = id0
  wp_delta
  rw [show splitId id0 = some ("list_reverseiterator", "__length_hint__") from by subst hid; decide +kernel]
  subst hid
  refine wpAny_bind (wpAny_isInstance (b := true) ty (by rw [isSubtype_type]; kernel_rfl) (wpAny_pure ?_))
  rw [if_neg (by decide)]
  have st0 : (0 : Nat) ≤ items.size ∧ h2.IsRevIter it l ((items.size : Int) - 1 - ((0 : Nat) : Int)) ∧ h2.IsList l items := ⟨Nat.zero_le _, by rw [show (items.size : Int) - 1 - ((0 : Nat) : Int) = (items.size : Int) - 1 by omega]; exact hit2, hl2⟩
  refine wpAny_pure ⟨plainId_quiet F.plain_extend_loop _, codeAny_extend_loopS (s := { s with heap := h2 }) W hz s.heap.objs.size nf _ items.size 0 #[] 0 rfl (Nat.zero_le _) st0 hS (ItemsOf.nil _) fun s' acc c hm hS' hacc => ?_⟩
  show wpAny _ A (load s.heap.objs.size >>= _) _ _ s'
  refine wpAny_bind (wpAny_load hS' (wpAny_pure ?_))
  rw [Moved.eq_with hm]
  refine hQ s'.heap s'.toks acc (fun b o hb e => hm.heap b o (fun hmem => ?_) (k1 b o e)) hacc
  rcases List.mem_cons.mp hmem with e' | hmem
  · exact nS b o e e'
  · exact hb (List.mem_singleton.mp hmem)
theorem rev_strs {l : List (Str × Tok)} {acc : Array Value} (h : ItemsOf (fun i v => (strValues l).toArray[(strValues l).toArray.size - 1 - i]? = some v) acc (strValues l).toArray.size) : acc.toList = strValues l.reverse := by
  have e : strValues l.reverse = (strValues l).reverse := by unfold strValues; rw [List.map_reverse]
  rw [e]
  apply List.ext_getElem?
  intro i
  by_cases hi : i < acc.size
  · have z : acc.size = (strValues l).length := by
      have := h.1
      simpa using this
    have hv := h.2 i acc[i] (Array.getElem?_eq_getElem hi)
    rw [List.getElem?_reverse (by omega)]
    have hv2 : (strValues l)[(strValues l).length - 1 - i]? = some acc[i] := by simpa using hv
    rw [hv2]
    simp [hi]
  · have z : acc.size = (strValues l).length := by
      have := h.1
      simpa using this
    rw [List.getElem?_eq_none (by simpa using hi), List.getElem?_eq_none (by rw [List.length_reverse]; omega)]
theorem join_of_rev {it q : Addr} {x : Str} {t : Tok} {l : List (Str × Tok)} {Q : Value → Shared → Prop} (hh : A.handled = none) (hit : s.heap.IsRevIter it q (((strValues l).toArray.size : Int) - 1)) (hl : s.heap.IsList q (strValues l).toArray) (hne : q ≠ it) (hz : (strValues l).toArray.size ≤ sizeLine)
    (ok : JoinOk x ((l.map (·.1)).reverse) = true)
    (hQ : ∀ h' tk t', (∀ b o, b ≠ it → s.heap.get? b = some o → h'.get? b = some o) → Q (.str (Txt.join x ((l.map (·.1)).reverse)) t') { s with heap := h', toks := tk }) :
    wpAny (model prog w) A (call (.builtin "str.join") [.str x t, .ref it]) Q E s := by
  have ty : s.TypeIs (.ref it) "list_reverseiterator" := Heap.IsRevIter.typeIs hit
  refine wpAny_call (codeAny_call_builtin F.slot_str_join.plain F.entry_str_join (F.slot_str_join.check _ _ _ _ _ _ _ _ (typeIs_str _ _ _) (F.args_str_join_2 _ _) ?_))
  rw [join_tree_other]
  refine wpAny_bind (wpAny_typeOf ty ?_)
  show wpAny _ A.in1 ((pyIter (.ref it)).tryCatch _ >>= fun i => collect i >>= fun xs => joinTail x xs) _ _ s
  refine wpAny_bind (wpAny_tryCatch (wpAny_pyIter_revIter hit ?_))
  refine wpAny_bind (collect_rev hh hit hl hne hz fun h' tk acc kp hacc => ?_)
  rw [rev_strs hacc]
  have e : l.reverse.map (·.1) = (l.map (·.1)).reverse := List.map_reverse ..
  rw [← e] at ok hQ
  unfold JoinOk at ok
  rw [Bool.not_eq_true'] at ok
  generalize l.reverse = r at *
  have g : Gives (joinTail x (strValues r)) (joinMade x r) := by
    have g0 := gives_joinTail x r ok
    match r with
    | [] => exact g0
    | [_] => exact g0
    | _ :: _ :: _ => exact g0
  exact g prog w A (wants Q E) _ (post_join r ⟨joinFit_length ok, fun t' k => hQ h' k t' kp⟩)
end
def tJRev (to : TE) (ta : TA) : TE := fun σ H Q => to σ H fun x H1 => ∃ z : Str, x = .str z ∧ ta σ H1 fun vs H2 => ∃ (a : Addr) (ts : List Str), vs = [.ref a] ∧ H2 a = some (.lst (ts.map V.str)) ∧ JoinOk z ts.reverse = true ∧ Q (.str (Txt.join z ts.reverse)) H2
theorem pe_joinReversed {X : Cx} {o a : Expr} {to : TE} {ta : TA} {apos p' pos pos' : Pos} (hc : X.calm = true) (ho : PE X o to) (hg' : Gl X "reversed") (hm' : X.mg "reversed" = none) (ha : PA X [a] ta) (hs : plainArgs [a] = true := by rfl)
    (hbase : attributeBase o "join" X.env (eval o X.env) = eval o X.env := by rfl)
    (hline : (apos.endLine == pos.line) = true := by rfl) :
    PE X (.Call (.Attribute o "join" apos) [.Call (.Name "reversed" p') [a] [] pos'] [] pos) (tJRev to ta) := by
  have h' : notStar a = true := by simpa [plainArgs] using hs
  intro pins s σ H Q I h
  refine wpAny_Call_method_late hbase ?few hline rfl (thn (ho pins s σ H _ I h) fun v s1 ⟨x, H1, I1, r1, z, e, q1⟩ => ?_)
  case few => rw [starEach_plain (e := .Call (.Name "reversed" p') [a] [] pos') (es := []) rfl]; rfl
  subst e
  obtain ⟨t, rfl⟩ := r1
  refine ⟨"str", "str.join", F.plainAttrs_str, F.slot_str_join, F.type_str_join, typeIs_str _ _ _, (fun _ e => nomatch e), ?_⟩
  rw [starEach_plain (e := .Call (.Name "reversed" p') [a] [] pos') (es := []) rfl]
  refine Calls.callWith_builtin rfl (Calls.evalArgs_plain ?_)
  show wpAny _ _ (spliced ((false, eval (.Call (.Name "reversed" p') [a] [] pos') X.env) :: backTo pos (starEach [] X.env))) _ _ s1
  refine Calls.spliced_cons ?_
  refine Call_ (ld_blt I1 hg' hm' bt_reversed (PyProof.Rows.callWith_type1 (thn (ha pos' pins s1 σ H1 _ I1 q1) fun us s2 ⟨vs, H2, I2, r2, q2⟩ => ?_) (starEach_plain h') rfl))
  obtain ⟨b, ts, rfl, hb, ok, q⟩ := q2
  obtain ⟨u, rfl, e⟩ := vals1 r2
  cases e
  obtain ⟨its, rv, pl, hz⟩ := I2.list (.inl (.inl hb))
  obtain ⟨l, e1, e2⟩ := strs_of rv
  subst e1
  refine call_reversed_list pl.isList (Calls.spliced_nil ?_)
  obtain ⟨ob, hob, _⟩ := id pl.isList
  have bl := Heap.lt_size hob
  have hit : (s2.heap.push (revObj b (((strValues l).toArray.size : Int) - 1))).IsRevIter s2.heap.objs.size b (((strValues l).toArray.size : Int) - 1) := ⟨_, Heap.get?_push_size _ rfl, rfl, rfl⟩
  have hlen := rv.length
  rw [← e2] at ok q
  refine join_of_rev (s := { s2 with heap := s2.heap.push (revObj b (((strValues l).toArray.size : Int) - 1)) }) (I2.ok.hd hc) hit (pl.isList.at fun o e => Heap.get?_push_of_some _ e) (Nat.ne_of_lt bl) (by rw [List.size_toArray]; omega) ok fun h2 tk t' kp => ?_
  have k1 : ∀ b o, s2.heap.get? b = some o → h2.get? b = some o := fun b o e => kp b o (Nat.ne_of_lt (Heap.lt_size e)) (Heap.get?_push_of_some _ e)
  have sz : s2.heap.objs.size ≤ (s2.heap.push (revObj b (((strValues l).toArray.size : Int) - 1))).objs.size := by rw [size_push']; exact Nat.le_succ _
  exact ⟨.str _, H2, I2.kept (t' := tk) k1, ⟨_, rfl⟩, q⟩
def tF3 (ta tc tb : TE) : TE := fun σ H Q => ta σ H fun x H1 => ∃ i : Str, x = .str i ∧ i.length ≤ sizeLine ∧ tc σ H1 fun y H2 => ∃ j : Str, y = .str j ∧ i.length + j.length ≤ sizeLine ∧ tb σ H2 fun z H3 => ∃ k : Str, z = .str k ∧ i.length + j.length + k.length ≤ sizeLine ∧ Q (.str (i ++ j ++ k)) H3
theorem empty_app (i : Str) : Str.empty ++ i = i := by
  show (⟨#[] ++ i.cps⟩ : Str) = i
  rw [Array.empty_append]
theorem len_app (i j : Str) : (i ++ j).length = i.length + j.length := by
  show (i.cps ++ j.cps).size = _
  rw [Array.size_append]
  rfl
theorem pe_fstr3 {X : Cx} {a b c : Expr} {ta tb tc : TE} {p1 p2 pos : Pos} (ha : PE X a ta) (hc : PE X c tc) (hb : PE X b tb) : PE X (.JoinedStr [.FormattedValue a (-1) none p1, c, .FormattedValue b (-1) none p2] pos) (tF3 ta tc tb) := by
  intro pins s σ H Q I h
  refine wpAny_JoinedStr ?_
  show Joins _ _ _ [eval (.FormattedValue a (-1) none p1) X.env, eval c X.env, eval (.FormattedValue b (-1) none p2) X.env] _ _ s
  refine wpAny_FormattedValue_plain (thn (ha pins s σ H _ I h) fun v s1 ⟨x, H1, I1, r1, i, e, hi, q1⟩ => ?_)
  subst e
  obtain ⟨t, rfl⟩ := r1
  have rest : ∀ (t : Tok) (s1 : Shared), Inv X pins σ H1 s1 → ∃ y u, Value.str i t = .str y u ∧ (Str.empty ++ y).length ≤ sizeLine ∧ Joins (model X.prog X.w) X.A X.xe [eval c X.env, eval (.FormattedValue b (-1) none p2) X.env] (Str.empty ++ y) (fun out s₁ => out.length ≤ sizeLine ∧ EP X pins σ Q (.str out s₁.toks) { s₁ with toks := s₁.toks + 1 }) s1 := fun t s1 I1 => by
    refine ⟨i, t, rfl, by rw [empty_app]; exact hi, ?_⟩
    rw [empty_app]
    refine thn (hc pins s1 σ H1 _ I1 q1) fun v s2 ⟨x, H2, I2, r2, j, e, hj, q2⟩ => ?_
    subst e
    obtain ⟨t2, rfl⟩ := r2
    refine ⟨j, t2, rfl, by rw [len_app]; exact hj, ?_⟩
    refine wpAny_FormattedValue_plain (thn (hb pins s2 σ H2 _ I2 q2) fun v s3 ⟨x, H3, I3, r3, k, e, hk, q3⟩ => ?_)
    subst e
    obtain ⟨t3, rfl⟩ := r3
    have last : ∀ (t : Tok) (s4 : Shared), Inv X pins σ H3 s4 → ∃ y u, Value.str k t = .str y u ∧ (i ++ j ++ y).length ≤ sizeLine ∧ (i ++ j ++ y).length ≤ sizeLine ∧ EP X pins σ Q (.str (i ++ j ++ y) s4.toks) { s4 with toks := s4.toks + 1 } := fun t s4 I4 => by
      have hz : (i ++ j ++ k).length ≤ sizeLine := by rw [len_app, len_app]; exact hk
      exact ⟨k, t, rfl, hz, hz, .str _, H3, I4.tok _, ⟨_, rfl⟩, q3⟩
    exact wpAny_formatField_str (last _ _ I3) (last _ _ (I3.tok _)) (by omega)
  exact wpAny_formatField_str (rest _ _ I1) (rest _ _ (I1.tok _)) hi
theorem pe_bmK {X : Cx} {K : PySem.W.Frag} {o e : Expr} {es : List Expr} {to : TE} {t : TA} {name : Str} {apos cpos : Pos} {T id : String} {r : V → List V → Hp → VK → Prop} (hK : X.K = K) (pa : PlainAttrs T) (slot : Slot T name id) (hty : typeOf (.builtin id) = pure (.type "method_descriptor")) (hm : MtR X id r) (ho : PE X o to) (ha : PA X (e :: es) t)
    (hbase : attributeBase o name X.env (eval o X.env) = eval o X.env := by rfl)
    (hfew : ((backTo cpos (starEach (e :: es) X.env)).all (fun x => !x.1) && (backToKw cpos (keywordEach [] X.env)).all (fun x => x.1.isSome) && decide ((e :: es).length + ([] : List Keyword).length + (if ([] : List Keyword).isEmpty then 0 else 1) < 30)) = true := by rfl)
    (hline : (apos.endLine == cpos.line) = true := by rfl) (hs : starEach (e :: es) X.env = (false, eval e X.env) :: starEach es X.env := by rfl) (hplain : (backTo cpos (starEach es X.env)).any (·.1) = false := by rfl) :
    PE X (.Call (.Attribute o name apos) (e :: es) [] cpos) (tBM K T r to t) := by
  subst hK
  exact pe_bm pa slot hty hm ho ha hbase hfew hline hs hplain
end L2
set_option Elab.async false
set_option linter.all false
set_option maxRecDepth 100000
set_option maxHeartbeats 4000000
namespace Rim76
open PySem PySem.Spec PyProof.Rows L2 RimM
theorem plainT_int : plainT "int" = True := eq_true (.inl rfl)
theorem plainT_bool : plainT "bool" = True := eq_true (.inr (.inl rfl))
theorem plainT_tuple : plainT "tuple" = True := eq_true (.inr (.inr (.inl rfl)))
theorem plainT_list : plainT "list" = True := eq_true (.inr (.inr (.inr (.inl rfl))))
theorem plainT_str : plainT "str" = True := eq_true (.inr (.inr (.inr (.inr rfl))))
theorem gcd_step {x y : Int} (hx : 0 ≤ x) (hy : 0 < y) : Int.gcd y (x % y) = Int.gcd x y := by
  obtain ⟨m, rfl⟩ := Int.eq_ofNat_of_zero_le hx
  obtain ⟨n, rfl⟩ := Int.eq_ofNat_of_zero_le (Int.le_of_lt hy)
  show Int.gcd (n : Int) ((m : Int) % (n : Int)) = Int.gcd (m : Int) (n : Int)
  rw [← Int.natCast_emod, Int.gcd_natCast_natCast, Int.gcd_natCast_natCast, Nat.gcd_comm n, ← Nat.gcd_rec, Nat.gcd_comm]
local macro_rules | `(tactic| walk_at "rd") => `(tactic| first | (dsimp only [tSeq, tAsg, gName, tTup, tLst, tCons, tNil, tVar, tC, tCB, tOp, rI, rI0, tTest, tIfS, tNext, tRet, tRetN, tDrop, tB, tAnd, tOr, tNot, tAndV, tOrV, tNotV, rU, tUn, tBM0, tBM, rBits, tCall, L2.start, rIxTH, rIxLH, rLenH, rEqTH, rEq, rNe, CMul, CMulB, CDivB, CDivF, CPow, List.map_cons, List.map_nil, List.length_cons, List.length_nil, List.replicate, List.cons_append, List.nil_append, List.set_cons_zero, List.set_cons_succ, List.getElem?_cons_zero, List.getElem?_cons_succ, gSub, rSetL, rCat, iRng1, tPar, iList, tComp, pick, tYes, iZip, gTup, gCons, gNil, rSum, rListH, List.map, iRng2, iRngD, tSl, rSlH, tPart, tNoPart, tPar3, tIf, tRev, tLRange, rIxT, rPopAt, tLRev, rExtend, rClear, rSortI, rMinL, rIn, tTest, rMulS, rJoin, tJRev, tF3]; try simp only [tSeq, tAsg, gName, tTup, tLst, tCons, tNil, tVar, tC, tCB, tOp, rI, rI0, tTest, tIfS, tNext, tRet, tRetN, tDrop, tB, tAnd, tOr, tNot, tAndV, tOrV, tNotV, rU, tUn, tBM0, tBM, rBits, tCall, L2.start, rIxTH, rIxLH, rLenH, rEqTH, rEq, rNe, scal, tyV, CMul, CMulB, CDivB, CDivF, CPow, List.map_cons, List.map_nil, List.length_cons, List.length_nil, List.replicate, List.cons_append, List.nil_append, List.append_nil, List.set_cons_zero, List.set_cons_succ, List.getElem?_cons_zero, List.getElem?_cons_succ, Option.some.injEq, List.cons.injEq, V.int.injEq, V.bl.injEq, V.str.injEq, V.ref.injEq, V.ty.injEq, HO.tup.injEq, HO.lst.injEq, exists_eq_left, exists_eq_left', exists_and_left, and_assoc, and_true, true_and, upd_same, atI_0, atI_1, atI_2, Nat.zero_add, Nat.reduceAdd, Nat.reduceSub, decide_eq_true_eq, Bool.not_eq_true', decide_eq_false_iff_not, reduceCtorEq, false_or, or_false, true_or, or_true, plainT_int, plainT_bool, plainT_tuple, plainT_list, plainT_str, Bool.false_eq_true, if_false, if_true, Bool.not_false, Bool.not_true, Bool.not_not, gSub, rSetL, ixN_00, upd_upd, rCat, iRng1, tFor_eq, tPar, iList, tComp, pick, tYes, iZip, gTup, gCons, gNil, rSum, rListH, List.map, Option.bind, iRng2, iRngD, tSl, rSlH, tPart, tNoPart, tPar3, tIf, tRev, tLRange, rIxT, rPopAt, tLRev, rExtend, rClear, rSortI, rMinL, rIn, tTest, rMulS, rJoin, tJRev, tF3]) | simp only [tSeq, tAsg, gName, tTup, tLst, tCons, tNil, tVar, tC, tCB, tOp, rI, rI0, tTest, tIfS, tNext, tRet, tRetN, tDrop, tB, tAnd, tOr, tNot, tAndV, tOrV, tNotV, rU, tUn, tBM0, tBM, rBits, tCall, L2.start, rIxTH, rIxLH, rLenH, rEqTH, rEq, rNe, scal, tyV, CMul, CMulB, CDivB, CDivF, CPow, List.map_cons, List.map_nil, List.length_cons, List.length_nil, List.replicate, List.cons_append, List.nil_append, List.append_nil, List.set_cons_zero, List.set_cons_succ, List.getElem?_cons_zero, List.getElem?_cons_succ, Option.some.injEq, List.cons.injEq, V.int.injEq, V.bl.injEq, V.str.injEq, V.ref.injEq, V.ty.injEq, HO.tup.injEq, HO.lst.injEq, exists_eq_left, exists_eq_left', exists_and_left, and_assoc, and_true, true_and, upd_same, atI_0, atI_1, atI_2, Nat.zero_add, Nat.reduceAdd, Nat.reduceSub, decide_eq_true_eq, Bool.not_eq_true', decide_eq_false_iff_not, reduceCtorEq, false_or, or_false, true_or, or_true, plainT_int, plainT_bool, plainT_tuple, plainT_list, plainT_str, Bool.false_eq_true, if_false, if_true, Bool.not_false, Bool.not_true, Bool.not_not, gSub, rSetL, ixN_00, upd_upd, rCat, iRng1, tFor_eq, tPar, iList, tComp, pick, tYes, iZip, gTup, gCons, gNil, rSum, rListH, List.map, Option.bind, iRng2, iRngD, tSl, rSlH, tPart, tNoPart, tPar3, tIf, tRev, tLRange, rIxT, rPopAt, tLRev, rExtend, rClear, rSortI, rMinL, rIn, tTest, rMulS, rJoin, tJRev, tF3])
structure Txt (K : PySem.W.Frag) (mg : Str → Option Value) : Prop where
  n_abs : mg "abs" = none
  n_len : mg "len" = none
  n_range : mg "range" = none
  n_list : mg "list" = none
  n_isinstance : mg "isinstance" = none
  n_int : mg "int" = none
  n_str : mg "str" = none
  n_reversed : mg "reversed" = none
variable {P : Program} {w : World} {K : PySem.W.Frag} {mg : Str → Option Value} {base : Heap}
theorem bits_pos {b : Int} (h : b ≠ 0) : Builtin.Int.intBits b = b.natAbs.log2 + 1 := by
  unfold Builtin.Int.intBits
  simp [h]
theorem log_of {g b : Int} (h0 : g ≠ 0) (h1 : g.natAbs ≤ b.natAbs) (hb : Builtin.Int.intBits b ≤ 8000) : g.natAbs.log2 < 9000 := by
  have h := PyProof.Rows.bits_of_natAbs_le (a := g) (b := b) (n := 8000) h1 hb
  rw [bits_pos h0] at h
  omega
abbrev s__law_cell_at : Stmt := PySem.Challenge.pw_rimread_k76_grids_written.main.body.getD 7 (.Pass ⟨0, 0, 0, 0⟩)
theorem sc__law_cell_at : FnScope ["_law_script", "_law_k"] ["_law_script", "_law_k"] (defScope s__law_cell_at) := ⟨rfl, rfl, rfl, by decide +kernel, rfl, by decide +kernel, by decide +kernel⟩
theorem lk__law_cell_at_0 : (defScope s__law_cell_at).names.lookup ("_law_script" : Str) = some PySem.NameKind.local := by decide +kernel
theorem lk__law_cell_at_1 : (defScope s__law_cell_at).names.lookup ("_law_k" : Str) = some PySem.NameKind.local := by decide +kernel
theorem gk__law_cell_at_len : (defScope s__law_cell_at).names.lookup ("len" : Str) = some PySem.NameKind.globalImplicit := by decide +kernel
def sp_cell (K : PySem.W.Frag) : Sp := fun vs H Q _ => ∃ (a : Addr) (ns : List Int) (i : Int), vs = [.ref a, .int i] ∧ SqL K H a (ns.map V.int) ∧ 0 ≤ i ∧ ∀ z, Q (.int z) H
theorem ok__law_cell_at (T : Txt K mg) (F : Fn0 K mg "_law_cell_at" s__law_cell_at) : Cal P w K mg base "_law_cell_at" ["_law_script", "_law_k"] 1 (sp_cell K) := by
  refine cal_of F sc__law_cell_at (fun _ _ _ _ _ _ us hl => match us, hl with | [_, _], _ => rfl) ?len ?body
  case len => rintro vs H Q E ⟨a, b, c, rfl, _⟩; rfl
  case body =>
    intro f cdv A outer s H vs Q E hr h
    obtain ⟨a, ns, i, rfl, hS, h0, k⟩ := h
    refine' ⟨_, ?D, ?R⟩
    case D =>
      refine' pss_cons ?g1 ?g2
      case g1 =>
        refine' ps_if ?g3 ?g4 ?g5
        case g3 =>
          refine' pt_cmpR op_lt ?g6 ?g7 (nomark _)
          case g6 => exact pv1 1 rfl lk__law_cell_at_1
          case g7 =>
            refine' pe_callE call_len_seq gk__law_cell_at_len T.n_len bt_len ?g8
            case g8 =>
              refine' pa_c ?g9 ?g10
              case g9 => exact pv1 0 rfl lk__law_cell_at_0
              case g10 => exact pa_nil
        case g4 =>
          refine' pss_one ?g11
          case g11 =>
            refine' ps_ret ?g12
            case g12 =>
              refine' pe_ix (ix_listK (K := K) rfl) ?g13 ?g14 (fun _ _ => rfl)
              case g13 => exact pv1 0 rfl lk__law_cell_at_0
              case g14 => exact pv1 1 rfl lk__law_cell_at_1
        case g5 => exact pss_nil
      case g2 =>
        refine' pss_one ?g15
        case g15 =>
          refine' ps_ret ?g16
          case g16 => exact pe_int
    case R =>
      walk_at "rd"
      refine ⟨_, .inl hS, ?_⟩
      rw [List.length_map]
      refine ite2 (fun hl => ?_) (fun hl => ?_)
      · refine ⟨a, _, i, V.int (ns.getD i.toNat 0), rfl, rfl, hS, atI_nn h0 ?_, k _⟩
        have : i.toNat < ns.length := by omega
        simp [List.getElem?_map, this, List.getD]
      · exact k 0
abbrev s__law_big : Stmt := PySem.Challenge.pw_rimread_k76_grids_written.main.body.getD 8 (.Pass ⟨0, 0, 0, 0⟩)
theorem sc__law_big : FnScope ["_law_script", "_law_at", "_law_by", "_law_prime", "_law_cell", "_law_big_here", "_law_k", "_law_one"] ["_law_script", "_law_at"] (defScope s__law_big) := ⟨rfl, rfl, rfl, by decide +kernel, rfl, by decide +kernel, by decide +kernel⟩
theorem lk__law_big_0 : (defScope s__law_big).names.lookup ("_law_script" : Str) = some PySem.NameKind.local := by decide +kernel
theorem lk__law_big_1 : (defScope s__law_big).names.lookup ("_law_at" : Str) = some PySem.NameKind.local := by decide +kernel
theorem lk__law_big_2 : (defScope s__law_big).names.lookup ("_law_by" : Str) = some PySem.NameKind.local := by decide +kernel
theorem lk__law_big_3 : (defScope s__law_big).names.lookup ("_law_prime" : Str) = some PySem.NameKind.local := by decide +kernel
theorem lk__law_big_4 : (defScope s__law_big).names.lookup ("_law_cell" : Str) = some PySem.NameKind.local := by decide +kernel
theorem lk__law_big_5 : (defScope s__law_big).names.lookup ("_law_big_here" : Str) = some PySem.NameKind.local := by decide +kernel
theorem lk__law_big_6 : (defScope s__law_big).names.lookup ("_law_k" : Str) = some PySem.NameKind.local := by decide +kernel
theorem lk__law_big_7 : (defScope s__law_big).names.lookup ("_law_one" : Str) = some PySem.NameKind.local := by decide +kernel
theorem gk__law_big__law_cell_at : (defScope s__law_big).names.lookup ("_law_cell_at" : Str) = some PySem.NameKind.globalImplicit := by decide +kernel
theorem gk__law_big_range : (defScope s__law_big).names.lookup ("range" : Str) = some PySem.NameKind.globalImplicit := by decide +kernel
def sp_big (K : PySem.W.Frag) : Sp := fun vs H Q _ => ∃ (a : Addr) (ns : List Int) (j : Int), vs = [.ref a, .int j] ∧ 0 ≤ j ∧ SqL K H a (ns.map V.int) ∧ ∀ z H', Same H H' → Q (.int z) H'
theorem by_at {a0 a1 a2 a3 a4 a5 a6 a7 : Int} (i : Int) (h0 : 0 ≤ i) (h1 : i < 8) (P : Int → Prop) (p0 : P a0) (p1 : P a1) (p2 : P a2) (p3 : P a3) (p4 : P a4) (p5 : P a5) (p6 : P a6) (p7 : P a7) :
    ∃ v, atI [V.int a0, .int a1, .int a2, .int a3, .int a4, .int a5, .int a6, .int a7] i = some (.int v) ∧ P v := by
  have : i = 0 ∨ i = 1 ∨ i = 2 ∨ i = 3 ∨ i = 4 ∨ i = 5 ∨ i = 6 ∨ i = 7 := by omega
  rcases this with rfl | rfl | rfl | rfl | rfl | rfl | rfl | rfl
  · exact ⟨_, rfl, p0⟩
  · exact ⟨_, rfl, p1⟩
  · exact ⟨_, rfl, p2⟩
  · exact ⟨_, rfl, p3⟩
  · exact ⟨_, rfl, p4⟩
  · exact ⟨_, rfl, p5⟩
  · exact ⟨_, rfl, p6⟩
  · exact ⟨_, rfl, p7⟩
theorem ok__law_big (T : Txt K mg) (F : Fn0 K mg "_law_big" s__law_big) (C__law_cell_at : Cal P w K mg base "_law_cell_at" ["_law_script", "_law_k"] 1 (sp_cell K)) : Cal P w K mg base "_law_big" ["_law_script", "_law_at"] 2 (sp_big K) := by
  refine cal_of F sc__law_big (fun _ _ _ _ _ _ us hl => match us, hl with | [_, _], _ => rfl) ?len ?body
  case len => rintro vs H Q E ⟨a, b, c, rfl, _⟩; rfl
  case body =>
    intro f cdv A outer s H vs Q E hr h
    obtain ⟨a, ns, j, rfl, hj, hS, k⟩ := h
    refine' ⟨_, ?D, ?R⟩
    case D =>
      refine' pss_cons ?g1 ?g2
      case g1 =>
        refine' ps_set1 (i := 2) sc__law_big.nd rfl lk__law_big_2 ?g3
        case g3 =>
          refine' pe_tup ?g4
          case g4 =>
            refine' pa_c ?g5 ?g6
            case g5 => exact pe_int
            case g6 =>
              refine' pa_c ?g7 ?g8
              case g7 => exact pe_int
              case g8 =>
                refine' pa_c ?g9 ?g10
                case g9 => exact pe_int
                case g10 =>
                  refine' pa_c ?g11 ?g12
                  case g11 => exact pe_int
                  case g12 =>
                    refine' pa_c ?g13 ?g14
                    case g13 => exact pe_int
                    case g14 =>
                      refine' pa_c ?g15 ?g16
                      case g15 => exact pe_int
                      case g16 =>
                        refine' pa_c ?g17 ?g18
                        case g17 => exact pe_int
                        case g18 =>
                          refine' pa_c ?g19 ?g20
                          case g19 => exact pe_int
                          case g20 => exact pa_nil
      case g2 =>
        refine' pss_cons ?g21 ?g22
        case g21 =>
          refine' ps_set1 (i := 3) sc__law_big.nd rfl lk__law_big_3 ?g23
          case g23 =>
            refine' pe_tup ?g24
            case g24 =>
              refine' pa_c ?g25 ?g26
              case g25 => exact pe_int
              case g26 =>
                refine' pa_c ?g27 ?g28
                case g27 => exact pe_int
                case g28 =>
                  refine' pa_c ?g29 ?g30
                  case g29 => exact pe_int
                  case g30 =>
                    refine' pa_c ?g31 ?g32
                    case g31 => exact pe_int
                    case g32 =>
                      refine' pa_c ?g33 ?g34
                      case g33 => exact pe_int
                      case g34 =>
                        refine' pa_c ?g35 ?g36
                        case g35 => exact pe_int
                        case g36 =>
                          refine' pa_c ?g37 ?g38
                          case g37 => exact pe_int
                          case g38 =>
                            refine' pa_c ?g39 ?g40
                            case g39 => exact pe_int
                            case g40 => exact pa_nil
        case g22 =>
          refine' pss_cons ?g41 ?g42
          case g41 =>
            refine' ps_set1 (i := 4) sc__law_big.nd rfl lk__law_big_4 ?g43
            case g43 =>
              refine' pe_callD C__law_cell_at (hr.mono (by decide)) gk__law_big__law_cell_at ?g44
              case g44 =>
                refine' pa_c ?g45 ?g46
                case g45 => exact pv1 0 rfl lk__law_big_0
                case g46 =>
                  refine' pa_c ?g47 ?g48
                  case g47 => exact pv1 1 rfl lk__law_big_1
                  case g48 => exact pa_nil
          case g42 =>
            refine' pss_cons ?g49 ?g50
            case g49 =>
              refine' ps_if ?g51 ?g52 ?g53
              case g51 =>
                refine' pt_cmpR op_ge ?g54 ?g55 (nomark _)
                case g54 => exact pv1 4 rfl lk__law_big_4
                case g55 =>
                  refine' pe_op op_pow ?g56 ?g57
                  case g56 => exact pe_int
                  case g57 => exact pe_int
              case g52 =>
                refine' pss_one ?g58
                case g58 =>
                  refine' ps_ret ?g59
                  case g59 => exact pv1 4 rfl lk__law_big_4
              case g53 => exact pss_nil
            case g50 =>
              refine' pss_cons ?g60 ?g61
              case g60 =>
                refine' ps_set1 (i := 5) sc__law_big.nd rfl lk__law_big_5 ?g62
                case g62 => exact pe_int
              case g61 =>
                refine' pss_cons ?g63 ?g64
                case g63 =>
                  refine' ps_for PassesOwn.never rfl ?g65 ?g66 ?g67
                  case g65 =>
                    refine' pi_range1 gk__law_big_range T.n_range ?g68
                    case g68 =>
                      refine' pa_c ?g69 ?g70
                      case g69 => exact pe_int
                      case g70 => exact pa_nil
                  case g66 => exact pg_name1 (i := 6) sc__law_big.nd rfl lk__law_big_6
                  case g67 =>
                    refine' pss_cons ?g71 ?g72
                    case g71 =>
                      refine' ps_set1 (i := 7) sc__law_big.nd rfl lk__law_big_7 ?g73
                      case g73 =>
                        refine' pe_op op_add ?g74 ?g75
                        case g74 =>
                          refine' pe_op op_add ?g76 ?g77
                          case g76 =>
                            refine' pe_op op_mod ?g78 ?g79
                            case g78 =>
                              refine' pe_callD C__law_cell_at (hr.mono (by decide)) gk__law_big__law_cell_at ?g80
                              case g80 =>
                                refine' pa_c ?g81 ?g82
                                case g81 => exact pv1 0 rfl lk__law_big_0
                                case g82 =>
                                  refine' pa_c ?g83 ?g84
                                  case g83 =>
                                    refine' pe_op op_add ?g85 ?g86
                                    case g85 => exact pv1 1 rfl lk__law_big_1
                                    case g86 =>
                                      refine' pe_op op_mod ?g87 ?g88
                                      case g87 => exact pv1 6 rfl lk__law_big_6
                                      case g88 => exact pe_int
                                  case g84 => exact pa_nil
                            case g79 =>
                              refine' pe_op op_pow ?g89 ?g90
                              case g89 => exact pe_int
                              case g90 => exact pe_int
                          case g77 => exact pe_int
                        case g75 =>
                          refine' pe_op op_mul ?g91 ?g92
                          case g91 => exact pv1 6 rfl lk__law_big_6
                          case g92 => exact pv1 6 rfl lk__law_big_6
                    case g72 =>
                      refine' pss_one ?g93
                      case g93 =>
                        refine' ps_set1 (i := 5) sc__law_big.nd rfl lk__law_big_5 ?g94
                        case g94 =>
                          refine' pe_op op_add ?g95 ?g96
                          case g95 =>
                            refine' pe_op op_mul ?g97 ?g98
                            case g97 => exact pv1 5 rfl lk__law_big_5
                            case g98 => exact pe_int
                          case g96 =>
                            refine' pe_op op_mod ?g99 ?g100
                            case g99 =>
                              refine' pe_op op_mod ?g101 ?g102
                              case g101 =>
                                refine' pe_op op_mul ?g103 ?g104
                                case g103 => exact pv1 7 rfl lk__law_big_7
                                case g104 =>
                                  refine' pe_ix ix_tupH ?g105 ?g106 (fun _ _ => rfl)
                                  case g105 => exact pv1 2 rfl lk__law_big_2
                                  case g106 =>
                                    refine' pe_op op_mod ?g107 ?g108
                                    case g107 => exact pv1 6 rfl lk__law_big_6
                                    case g108 => exact pe_int
                              case g102 =>
                                refine' pe_ix ix_tupH ?g109 ?g110 (fun _ _ => rfl)
                                case g109 => exact pv1 3 rfl lk__law_big_3
                                case g110 =>
                                  refine' pe_op op_mod ?g111 ?g112
                                  case g111 => exact pv1 6 rfl lk__law_big_6
                                  case g112 => exact pe_int
                            case g100 => exact pe_int
                case g64 =>
                  refine' pss_one ?g113
                  case g113 =>
                    refine' ps_ret ?g114
                    case g114 => exact pv1 5 rfl lk__law_big_5
    case R =>
      walk_at "rd"
      refine ⟨by decide, fun p hp => ⟨by decide, fun q hq => ?_⟩⟩
      generalize e1 : upd H p (HO.tup _) = H1 at hq ⊢
      have s1 : Same H H1 := e1 ▸ Same.new hp
      have p1 : H1 p = some (.tup _) := e1 ▸ upd_same
      generalize e2 : upd H1 q (HO.tup _) = H2
      have s2 : Same H1 H2 := e2 ▸ Same.new hq
      have q2 : H2 q = some (.tup _) := e2 ▸ upd_same
      have p2 := s2 _ _ p1
      have sS : Same H H2 := s1.trans s2
      clear e1 e2
      refine ⟨a, ns, j, rfl, sS.seq hS, hj, fun z => ?_⟩
      walk_at "rd"
      refine ⟨by decide, by decide, by decide, ?_⟩
      refine ite2 (fun _ => k _ _ sS) (fun _ => ⟨by decide, by decide, ?_⟩)
      refine go_range (fun i σ H' => H' = H2 ∧ ∃ (b : Int) (v6 v7 : Option V), σ = [some (V.ref a), some (V.int j), some (V.ref p), some (V.ref q), some (V.int z), some (V.int b), v6, v7]) ⟨rfl, 0, none, none, rfl⟩ ?_ ?_
      · rintro i σ H' hi ⟨rfl, b, v6, v7, rfl⟩
        have hi' : i < 60 := hi
        walk_at "rd"
        have m9 := Int.emod_nonneg (0 + (i : Int)) (show (9 : Int) ≠ 0 by decide)
        refine ⟨by decide, a, ns, _, rfl, sS.seq hS, by omega, fun y => ?_⟩
        walk_at "rd"
        refine ⟨by decide, by decide, by decide, by decide, .inl ⟨by omega, by omega⟩, .inr ⟨by decide, by decide⟩, by decide, ?_⟩
        have m8 := Int.emod_nonneg (0 + (i : Int)) (show (8 : Int) ≠ 0 by decide)
        have l8 := Int.emod_lt_of_pos (0 + (i : Int)) (show (0 : Int) < 8 by decide)
        obtain ⟨v, hv, v0, v1⟩ := by_at (a0 := 48271) (a1 := 69621) (a2 := 16807) (a3 := 39373) (a4 := 21401) (a5 := 60493) (a6 := 87721) (a7 := 31337) ((0 + (i : Int)) % 8) m8 l8 (fun v => 0 < v ∧ v < 100000) (by decide) (by decide) (by decide) (by decide) (by decide) (by decide) (by decide) (by decide)
        obtain ⟨u, hu, u0, u1⟩ := by_at (a0 := 99991) (a1 := 99989) (a2 := 99971) (a3 := 99961) (a4 := 99929) (a5 := 99923) (a6 := 99907) (a7 := 99901) ((0 + (i : Int)) % 8) m8 l8 (fun v => 0 < v ∧ v < 100000) (by decide) (by decide) (by decide) (by decide) (by decide) (by decide) (by decide) (by decide)
        simp only [p2, q2, Option.some.injEq, HO.tup.injEq, exists_eq_left']
        simp only [hv, hu]
        walk_at "rd"
        exact ⟨.inr ⟨by omega, by omega⟩, by decide, u0, by decide, _, rfl⟩
      · rintro σ H' ⟨rfl, b, v6, v7, rfl⟩
        walk_at "rd"
        exact k _ _ sS
def dF (p : Int × Int) : Dt := .tup [.int p.1, .int p.2]
theorem rep_dF {H : Hp} {v : V} {p : Int × Int} (h : Rep H v (dF p)) : ∃ q, v = .ref q ∧ H q = some (.tup [.int p.1, .int p.2]) := by
  obtain ⟨q, xs, e, hq, x, r, e1, hx, y, r', e2, hy, e3⟩ := h
  cases hx
  cases hy
  subst e1 e2 e3
  exact ⟨q, e, hq⟩
abbrev s__law_low : Stmt := PySem.Challenge.pw_rimread_k76_grids_written.main.body.getD 9 (.Pass ⟨0, 0, 0, 0⟩)
theorem sc__law_low : FnScope ["_law_top", "_law_bottom", "_law_one", "_law_other"] ["_law_top", "_law_bottom"] (defScope s__law_low) := ⟨rfl, rfl, rfl, by decide +kernel, rfl, by decide +kernel, by decide +kernel⟩
theorem lk__law_low_0 : (defScope s__law_low).names.lookup ("_law_top" : Str) = some PySem.NameKind.local := by decide +kernel
theorem lk__law_low_1 : (defScope s__law_low).names.lookup ("_law_bottom" : Str) = some PySem.NameKind.local := by decide +kernel
theorem lk__law_low_2 : (defScope s__law_low).names.lookup ("_law_one" : Str) = some PySem.NameKind.local := by decide +kernel
theorem lk__law_low_3 : (defScope s__law_low).names.lookup ("_law_other" : Str) = some PySem.NameKind.local := by decide +kernel
theorem gk__law_low_abs : (defScope s__law_low).names.lookup ("abs" : Str) = some PySem.NameKind.globalImplicit := by decide +kernel
def sp_low : Sp := fun vs H Q _ => ∃ t b : Int, vs = [.int t, .int b] ∧ 0 < b ∧ Builtin.Int.intBits b ≤ 8000 ∧ ∀ p H', Same H H' → Rep (newH H H') (.ref p) (dF (nf t b)) → Q (.ref p) H'
theorem ok__law_low (T : Txt K mg) (F : Fn0 K mg "_law_low" s__law_low) : Cal P w K mg base "_law_low" ["_law_top", "_law_bottom"] 1 sp_low := by
  refine cal_of F sc__law_low (fun _ _ _ _ _ _ us hl => match us, hl with | [_, _], _ => rfl) ?len ?body
  case len => rintro vs H Q E ⟨a, b, rfl, _⟩; rfl
  case body =>
    intro f cdv A outer s H vs Q E hr h
    obtain ⟨a, b, rfl, hb, lb, k⟩ := h
    refine' ⟨_, ?D, ?R⟩
    case D =>
      refine' pss_cons ?g1 ?g2
      case g1 =>
        refine' ps_par (i := 2) (j := 3) rfl sc__law_low.nd rfl rfl (by decide) lk__law_low_2 lk__law_low_3 ?g3 rfl
        case g3 =>
          refine' pa_c ?g4 ?g5
          case g4 =>
            refine' pe_callE call_abs gk__law_low_abs T.n_abs bt_abs ?g6
            case g6 =>
              refine' pa_c ?g7 ?g8
              case g7 => exact pv1 0 rfl lk__law_low_0
              case g8 => exact pa_nil
          case g5 =>
            refine' pa_c ?g9 ?g10
            case g9 => exact pv1 1 rfl lk__law_low_1
            case g10 => exact pa_nil
      case g2 =>
        refine' pss_cons ?g11 ?g12
        case g11 =>
          refine' ps_while PassesOwn.never ?g13 ?g14
          case g13 =>
            refine' pt_cmpR op_gt ?g15 ?g16 (nomark _)
            case g15 => exact pv1 3 rfl lk__law_low_3
            case g16 => exact pe_int
          case g14 =>
            refine' pss_one ?g17
            case g17 =>
              refine' ps_par (i := 2) (j := 3) rfl sc__law_low.nd rfl rfl (by decide) lk__law_low_2 lk__law_low_3 ?g18 rfl
              case g18 =>
                refine' pa_c ?g19 ?g20
                case g19 => exact pv1 3 rfl lk__law_low_3
                case g20 =>
                  refine' pa_c ?g21 ?g22
                  case g21 =>
                    refine' pe_op op_mod ?g23 ?g24
                    case g23 => exact pv1 2 rfl lk__law_low_2
                    case g24 => exact pv1 3 rfl lk__law_low_3
                  case g22 => exact pa_nil
        case g12 =>
          refine' pss_one ?g25
          case g25 =>
            refine' ps_ret ?g26
            case g26 =>
              refine' pe_tup ?g27
              case g27 =>
                refine' pa_c ?g28 ?g29
                case g28 =>
                  refine' pe_op op_fdivB ?g30 ?g31
                  case g30 => exact pv1 0 rfl lk__law_low_0
                  case g31 => exact pv1 2 rfl lk__law_low_2
                case g29 =>
                  refine' pa_c ?g32 ?g33
                  case g32 =>
                    refine' pe_op op_fdivB ?g34 ?g35
                    case g34 => exact pv1 1 rfl lk__law_low_1
                    case g35 => exact pv1 2 rfl lk__law_low_2
                  case g33 => exact pa_nil
    case R =>
      walk_at "rd"
      refine while_W (fun σ H1 => ∃ (x y : Int), σ = [some (.int a), some (.int b), some (.int x), some (.int y)] ∧ H1 = H ∧ 0 ≤ x ∧ 0 ≤ y ∧ Int.gcd x y = Int.gcd a b)
        (fun σ _ => match σ with | [_, _, _, some (.int y)] => y.toNat | _ => 0) ?_ ?_
      · refine ⟨_, _, rfl, rfl, ?_, by omega, ?_⟩
        · split <;> omega
        · split
          · rw [Int.neg_gcd]
          · rfl
      · rintro σ H1 ⟨x, y, rfl, rfl, hx, hy, e⟩
        walk_at "rd"
        refine ite2 (fun hne => ?_) (fun he => ?_)
        · refine ⟨_, N_ok, ?_⟩
          walk_at "rd"
          have h1 := Int.emod_nonneg x (show y ≠ 0 by omega)
          have h2 := Int.emod_lt_of_pos x hne
          exact ⟨hne, hy, h1, (gcd_step hx hne).trans e, by omega⟩
        · have hy0 : y = 0 := by omega
          have hx' : x = (Int.gcd a b : Nat) := by
            rw [← e, hy0, Int.gcd_zero_right]; omega
          have g0 := gpos (t := a) (b := b) (by omega)
          have hl := log_of (g := (Int.gcd a b : Int)) (b := b) (by omega) (Nat.le_of_dvd (by omega) (Int.natAbs_dvd_natAbs.mpr (Int.gcd_dvd_right ..))) lb
          subst hx'
          refine ⟨g0, hl, g0, hl, by decide, fun p hp => k p _ (Same.new hp) ⟨p, _, rfl, ?_, _, _, rfl, rfl, _, _, rfl, rfl, rfl⟩⟩
          rw [newH_at hp, upd_same, nf_pos hb]
abbrev s__law_worth_of : Stmt := PySem.Challenge.pw_rimread_k76_grids_written.main.body.getD 10 (.Pass ⟨0, 0, 0, 0⟩)
theorem sc__law_worth_of : FnScope ["_law_big_here", "_law_bottom", "_law_top"] ["_law_big_here"] (defScope s__law_worth_of) := ⟨rfl, rfl, rfl, by decide +kernel, rfl, by decide +kernel, by decide +kernel⟩
theorem lk__law_worth_of_0 : (defScope s__law_worth_of).names.lookup ("_law_big_here" : Str) = some PySem.NameKind.local := by decide +kernel
theorem lk__law_worth_of_1 : (defScope s__law_worth_of).names.lookup ("_law_bottom" : Str) = some PySem.NameKind.local := by decide +kernel
theorem lk__law_worth_of_2 : (defScope s__law_worth_of).names.lookup ("_law_top" : Str) = some PySem.NameKind.local := by decide +kernel
theorem gk__law_worth_of__law_low : (defScope s__law_worth_of).names.lookup ("_law_low" : Str) = some PySem.NameKind.globalImplicit := by decide +kernel
def sp_worth : Sp := fun vs H Q _ => ∃ z : Int, vs = [.int z] ∧ ∀ (p q : Addr) H' (t b y : Int), Same H H' → H p = none → H q = none → 0 < t → t ≤ 1000 → 0 < b → b ≤ 1000 → H' p = some (.tup [.ref q, .int y]) → H' q = some (.tup [.int (nf t b).1, .int (nf t b).2]) → Q (.ref p) H'
theorem ok__law_worth_of (T : Txt K mg) (F : Fn0 K mg "_law_worth_of" s__law_worth_of) (C__law_low : Cal P w K mg base "_law_low" ["_law_top", "_law_bottom"] 1 sp_low) : Cal P w K mg base "_law_worth_of" ["_law_big_here"] 2 sp_worth := by
  refine cal_of F sc__law_worth_of (fun _ _ _ _ _ _ us hl => match us, hl with | [_], _ => rfl) ?len ?body
  case len => rintro vs H Q E ⟨a, rfl, _⟩; rfl
  case body =>
    intro f cdv A outer s H vs Q E hr h
    obtain ⟨z, rfl, k⟩ := h
    refine' ⟨_, ?D, ?R⟩
    case D =>
      refine' pss_cons ?g1 ?g2
      case g1 =>
        refine' ps_set1 (i := 1) sc__law_worth_of.nd rfl lk__law_worth_of_1 ?g3
        case g3 =>
          refine' pe_op op_add ?g4 ?g5
          case g4 => exact pe_int
          case g5 =>
            refine' pe_op op_mod ?g6 ?g7
            case g6 => exact pv1 0 rfl lk__law_worth_of_0
            case g7 => exact pe_int
      case g2 =>
        refine' pss_cons ?g8 ?g9
        case g8 =>
          refine' ps_cut ?g10
          case g10 =>
            refine' ps_if ?g11 ?g12 ?g13
            case g11 =>
              refine' pt_cmpR op_eq ?g14 ?g15 (nomark _)
              case g14 =>
                refine' pe_op op_mod ?g16 ?g17
                case g16 =>
                  refine' pe_op op_fdivB ?g18 ?g19
                  case g18 => exact pv1 0 rfl lk__law_worth_of_0
                  case g19 => exact pe_int
                case g17 => exact pe_int
              case g15 => exact pe_int
            case g12 =>
              refine' pss_one ?g20
              case g20 =>
                refine' ps_set1 (i := 1) sc__law_worth_of.nd rfl lk__law_worth_of_1 ?g21
                case g21 =>
                  refine' pe_op op_add ?g22 ?g23
                  case g22 => exact pe_int
                  case g23 =>
                    refine' pe_op op_mod ?g24 ?g25
                    case g24 =>
                      refine' pe_op op_fdivB ?g26 ?g27
                      case g26 => exact pv1 0 rfl lk__law_worth_of_0
                      case g27 => exact pe_int
                    case g25 => exact pe_int
            case g13 => exact pss_nil
        case g9 =>
          refine' pss_cons ?g28 ?g29
          case g28 =>
            refine' ps_cut ?g30
            case g30 =>
              refine' ps_if ?g31 ?g32 ?g33
              case g31 =>
                refine' pt_cmpR op_eq ?g34 ?g35 (nomark _)
                case g34 =>
                  refine' pe_op op_mod ?g36 ?g37
                  case g36 =>
                    refine' pe_op op_fdivB ?g38 ?g39
                    case g38 => exact pv1 0 rfl lk__law_worth_of_0
                    case g39 => exact pe_int
                  case g37 => exact pe_int
                case g35 => exact pe_int
              case g32 =>
                refine' pss_one ?g40
                case g40 =>
                  refine' ps_set1 (i := 1) sc__law_worth_of.nd rfl lk__law_worth_of_1 ?g41
                  case g41 =>
                    refine' pe_op op_add ?g42 ?g43
                    case g42 => exact pe_int
                    case g43 =>
                      refine' pe_op op_mod ?g44 ?g45
                      case g44 =>
                        refine' pe_op op_fdivB ?g46 ?g47
                        case g46 => exact pv1 0 rfl lk__law_worth_of_0
                        case g47 => exact pe_int
                      case g45 => exact pe_int
              case g33 => exact pss_nil
          case g29 =>
            refine' pss_cons ?g48 ?g49
            case g48 =>
              refine' ps_set1 (i := 0) sc__law_worth_of.nd rfl lk__law_worth_of_0 ?g50
              case g50 =>
                refine' pe_op op_fdivB ?g51 ?g52
                case g51 => exact pv1 0 rfl lk__law_worth_of_0
                case g52 => exact pe_int
            case g49 =>
              refine' pss_cons ?g53 ?g54
              case g53 =>
                refine' ps_set1 (i := 2) sc__law_worth_of.nd rfl lk__law_worth_of_2 ?g55
                case g55 =>
                  refine' pe_op op_add ?g56 ?g57
                  case g56 => exact pe_int
                  case g57 =>
                    refine' pe_op op_mod ?g58 ?g59
                    case g58 => exact pv1 0 rfl lk__law_worth_of_0
                    case g59 => exact pe_int
              case g54 =>
                refine' pss_cons ?g60 ?g61
                case g60 =>
                  refine' ps_cut ?g62
                  case g62 =>
                    refine' ps_if ?g63 ?g64 ?g65
                    case g63 =>
                      refine' pt_cmpR op_eq ?g66 ?g67 (nomark _)
                      case g66 =>
                        refine' pe_op op_mod ?g68 ?g69
                        case g68 =>
                          refine' pe_op op_fdivB ?g70 ?g71
                          case g70 => exact pv1 0 rfl lk__law_worth_of_0
                          case g71 => exact pe_int
                        case g69 => exact pe_int
                      case g67 => exact pe_int
                    case g64 =>
                      refine' pss_one ?g72
                      case g72 =>
                        refine' ps_set1 (i := 2) sc__law_worth_of.nd rfl lk__law_worth_of_2 ?g73
                        case g73 =>
                          refine' pe_op op_add ?g74 ?g75
                          case g74 => exact pe_int
                          case g75 =>
                            refine' pe_op op_mod ?g76 ?g77
                            case g76 =>
                              refine' pe_op op_fdivB ?g78 ?g79
                              case g78 => exact pv1 0 rfl lk__law_worth_of_0
                              case g79 => exact pe_int
                            case g77 => exact pe_int
                    case g65 => exact pss_nil
                case g61 =>
                  refine' pss_cons ?g80 ?g81
                  case g80 =>
                    refine' ps_cut ?g82
                    case g82 =>
                      refine' ps_if ?g83 ?g84 ?g85
                      case g83 =>
                        refine' pt_cmpR op_eq ?g86 ?g87 (nomark _)
                        case g86 =>
                          refine' pe_op op_mod ?g88 ?g89
                          case g88 =>
                            refine' pe_op op_fdivB ?g90 ?g91
                            case g90 => exact pv1 0 rfl lk__law_worth_of_0
                            case g91 => exact pe_int
                          case g89 => exact pe_int
                        case g87 => exact pe_int
                      case g84 =>
                        refine' pss_one ?g92
                        case g92 =>
                          refine' ps_set1 (i := 2) sc__law_worth_of.nd rfl lk__law_worth_of_2 ?g93
                          case g93 =>
                            refine' pe_op op_add ?g94 ?g95
                            case g94 => exact pe_int
                            case g95 =>
                              refine' pe_op op_mod ?g96 ?g97
                              case g96 =>
                                refine' pe_op op_fdivB ?g98 ?g99
                                case g98 => exact pv1 0 rfl lk__law_worth_of_0
                                case g99 => exact pe_int
                              case g97 => exact pe_int
                      case g85 => exact pss_nil
                  case g81 =>
                    refine' pss_one ?g100
                    case g100 =>
                      refine' ps_ret ?g101
                      case g101 =>
                        refine' pe_tup ?g102
                        case g102 =>
                          refine' pa_c ?g103 ?g104
                          case g103 =>
                            refine' pe_callD C__law_low (hr.mono (by decide)) gk__law_worth_of__law_low ?g105
                            case g105 =>
                              refine' pa_c ?g106 ?g107
                              case g106 => exact pv1 2 rfl lk__law_worth_of_2
                              case g107 =>
                                refine' pa_c ?g108 ?g109
                                case g108 => exact pv1 1 rfl lk__law_worth_of_1
                                case g109 => exact pa_nil
                          case g104 =>
                            refine' pa_c ?g110 ?g111
                            case g110 =>
                              refine' pe_op op_fdivB ?g112 ?g113
                              case g112 => exact pv1 0 rfl lk__law_worth_of_0
                              case g113 => exact pe_int
                            case g111 => exact pa_nil
    case R =>
      walk_at "rd"
      refine ⟨by decide, fun σ H1 => ∃ b : Int, σ = [some (.int z), some (.int b), none] ∧ H = H1 ∧ 0 < b ∧ b ≤ 1000, ?_, ?_⟩
      · walk_at "rd"
        refine ⟨by decide, by decide, by decide, ite2 (fun _ => ?_) (fun _ => ?_)⟩
        · have := Int.emod_nonneg (z / 12) (show (12 : Int) ≠ 0 by decide)
          have := Int.emod_lt_of_pos (z / 12) (show (0 : Int) < 12 by decide)
          exact ⟨by decide, by decide, by decide, by omega, by omega⟩
        · have := Int.emod_nonneg z (show (3 : Int) ≠ 0 by decide)
          have := Int.emod_lt_of_pos z (show (0 : Int) < 3 by decide)
          omega
      rintro σ H1 ⟨b, rfl, rfl, b0, b1⟩
      walk_at "rd"
      refine ⟨fun σ H1 => ∃ b : Int, σ = [some (.int z), some (.int b), none] ∧ H = H1 ∧ 0 < b ∧ b ≤ 1000, ?_, ?_⟩
      · walk_at "rd"
        refine ⟨by decide, by decide, by decide, ite2 (fun _ => ?_) (fun _ => ⟨b0, b1⟩)⟩
        have := Int.emod_nonneg (z / 48) (show (1000 : Int) ≠ 0 by decide)
        have := Int.emod_lt_of_pos (z / 48) (show (0 : Int) < 1000 by decide)
        exact ⟨by decide, by decide, by decide, by omega, by omega⟩
      clear b0 b1 b
      rintro σ H1 ⟨b, rfl, rfl, b0, b1⟩
      walk_at "rd"
      refine ⟨by decide, by decide, by decide, ?_⟩
      generalize z / 48000 = y
      refine ⟨fun σ H1 => ∃ t : Int, σ = [some (.int y), some (.int b), some (.int t)] ∧ H = H1 ∧ 0 < t ∧ t ≤ 1000, ?_, ?_⟩
      · walk_at "rd"
        refine ⟨by decide, by decide, by decide, ite2 (fun _ => ?_) (fun _ => ?_)⟩
        · have := Int.emod_nonneg (y / 20) (show (12 : Int) ≠ 0 by decide)
          have := Int.emod_lt_of_pos (y / 20) (show (0 : Int) < 12 by decide)
          exact ⟨by decide, by decide, by decide, by omega, by omega⟩
        · have := Int.emod_nonneg y (show (5 : Int) ≠ 0 by decide)
          have := Int.emod_lt_of_pos y (show (0 : Int) < 5 by decide)
          omega
      rintro σ H1 ⟨t, rfl, rfl, t0, t1⟩
      walk_at "rd"
      refine ⟨fun σ H1 => ∃ t : Int, σ = [some (.int y), some (.int b), some (.int t)] ∧ H = H1 ∧ 0 < t ∧ t ≤ 1000, ?_, ?_⟩
      · walk_at "rd"
        refine ⟨by decide, by decide, by decide, ite2 (fun _ => ?_) (fun _ => ⟨t0, t1⟩)⟩
        have := Int.emod_nonneg (y / 80) (show (1000 : Int) ≠ 0 by decide)
        have := Int.emod_lt_of_pos (y / 80) (show (0 : Int) < 1000 by decide)
        exact ⟨by decide, by decide, by decide, by omega, by omega⟩
      clear t0 t1 t
      rintro σ H1 ⟨t, rfl, rfl, t0, t1⟩
      walk_at "rd"
      refine ⟨t, b, rfl, b0, PyProof.Rows.bits_of_natAbs_le (b := 1000) (by omega) (by decide), fun q H1 s1 r1 => ?_⟩
      walk_at "rd"
      obtain ⟨q', eq, hq⟩ := rep_dF r1
      cases eq
      obtain ⟨q0, q1⟩ := newH_of hq
      refine ⟨by decide, by decide, by decide, fun p hp => k p q _ t b (y / 80000) (s1.trans (Same.new hp)) (s1.free hp) q0 t0 t1 b0 b1 upd_same (Same.new hp _ _ q1)⟩
end Rim76
set_option Elab.async false
set_option linter.all false
set_option maxRecDepth 100000
set_option maxHeartbeats 4000000
namespace Rim76
open PySem PySem.Spec PyProof.Rows L2 RimM
local macro_rules | `(tactic| walk_at "rd") => `(tactic| first | (dsimp only [tSeq, tAsg, gName, tTup, tLst, tCons, tNil, tVar, tC, tCB, tOp, rI, rI0, tTest, tIfS, tNext, tRet, tRetN, tDrop, tB, tAnd, tOr, tNot, tAndV, tOrV, tNotV, rU, tUn, tBM0, tBM, rBits, tCall, L2.start, rIxTH, rIxLH, rLenH, rEqTH, rEq, rNe, CMul, CMulB, CDivB, CDivF, CPow, List.map_cons, List.map_nil, List.length_cons, List.length_nil, List.replicate, List.cons_append, List.nil_append, List.set_cons_zero, List.set_cons_succ, List.getElem?_cons_zero, List.getElem?_cons_succ, gSub, rSetL, rCat, iRng1, tPar, iList, tComp, pick, tYes, iZip, gTup, gCons, gNil, rSum, rListH, List.map, iRng2, iRngD, tSl, rSlH, tPart, tNoPart, tPar3, tIf, tRev, tLRange, rIxT, rPopAt, tLRev, rExtend, rClear, rSortI, rMinL, rIn, tTest, rMulS, rJoin, tJRev, tF3]; try simp only [tSeq, tAsg, gName, tTup, tLst, tCons, tNil, tVar, tC, tCB, tOp, rI, rI0, tTest, tIfS, tNext, tRet, tRetN, tDrop, tB, tAnd, tOr, tNot, tAndV, tOrV, tNotV, rU, tUn, tBM0, tBM, rBits, tCall, L2.start, rIxTH, rIxLH, rLenH, rEqTH, rEq, rNe, scal, tyV, CMul, CMulB, CDivB, CDivF, CPow, List.map_cons, List.map_nil, List.length_cons, List.length_nil, List.replicate, List.cons_append, List.nil_append, List.append_nil, List.set_cons_zero, List.set_cons_succ, List.getElem?_cons_zero, List.getElem?_cons_succ, Option.some.injEq, List.cons.injEq, V.int.injEq, V.bl.injEq, V.str.injEq, V.ref.injEq, V.ty.injEq, HO.tup.injEq, HO.lst.injEq, exists_eq_left, exists_eq_left', exists_and_left, and_assoc, and_true, true_and, upd_same, atI_0, atI_1, atI_2, Nat.zero_add, Nat.reduceAdd, Nat.reduceSub, decide_eq_true_eq, Bool.not_eq_true', decide_eq_false_iff_not, reduceCtorEq, false_or, or_false, true_or, or_true, plainT_int, plainT_bool, plainT_tuple, plainT_list, plainT_str, Bool.false_eq_true, if_false, if_true, Bool.not_false, Bool.not_true, Bool.not_not, gSub, rSetL, ixN_00, upd_upd, rCat, iRng1, tFor_eq, tPar, iList, tComp, pick, tYes, iZip, gTup, gCons, gNil, rSum, rListH, List.map, Option.bind, iRng2, iRngD, tSl, rSlH, tPart, tNoPart, tPar3, tIf, tRev, tLRange, rIxT, rPopAt, tLRev, rExtend, rClear, rSortI, rMinL, rIn, tTest, rMulS, rJoin, tJRev, tF3]) | simp only [tSeq, tAsg, gName, tTup, tLst, tCons, tNil, tVar, tC, tCB, tOp, rI, rI0, tTest, tIfS, tNext, tRet, tRetN, tDrop, tB, tAnd, tOr, tNot, tAndV, tOrV, tNotV, rU, tUn, tBM0, tBM, rBits, tCall, L2.start, rIxTH, rIxLH, rLenH, rEqTH, rEq, rNe, scal, tyV, CMul, CMulB, CDivB, CDivF, CPow, List.map_cons, List.map_nil, List.length_cons, List.length_nil, List.replicate, List.cons_append, List.nil_append, List.append_nil, List.set_cons_zero, List.set_cons_succ, List.getElem?_cons_zero, List.getElem?_cons_succ, Option.some.injEq, List.cons.injEq, V.int.injEq, V.bl.injEq, V.str.injEq, V.ref.injEq, V.ty.injEq, HO.tup.injEq, HO.lst.injEq, exists_eq_left, exists_eq_left', exists_and_left, and_assoc, and_true, true_and, upd_same, atI_0, atI_1, atI_2, Nat.zero_add, Nat.reduceAdd, Nat.reduceSub, decide_eq_true_eq, Bool.not_eq_true', decide_eq_false_iff_not, reduceCtorEq, false_or, or_false, true_or, or_true, plainT_int, plainT_bool, plainT_tuple, plainT_list, plainT_str, Bool.false_eq_true, if_false, if_true, Bool.not_false, Bool.not_true, Bool.not_not, gSub, rSetL, ixN_00, upd_upd, rCat, iRng1, tFor_eq, tPar, iList, tComp, pick, tYes, iZip, gTup, gCons, gNil, rSum, rListH, List.map, Option.bind, iRng2, iRngD, tSl, rSlH, tPart, tNoPart, tPar3, tIf, tRev, tLRange, rIxT, rPopAt, tLRev, rExtend, rClear, rSortI, rMinL, rIn, tTest, rMulS, rJoin, tJRev, tF3])
variable {P : Program} {w : World} {K : PySem.W.Frag} {mg : Str → Option Value} {base : Heap}
def tx (n : Int) : Str := Str.ofString (toString n)
theorem ofString_app (a b : String) : Str.ofString (a ++ b) = Str.ofString a ++ Str.ofString b := by
  rw [Str.ofString_eq_toList, Str.ofString_eq_toList, Str.ofString_eq_toList]
  show _ = (⟨(a.toList.map Char.toNat).toArray ++ (b.toList.map Char.toNat).toArray⟩ : Str)
  rw [String.toList_append, List.map_append, List.append_toArray]
theorem tx_neg {n : Int} (h : n < 0) : tx n = Str.ofString "-" ++ tx (-n) := by
  obtain ⟨m, rfl⟩ := Int.eq_negSucc_of_lt_zero h
  show Str.ofString ("-" ++ Nat.repr (m + 1)) = Str.ofString "-" ++ Str.ofString (toString (((m + 1 : Nat) : Int)))
  rw [ofString_app]
  rfl
theorem tx_len {n : Int} {k : Nat} (hk : 0 < k) (h : n.natAbs < 10 ^ k) : (tx n).length ≤ k + 1 := by
  unfold tx
  rw [PySem.ofString_length]
  exact int_text_length_le10 hk h
theorem app_nil (i : Str) : i ++ Str.empty = i := by
  show (⟨i.cps ++ #[]⟩ : Str) = i
  rw [Array.append_empty]
theorem app_assoc (i j k : Str) : i ++ j ++ k = i ++ (j ++ k) := by
  show (⟨i.cps ++ j.cps ++ k.cps⟩ : Str) = ⟨i.cps ++ (j.cps ++ k.cps)⟩
  rw [Array.append_assoc]
theorem join_eq (sep : Str) (xs : List Str) : Txt.join sep xs = Str.join sep xs := StrLaws.glued_eq_join sep xs
theorem join_one (sep x : Str) : Txt.join sep [x] = x := by rw [join_eq]; rfl
theorem join_snoc (sep y : Str) : ∀ (xs : List Str), xs ≠ [] → Txt.join sep (xs ++ [y]) = Txt.join sep xs ++ sep ++ y
  | [], h => absurd rfl h
  | [x], _ => by rw [join_eq, join_eq]; rfl
  | x :: z :: xs, _ => by
    have := join_snoc sep y (z :: xs) (by simp)
    rw [join_eq, join_eq] at this ⊢
    show x ++ sep ++ Str.join sep ((z :: xs) ++ [y]) = x ++ sep ++ Str.join sep (z :: xs) ++ sep ++ y
    rw [this]
    simp only [app_assoc]
def fr (p : Int × Int) : Str := tx p.1 ++ Str.ofString "/" ++ tx p.2
def rowT (r : List (Int × Int)) : Str := Txt.join (Str.ofString " ") (r.map fr)
def gridT (g : List (List (Int × Int))) : Str := Txt.join (Str.ofString "\n") (g.map rowT)
def Bd (p : Int × Int) : Prop := p.1.natAbs < 10 ^ 64 ∧ p.2.natAbs < 10 ^ 64
theorem fr_len {p : Int × Int} (h : Bd p) : (fr p).length ≤ 131 := by
  have h1 := tx_len (k := 64) (by decide) h.1
  have h2 := tx_len (k := 64) (by decide) h.2
  unfold fr
  rw [len_app, len_app]
  have : (Str.ofString "/").length = 1 := by decide +kernel
  omega
theorem join_ok {sep : Str} {xs : List Str} {B : Nat} (hB : ∀ y ∈ xs, y.length ≤ B) (hs : sep.length ≤ 1) (h : xs.length * B + xs.length ≤ 100000) : JoinOk sep xs = true ∧ (Txt.join sep xs).length ≤ xs.length * B + xs.length := by
  have hm : xs.length * sep.length ≤ xs.length := by
    calc xs.length * sep.length ≤ xs.length * 1 := Nat.mul_le_mul_left _ hs
      _ = xs.length := Nat.mul_one _
  constructor
  · unfold JoinOk
    rw [StrLaws.joinFits hB (by omega)]
    rfl
  · rw [join_eq]
    have h1 := StrLaws.join_length_le sep xs
    have h2 := StrLaws.sumLen_le xs hB
    omega
theorem row_ok {r : List (Int × Int)} (h : ∀ p ∈ r, Bd p) (hl : r.length ≤ 7) : JoinOk (Str.ofString " ") (r.map fr) = true ∧ (rowT r).length ≤ 1000 := by
  have := join_ok (sep := Str.ofString " ") (xs := r.map fr) (B := 131) (fun y hy => by obtain ⟨p, hp, rfl⟩ := List.mem_map.mp hy; exact fr_len (h p hp)) (by decide +kernel) (by rw [List.length_map]; omega)
  rw [List.length_map] at this
  exact ⟨this.1, Nat.le_trans this.2 (by omega)⟩
theorem grid_ok {g : List (List (Int × Int))} (h : ∀ r ∈ g, (∀ p ∈ r, Bd p) ∧ r.length ≤ 7) (hl : g.length ≤ 6) : JoinOk (Str.ofString "\n") (g.map rowT) = true ∧ (gridT g).length ≤ 10000 := by
  have := join_ok (sep := Str.ofString "\n") (xs := g.map rowT) (B := 1000) (fun y hy => by obtain ⟨p, hp, rfl⟩ := List.mem_map.mp hy; exact (row_ok (h p hp).1 (h p hp).2).2) (by decide +kernel) (by rw [List.length_map]; omega)
  rw [List.length_map] at this
  exact ⟨this.1, Nat.le_trans this.2 (by omega)⟩
theorem log_small {m : Int} (h : m.natAbs < 10 ^ 64) : m.natAbs.log2 < 1920 := by
  by_cases h0 : m.natAbs = 0
  · rw [h0]; decide
  · rw [Nat.log2_lt h0]
    exact Nat.lt_of_lt_of_le h (by decide +kernel)
theorem join_no (x y : Str) : Txt.join (Str.ofString "") [x, y] = x ++ y := by
  rw [join_eq]
  show x ++ Str.ofString "" ++ y = x ++ y
  have e : Str.ofString "" = Str.empty := by decide +kernel
  rw [e, app_nil]
abbrev s_whole_shown : Stmt := PySem.Challenge.pw_rimread_k76_grids_written.main.body.getD 2 (.Pass ⟨0, 0, 0, 0⟩)
theorem sc_whole_shown : FnScope ["number", "block", "blocks", "left"] ["number"] (defScope s_whole_shown) := ⟨rfl, rfl, rfl, by decide +kernel, rfl, by decide +kernel, by decide +kernel⟩
theorem lk_whole_shown_0 : (defScope s_whole_shown).names.lookup ("number" : Str) = some PySem.NameKind.local := by decide +kernel
theorem lk_whole_shown_1 : (defScope s_whole_shown).names.lookup ("block" : Str) = some PySem.NameKind.local := by decide +kernel
theorem lk_whole_shown_2 : (defScope s_whole_shown).names.lookup ("blocks" : Str) = some PySem.NameKind.local := by decide +kernel
theorem lk_whole_shown_3 : (defScope s_whole_shown).names.lookup ("left" : Str) = some PySem.NameKind.local := by decide +kernel
theorem gk_whole_shown_abs : (defScope s_whole_shown).names.lookup ("abs" : Str) = some PySem.NameKind.globalImplicit := by decide +kernel
theorem gk_whole_shown_reversed : (defScope s_whole_shown).names.lookup ("reversed" : Str) = some PySem.NameKind.globalImplicit := by decide +kernel
theorem gk_whole_shown_str : (defScope s_whole_shown).names.lookup ("str" : Str) = some PySem.NameKind.globalImplicit := by decide +kernel
def sp_whole : Sp := fun vs H Q _ => ∃ n : Int, vs = [.int n] ∧ n.natAbs < 10 ^ 64 ∧ ∀ H', Same H H' → Q (.str (tx n)) H'
theorem ok_whole_shown (T : Txt K mg) (F : Fn0 K mg "whole_shown" s_whole_shown) : Cal P w K mg base "whole_shown" ["number"] 1 sp_whole := by
  refine cal_of F sc_whole_shown (fun _ _ _ _ _ _ us hl => match us, hl with | [_], _ => rfl) ?len ?body
  case len => rintro vs H Q E ⟨a, rfl, _⟩; rfl
  case body =>
    intro f cdv A outer s H vs Q E hr h
    obtain ⟨n, rfl, hn, k⟩ := h
    refine' ⟨_, ?D, ?R⟩
    case D =>
      refine' pss_cons ?g1 ?g2
      case g1 =>
        refine' ps_set1 (i := 1) sc_whole_shown.nd rfl lk_whole_shown_1 ?g3
        case g3 =>
          refine' pe_op op_pow ?g4 ?g5
          case g4 => exact pe_int
          case g5 => exact pe_int
      case g2 =>
        refine' pss_cons ?g6 ?g7
        case g6 =>
          refine' ps_set1 (i := 2) sc_whole_shown.nd rfl lk_whole_shown_2 ?g8
          case g8 =>
            refine' pe_lst ?g9
            case g9 => exact pa_nil
        case g7 =>
          refine' pss_cons ?g10 ?g11
          case g10 =>
            refine' ps_set1 (i := 3) sc_whole_shown.nd rfl lk_whole_shown_3 ?g12
            case g12 =>
              refine' pe_callE call_abs gk_whole_shown_abs T.n_abs bt_abs ?g13
              case g13 =>
                refine' pa_c ?g14 ?g15
                case g14 => exact pv1 0 rfl lk_whole_shown_0
                case g15 => exact pa_nil
          case g11 =>
            refine' pss_cons ?g16 ?g17
            case g16 =>
              refine' ps_while PassesOwn.never ?g18 ?g19
              case g18 =>
                refine' pt_cmpR op_ge ?g20 ?g21 (nomark _)
                case g20 => exact pv1 3 rfl lk_whole_shown_3
                case g21 => exact pv1 1 rfl lk_whole_shown_1
              case g19 => exact pss_never
            case g17 =>
              refine' pss_cons ?g22 ?g23
              case g22 =>
                refine' ps_expr1 ?g24
                case g24 =>
                  refine' pe_bm PySem.F.plainAttrs_list PySem.F.slot_list_append PySem.F.type_list_append mt_append ?g25 ?g26
                  case g25 => exact pv1 2 rfl lk_whole_shown_2
                  case g26 =>
                    refine' pa_c ?g27 ?g28
                    case g27 =>
                      refine' pe_callT call_str_int gk_whole_shown_str T.n_str bt_str ?g29
                      case g29 =>
                        refine' pa_c ?g30 ?g31
                        case g30 => exact pv1 3 rfl lk_whole_shown_3
                        case g31 => exact pa_nil
                    case g28 => exact pa_nil
              case g23 =>
                refine' pss_cons ?g32 ?g33
                case g32 =>
                  refine' ps_if ?g34 ?g35 ?g36
                  case g34 =>
                    refine' pt_cmpR op_lt ?g37 ?g38 (nomark _)
                    case g37 => exact pv1 0 rfl lk_whole_shown_0
                    case g38 => exact pe_int
                  case g35 =>
                    refine' pss_one ?g39
                    case g39 =>
                      refine' ps_expr1 ?g40
                      case g40 =>
                        refine' pe_bm PySem.F.plainAttrs_list PySem.F.slot_list_append PySem.F.type_list_append mt_append ?g41 ?g42
                        case g41 => exact pv1 2 rfl lk_whole_shown_2
                        case g42 =>
                          refine' pa_c ?g43 ?g44
                          case g43 => exact pe_str
                          case g44 => exact pa_nil
                  case g36 => exact pss_nil
                case g33 =>
                  refine' pss_one ?g45
                  case g45 =>
                    refine' ps_ret ?g46
                    case g46 =>
                      refine' pe_joinReversed rfl ?g47 gk_whole_shown_reversed T.n_reversed ?g48
                      case g47 => exact pe_str
                      case g48 =>
                        refine' pa_c ?g49 ?g50
                        case g49 => exact pv1 2 rfl lk_whole_shown_2
                        case g50 => exact pa_nil
    case R =>
      walk_at "rd"
      refine ⟨by decide, by decide, by decide, by decide, fun l nl => ?_⟩
      have hb : (10 : Int) ^ Int.toNat 64 = ((10 ^ 64 : Nat) : Int) := by decide +kernel
      rw [hb]
      obtain ⟨m, hm, hmn⟩ : ∃ m : Int, (if n < 0 then -n else n) = m ∧ m = n.natAbs := ⟨_, rfl, by split <;> omega⟩
      rw [hm]
      refine while_W (fun σ H1 => σ = [some (.int n), some (.int ((10 ^ 64 : Nat) : Int)), some (.ref l), some (.int m)] ∧ H1 = upd H l (.lst [])) (fun _ _ => 0) ⟨rfl, rfl⟩ ?_
      rintro σ H1 ⟨rfl, rfl⟩
      walk_at "rd"
      refine ite2 (fun hle => absurd hle (by rw [hmn]; omega)) (fun _ => ?_)
      have hm64 : m.natAbs < 10 ^ 64 := by rw [hmn]; simpa using hn
      refine ⟨.inl ⟨_, .inl (.inl upd_same)⟩, log_small hm64, l, [], _, rfl, rfl, upd_same, small1000 (by decide), ?_⟩
      rw [upd_upd]
      have tl := tx_len (k := 64) (by decide) hm64
      have e0 : (Str.ofString "").length = 0 := by decide +kernel
      have e1 : (Str.ofString "-").length = 1 := by decide +kernel
      refine ite2 (fun h0 => ?_) (fun h0 => ?_)
      · refine ⟨.inl ⟨_, .inl (.inl upd_same)⟩, l, _, _, rfl, rfl, upd_same, small1000 (by show 1 ≤ 1000; decide), ?_⟩
        rw [upd_upd]
        have em : m = -n := by rw [if_pos h0] at hm; exact hm.symm
        refine ⟨[tx m, Str.ofString "-"], upd_same, ?_, ?_⟩
        · exact (join_ok (B := 65) (fun y hy => by
            rcases List.mem_cons.mp hy with rfl | hy
            · omega
            · rw [List.mem_singleton.mp hy]; exact tl) (by omega) (by simp)).1
        · show Q (.str (Txt.join (Str.ofString "") [Str.ofString "-", tx m])) _
          rw [join_no, em, ← tx_neg h0]
          exact k _ (Same.new nl)
      · have em : m = n := by rw [if_neg h0] at hm; exact hm.symm
        refine ⟨[tx m], upd_same, ?_, ?_⟩
        · exact (join_ok (B := 65) (fun y hy => by rw [List.mem_singleton.mp hy]; exact tl) (by omega) (by simp)).1
        · show Q (.str (Txt.join (Str.ofString "") [tx m])) _
          rw [join_one, em]
          exact k _ (Same.new nl)
abbrev s_fraction_shown : Stmt := PySem.Challenge.pw_rimread_k76_grids_written.main.body.getD 3 (.Pass ⟨0, 0, 0, 0⟩)
theorem sc_fraction_shown : FnScope ["value", "top", "bottom"] ["value"] (defScope s_fraction_shown) := ⟨rfl, rfl, rfl, by decide +kernel, rfl, by decide +kernel, by decide +kernel⟩
theorem lk_fraction_shown_0 : (defScope s_fraction_shown).names.lookup ("value" : Str) = some PySem.NameKind.local := by decide +kernel
theorem lk_fraction_shown_1 : (defScope s_fraction_shown).names.lookup ("top" : Str) = some PySem.NameKind.local := by decide +kernel
theorem lk_fraction_shown_2 : (defScope s_fraction_shown).names.lookup ("bottom" : Str) = some PySem.NameKind.local := by decide +kernel
theorem gk_fraction_shown_whole_shown : (defScope s_fraction_shown).names.lookup ("whole_shown" : Str) = some PySem.NameKind.globalImplicit := by decide +kernel
def sp_frac : Sp := fun vs H Q _ => ∃ (v : V) (p : Int × Int), vs = [v] ∧ Rep H v (dF p) ∧ Bd p ∧ ∀ H', Same H H' → Q (.str (fr p)) H'
theorem ok_fraction_shown (T : Txt K mg) (F : Fn0 K mg "fraction_shown" s_fraction_shown) (C_whole_shown : Cal P w K mg base "whole_shown" ["number"] 1 sp_whole) : Cal P w K mg base "fraction_shown" ["value"] 2 sp_frac := by
  refine cal_of F sc_fraction_shown (fun _ _ _ _ _ _ us hl => match us, hl with | [_], _ => rfl) ?len ?body
  case len => rintro vs H Q E ⟨a, b, rfl, _⟩; rfl
  case body =>
    intro f cdv A outer s H vs Q E hr h
    obtain ⟨v, p, rfl, hv, bd, k⟩ := h
    obtain ⟨q, rfl, hq⟩ := rep_dF hv
    refine' ⟨_, ?D, ?R⟩
    case D =>
      refine' pss_cons ?g1 ?g2
      case g1 =>
        refine' ps_set1 (i := 1) sc_fraction_shown.nd rfl lk_fraction_shown_1 ?g3
        case g3 =>
          refine' pe_callD C_whole_shown (hr.mono (by decide)) gk_fraction_shown_whole_shown ?g4
          case g4 =>
            refine' pa_c ?g5 ?g6
            case g5 =>
              refine' pe_ix ix_tupH ?g7 ?g8 (fun _ _ => rfl)
              case g7 => exact pv1 0 rfl lk_fraction_shown_0
              case g8 => exact pe_int
            case g6 => exact pa_nil
      case g2 =>
        refine' pss_cons ?g9 ?g10
        case g9 =>
          refine' ps_set1 (i := 2) sc_fraction_shown.nd rfl lk_fraction_shown_2 ?g11
          case g11 =>
            refine' pe_callD C_whole_shown (hr.mono (by decide)) gk_fraction_shown_whole_shown ?g12
            case g12 =>
              refine' pa_c ?g13 ?g14
              case g13 =>
                refine' pe_ix ix_tupH ?g15 ?g16 (fun _ _ => rfl)
                case g15 => exact pv1 0 rfl lk_fraction_shown_0
                case g16 => exact pe_int
              case g14 => exact pa_nil
        case g10 =>
          refine' pss_one ?g17
          case g17 =>
            refine' ps_ret ?g18
            case g18 =>
              refine' pe_fstr3 ?g19 ?g20 ?g21
              case g19 => exact pv1 1 rfl lk_fraction_shown_1
              case g20 => exact pe_str
              case g21 => exact pv1 2 rfl lk_fraction_shown_2
    case R =>
      walk_at "rd"
      have e1 : (Str.ofString "/").length = 1 := by decide +kernel
      have l1 := tx_len (k := 64) (by decide) bd.1
      have l2 := tx_len (k := 64) (by decide) bd.2
      have sz : 1000 ≤ sizeLine := by rw [sizeLine_eq]; decide
      refine ⟨_, hq, _, atI_0, p.1, rfl, bd.1, fun H1 s1 => ⟨_, s1 _ _ hq, _, atI_1, p.2, rfl, bd.2, fun H2 s2 => ⟨_, rfl, by omega, by omega, _, rfl, by omega, k _ (s1.trans s2)⟩⟩⟩
theorem reps_str {H : Hp} : ∀ {us : List V} {ts : List Str}, Reps H us (ts.map Dt.str) → us = ts.map V.str
  | us, [], h => h
  | us, n :: ns, ⟨x, r, e, hx, hr⟩ => by
    cases hx
    rw [e, reps_str hr]
    rfl
def dRow (r : List (Int × Int)) : Dt := .lst (r.map dF)
theorem rows_at {H : Hp} {xs : List V} {g : List (List (Int × Int))} {i : Nat} {x : V} (h : Reps H xs (g.map dRow)) (e : xs[i]? = some x) : ∃ r q ys, g[i]? = some r ∧ x = .ref q ∧ H q = some (.lst ys) ∧ Reps H ys (r.map dF) := by
  obtain ⟨d, hd, hr⟩ := h.of_get e
  rw [List.getElem?_map] at hd
  cases e2 : g[i]? with
  | none => rw [e2] at hd; cases hd
  | some r =>
    rw [e2] at hd
    rw [← Option.some.inj hd] at hr
    obtain ⟨q, ys, e1, hq, hys⟩ := hr
    exact ⟨r, q, ys, rfl, e1, hq, hys⟩
abbrev s_grid_shown : Stmt := PySem.Challenge.pw_rimread_k76_grids_written.main.body.getD 5 (.Pass ⟨0, 0, 0, 0⟩)
theorem sc_grid_shown : FnScope ["grid"] ["grid"] (defScope s_grid_shown) := ⟨rfl, rfl, rfl, by decide +kernel, rfl, by decide +kernel, by decide +kernel⟩
theorem lk_grid_shown_0 : (defScope s_grid_shown).names.lookup ("grid" : Str) = some PySem.NameKind.local := by decide +kernel
def sp_grid : Sp := fun vs H Q _ => ∃ (v : V) (g : List (List (Int × Int))), vs = [v] ∧ Rep H v (.lst (g.map dRow)) ∧ (∀ r ∈ g, (∀ p ∈ r, Bd p) ∧ r.length ≤ 7) ∧ g.length ≤ 6 ∧ ∀ H', Same H H' → Q (.str (gridT g)) H'
theorem ok_grid_shown (T : Txt K mg) (F : Fn0 K mg "grid_shown" s_grid_shown) (C_fraction_shown : Cal P w K mg base "fraction_shown" ["value"] 2 sp_frac) : Cal P w K mg base "grid_shown" ["grid"] 3 sp_grid := by
  refine cal_of F sc_grid_shown (fun _ _ _ _ _ _ us hl => match us, hl with | [_], _ => rfl) ?len ?body
  case len => rintro vs H Q E ⟨a, b, rfl, _⟩; rfl
  case body =>
    intro f cdv A outer s H vs Q E hr h
    obtain ⟨v, g, rfl, hv, gb, g6, k⟩ := h
    obtain ⟨t, xs, rfl, ht, hxs⟩ := id hv
    have hxl : xs.length = g.length := by rw [hxs.length, List.length_map]
    refine' ⟨_, ?D, ?R⟩
    case D =>
      refine' pss_one ?g1
      case g1 =>
        refine' ps_ret ?g2
        case g2 =>
          refine' pe_bmK (K := K) rfl PySem.F.plainAttrs_str PySem.F.slot_str_join PySem.F.type_str_join mt_join ?g3 ?g4
          case g3 => exact pe_str
          case g4 =>
            refine' pa_c ?g5 ?g6
            case g5 =>
              refine' pe_comp (N' := ["row"]) (ix := [none]) rfl rfl (scp_of ?g7) ?g8 (fun _ _ _ => ?g9) (fun _ _ _ => ?g10) (fun _ _ _ => ?g11)
              case g7 => exact (by show scpB (defScope s_grid_shown) ["grid"] _ _ _ = true; decide +kernel)
              case g8 =>
                refine' pi_listK (K := K) rfl ?g12
                case g12 => exact pv1 0 rfl lk_grid_shown_0
              case g9 => exact pg_name1 (i := 0) (by show List.Nodup (["row"] : List Str); decide +kernel) rfl rfl
              case g10 => exact pf_nil
              case g11 =>
                refine' pe_bmK (K := K) rfl PySem.F.plainAttrs_str PySem.F.slot_str_join PySem.F.type_str_join mt_join ?g13 ?g14
                case g13 => exact pe_str
                case g14 =>
                  refine' pa_c ?g15 ?g16
                  case g15 =>
                    refine' pe_comp (N' := ["entry"]) (ix := [none]) rfl rfl (scp_of ?g17) ?g18 (fun _ _ _ => ?g19) (fun _ _ _ => ?g20) (fun _ _ _ => ?g21)
                    case g17 => exact (by show scpB (relS _ (defScope s_grid_shown)) ["row"] _ _ _ = true; decide +kernel)
                    case g18 =>
                      refine' pi_listK (K := K) rfl ?g22
                      case g22 => exact pv1 0 rfl rfl
                    case g19 => exact pg_name1 (i := 0) (by show List.Nodup (["entry"] : List Str); decide +kernel) rfl rfl
                    case g20 => exact pf_nil
                    case g21 =>
                      refine' pe_callD C_fraction_shown (hr.mono (by decide)) rfl ?g23
                      case g23 =>
                        refine' pa_c ?g24 ?g25
                        case g24 => exact pv1 0 rfl rfl
                        case g25 => exact pa_nil
                  case g16 => exact pa_nil
            case g6 => exact pa_nil
    case R =>
      walk_at "rd"
      refine ⟨⟨_, .inl (.inl ht)⟩, ?_⟩
      refine comp_any (n := g.length) (B := fun _ => none) (Pσ := fun σ => ∃ e, σ = [e]) (ds := (g.map rowT).map Dt.str) (fun b o e => by cases e) ⟨_, rfl⟩ (by simp) (by omega) (fun i H' hi s' => ⟨xs, xs[i]'(by omega), .inl (.inl (s' _ _ ht)), List.getElem?_eq_getElem _⟩) (fun H' s' => ⟨xs, .inl (.inl (s' _ _ ht)), by omega⟩) ?_ ?_
      · rintro D i x d σ' H' H'' hD hDo hs' hi hdi ⟨rfl, hy⟩ ⟨e, rfl⟩ R kR
        have hx := hy _ (.inl (.inl (hs' _ _ ht)))
        obtain ⟨r, q, ys, hr1, rfl, hq, hys⟩ := rows_at hxs hx
        have hd : d = Dt.str (rowT r) := by
          rw [List.getElem?_map, List.getElem?_map, hr1] at hdi
          exact (Option.some.inj hdi).symm
        obtain ⟨bd, r7⟩ := gb r (List.mem_of_getElem? hr1)
        have hyl : ys.length = r.length := by rw [hys.length, List.length_map]
        have hq2 := hs' _ _ hq
        walk_at "rd"
        refine ⟨⟨_, .inl (.inl hq2)⟩, ?_⟩
        refine comp_any (n := r.length) (B := fun _ => none) (Pσ := fun σ => ∃ e, σ = [e]) (ds := (r.map fr).map Dt.str) (fun b o e => by cases e) ⟨_, rfl⟩ (by simp) (by omega) (fun j H2 hj s2 => ⟨ys, ys[j]'(by omega), .inl (.inl (s2 _ _ hq2)), List.getElem?_eq_getElem _⟩) (fun H2 s2 => ⟨ys, .inl (.inl (s2 _ _ hq2)), by omega⟩) ?_ ?_
        · rintro D2 j x2 d2 σ2 H2 H2' hD2 hD2o hs2 hj hdj ⟨rfl, hy2⟩ ⟨e2, rfl⟩ R2 kR2
          have hx2 := hy2 _ (.inl (.inl (hs2 _ _ hq2)))
          obtain ⟨d3, hd3, hr3⟩ := hys.of_get hx2
          have hd2 : d2 = Dt.str (fr r[j]) := by
            rw [List.getElem?_map, List.getElem?_map, List.getElem?_eq_getElem hj] at hdj
            exact (Option.some.inj hdj).symm
          have hd3' : d3 = dF r[j] := by
            rw [List.getElem?_map, List.getElem?_eq_getElem hj] at hd3
            exact (Option.some.inj hd3).symm
          rw [hd3'] at hr3
          walk_at "rd"
          refine ⟨x2, r[j], rfl, Rep.mono (hs'.trans hs2) _ hr3, bd _ (List.getElem_mem hj), fun H3 s3 => ?_⟩
          refine kR2 _ _ _ ⟨_, rfl⟩ s3 ?_
          rw [hd2]
          exact rfl
        · intro D2 H3 hD2 s3 rep3
          obtain ⟨_, zs, e3, hz, hzs⟩ := rep3
          cases e3
          rw [reps_str hzs] at hz
          refine ⟨_, rfl, _, (newH_of hz).2, (row_ok bd r7).1, ?_⟩
          refine kR _ _ _ ⟨_, rfl⟩ s3 ?_
          rw [hd]
          exact rfl
      · intro D0 H1 hD s1 rep1
        obtain ⟨_, zs, e3, hz, hzs⟩ := rep1
        cases e3
        rw [reps_str hzs] at hz
        exact ⟨_, rfl, _, (newH_of hz).2, (grid_ok gb g6).1, k _ s1⟩
end Rim76
set_option Elab.async false
set_option linter.all false
set_option maxRecDepth 100000
set_option maxHeartbeats 4000000
namespace Rim76
open PySem PySem.Spec PyProof.Rows L2 RimM
local macro_rules | `(tactic| walk_at "rd") => `(tactic| first | (dsimp only [tSeq, tAsg, gName, tTup, tLst, tCons, tNil, tVar, tC, tCB, tOp, rI, rI0, tTest, tIfS, tNext, tRet, tRetN, tDrop, tB, tAnd, tOr, tNot, tAndV, tOrV, tNotV, rU, tUn, tBM0, tBM, rBits, tCall, L2.start, rIxTH, rIxLH, rLenH, rEqTH, rEq, rNe, CMul, CMulB, CDivB, CDivF, CPow, List.map_cons, List.map_nil, List.length_cons, List.length_nil, List.replicate, List.cons_append, List.nil_append, List.set_cons_zero, List.set_cons_succ, List.getElem?_cons_zero, List.getElem?_cons_succ, gSub, rSetL, rCat, iRng1, tPar, iList, tComp, pick, tYes, iZip, gTup, gCons, gNil, rSum, rListH, List.map, iRng2, iRngD, tSl, rSlH, tPart, tNoPart, tPar3, tIf, tRev, tLRange, rIxT, rPopAt, tLRev, rExtend, rClear, rSortI, rMinL, rIn, tTest, rMulS, rJoin, tJRev, tF3]; try simp only [tSeq, tAsg, gName, tTup, tLst, tCons, tNil, tVar, tC, tCB, tOp, rI, rI0, tTest, tIfS, tNext, tRet, tRetN, tDrop, tB, tAnd, tOr, tNot, tAndV, tOrV, tNotV, rU, tUn, tBM0, tBM, rBits, tCall, L2.start, rIxTH, rIxLH, rLenH, rEqTH, rEq, rNe, scal, tyV, CMul, CMulB, CDivB, CDivF, CPow, List.map_cons, List.map_nil, List.length_cons, List.length_nil, List.replicate, List.cons_append, List.nil_append, List.append_nil, List.set_cons_zero, List.set_cons_succ, List.getElem?_cons_zero, List.getElem?_cons_succ, Option.some.injEq, List.cons.injEq, V.int.injEq, V.bl.injEq, V.str.injEq, V.ref.injEq, V.ty.injEq, HO.tup.injEq, HO.lst.injEq, exists_eq_left, exists_eq_left', exists_and_left, and_assoc, and_true, true_and, upd_same, atI_0, atI_1, atI_2, Nat.zero_add, Nat.reduceAdd, Nat.reduceSub, decide_eq_true_eq, Bool.not_eq_true', decide_eq_false_iff_not, reduceCtorEq, false_or, or_false, true_or, or_true, plainT_int, plainT_bool, plainT_tuple, plainT_list, plainT_str, Bool.false_eq_true, if_false, if_true, Bool.not_false, Bool.not_true, Bool.not_not, gSub, rSetL, ixN_00, upd_upd, rCat, iRng1, tFor_eq, tPar, iList, tComp, pick, tYes, iZip, gTup, gCons, gNil, rSum, rListH, List.map, Option.bind, iRng2, iRngD, tSl, rSlH, tPart, tNoPart, tPar3, tIf, tRev, tLRange, rIxT, rPopAt, tLRev, rExtend, rClear, rSortI, rMinL, rIn, tTest, rMulS, rJoin, tJRev, tF3]) | simp only [tSeq, tAsg, gName, tTup, tLst, tCons, tNil, tVar, tC, tCB, tOp, rI, rI0, tTest, tIfS, tNext, tRet, tRetN, tDrop, tB, tAnd, tOr, tNot, tAndV, tOrV, tNotV, rU, tUn, tBM0, tBM, rBits, tCall, L2.start, rIxTH, rIxLH, rLenH, rEqTH, rEq, rNe, scal, tyV, CMul, CMulB, CDivB, CDivF, CPow, List.map_cons, List.map_nil, List.length_cons, List.length_nil, List.replicate, List.cons_append, List.nil_append, List.append_nil, List.set_cons_zero, List.set_cons_succ, List.getElem?_cons_zero, List.getElem?_cons_succ, Option.some.injEq, List.cons.injEq, V.int.injEq, V.bl.injEq, V.str.injEq, V.ref.injEq, V.ty.injEq, HO.tup.injEq, HO.lst.injEq, exists_eq_left, exists_eq_left', exists_and_left, and_assoc, and_true, true_and, upd_same, atI_0, atI_1, atI_2, Nat.zero_add, Nat.reduceAdd, Nat.reduceSub, decide_eq_true_eq, Bool.not_eq_true', decide_eq_false_iff_not, reduceCtorEq, false_or, or_false, true_or, or_true, plainT_int, plainT_bool, plainT_tuple, plainT_list, plainT_str, Bool.false_eq_true, if_false, if_true, Bool.not_false, Bool.not_true, Bool.not_not, gSub, rSetL, ixN_00, upd_upd, rCat, iRng1, tFor_eq, tPar, iList, tComp, pick, tYes, iZip, gTup, gCons, gNil, rSum, rListH, List.map, Option.bind, iRng2, iRngD, tSl, rSlH, tPart, tNoPart, tPar3, tIf, tRev, tLRange, rIxT, rPopAt, tLRev, rExtend, rClear, rSortI, rMinL, rIn, tTest, rMulS, rJoin, tJRev, tF3])
variable {P : Program} {w : World} {K : PySem.W.Frag} {mg : Str → Option Value} {base : Heap}
theorem nf_small {t b : Int} (hb : 0 < b) {B : Nat} (ht : t.natAbs ≤ B) : (nf t b).1.natAbs ≤ B ∧ 0 < (nf t b).2 ∧ (nf t b).2.natAbs ≤ b.natAbs := by
  refine ⟨?_, (nf_low (t := t) (b := b) (by omega)).1.pos, ?_⟩
  · rw [nf_pos hb]
    exact Nat.le_trans (Int.natAbs_ediv_le_natAbs _ _) ht
  · rw [nf_pos hb]
    exact Int.natAbs_ediv_le_natAbs _ _
mutual
theorem deq_refl : ∀ d : Dt, deq d d = some true
  | .non => rfl
  | .bl a => by simp [deq]
  | .int a => by simp [deq]
  | .str a => by simp [deq]
  | .tup xs => deqs_refl xs
  | .lst xs => by rw [deq, if_pos rfl]; exact deqs_refl xs
theorem deqs_refl : ∀ ds : List Dt, deqs ds ds = some true
  | [] => rfl
  | d :: ds => by rw [deqs, deq_refl d, deqs_refl ds]; rfl
end
theorem deps_le {α : Type} {f : α → Dt} {n : Nat} (h : ∀ a, dep (f a) ≤ n) : ∀ l : List α, deps (l.map f) ≤ n
  | [] => Nat.zero_le _
  | a :: l => Nat.max_le.mpr ⟨h a, deps_le h l⟩
theorem dep_dF (p : Int × Int) : dep (dF p) ≤ 1 := by simp [dF, dep, deps]
theorem dep_grid (g : List (List (Int × Int))) : dep (.lst (g.map dRow)) ≤ 60 := Nat.le_trans (Nat.succ_le_succ (deps_le (f := dRow) (n := 2) (fun r => Nat.succ_le_succ (deps_le dep_dF r)) g)) (by decide)
def opt (x : Str) (b : Bool) : Str := if b then x else Str.empty
theorem mul_opt (x : Str) (p : Prop) [Decidable p] : MulOk x (if p then 1 else 0) ∧ Txt.mul x (if p then 1 else 0) = opt x (decide p) := by
  by_cases h : p
  · rw [if_pos h, show decide p = true from decide_eq_true h]
    refine ⟨⟨by decide, fun _ h => ?_, fun _ h => ?_⟩, rfl⟩
    · exact absurd h (by simp)
    · exact absurd h (by simp)
  · rw [if_neg h, show decide p = false from decide_eq_false h]
    exact ⟨⟨by decide, fun h => absurd (by decide) h, fun h => absurd (by decide) h⟩, rfl⟩
theorem join_step (sep : Str) {α : Type} (f : α → Str) (xs : List α) (i : Nat) (h : i < xs.length) : Txt.join sep ((xs.take (i + 1)).map f) = Txt.join sep ((xs.take i).map f) ++ opt sep (decide (0 < i)) ++ f xs[i] := by
  have e : (xs.take (i + 1)).map f = (xs.take i).map f ++ [f xs[i]] := by
    rw [List.take_succ, List.getElem?_eq_getElem h, List.map_append]
    rfl
  rw [e]
  cases i with
  | zero =>
    show Txt.join sep [f xs[0]] = Txt.join sep [] ++ Str.empty ++ f xs[0]
    rw [join_one, app_nil]
    show f xs[0] = Str.empty ++ f xs[0]
    rw [empty_app]
  | succ i =>
    rw [join_snoc sep _ _ (fun e => by
      have hz : ((xs.take (i + 1)).map f).length = 0 := by rw [e]; rfl
      rw [List.length_map, List.length_take] at hz
      omega)]
    rfl
def textT (gs : List (List (Int × Int))) (j : Nat) : Str := Txt.join (Str.ofString "\n") ((gs.take j).map rowT) ++ opt (Str.ofString "\n") (decide (0 < j ∧ j < gs.length))
theorem text_row (gs : List (List (Int × Int))) (j : Nat) (h : j < gs.length) : textT gs j ++ rowT gs[j] ++ opt (Str.ofString "\n") (decide (j + 1 < gs.length)) = textT gs (j + 1) := by
  unfold textT
  rw [join_step (Str.ofString "\n") rowT gs j h]
  have e1 : decide (0 < j ∧ j < gs.length) = decide (0 < j) := by simp [h]
  have e2 : decide (0 < j + 1 ∧ j + 1 < gs.length) = decide (j + 1 < gs.length) := by simp
  rw [e1, e2]
theorem opt_len (x : Str) (b : Bool) : (opt x b).length ≤ x.length := by
  cases b with
  | true => exact Nat.le_refl _
  | false => exact Nat.zero_le _
theorem text_len {gs : List (List (Int × Int))} (h : ∀ r ∈ gs, (∀ p ∈ r, Bd p) ∧ r.length ≤ 7) (hl : gs.length ≤ 6) (j : Nat) : (textT gs j).length ≤ 10001 := by
  have h1 := (grid_ok (g := gs.take j) (fun r hr => h r (List.mem_of_mem_take hr)) (by rw [List.length_take]; omega)).2
  have h2 := opt_len (Str.ofString "\n") (decide (0 < j ∧ j < gs.length))
  have h3 : (Str.ofString "\n").length = 1 := by decide +kernel
  unfold textT
  rw [len_app]
  unfold gridT at h1
  omega
theorem text_all (gs : List (List (Int × Int))) : textT gs gs.length = gridT gs := by
  unfold textT
  rw [List.take_length, show decide (0 < gs.length ∧ gs.length < gs.length) = false by simp]
  exact app_nil _
abbrev s_law : Stmt := PySem.Challenge.pw_rimread_k76_grids_written.main.body.getD 11 (.Pass ⟨0, 0, 0, 0⟩)
theorem sc_law : FnScope ["_law_script", "_law_first", "_law_wide", "_law_grid", "_law_j", "_law_row", "_law_i", "_law_worth", "_law_big_here", "_law_top", "_law_bottom", "_law_text", "_law_handed", "_law_found"] ["_law_script"] (defScope s_law) := ⟨rfl, rfl, rfl, by decide +kernel, rfl, by decide +kernel, by decide +kernel⟩
theorem lk_law_0 : (defScope s_law).names.lookup ("_law_script" : Str) = some PySem.NameKind.local := by decide +kernel
theorem lk_law_1 : (defScope s_law).names.lookup ("_law_first" : Str) = some PySem.NameKind.local := by decide +kernel
theorem lk_law_2 : (defScope s_law).names.lookup ("_law_wide" : Str) = some PySem.NameKind.local := by decide +kernel
theorem lk_law_3 : (defScope s_law).names.lookup ("_law_grid" : Str) = some PySem.NameKind.local := by decide +kernel
theorem lk_law_4 : (defScope s_law).names.lookup ("_law_j" : Str) = some PySem.NameKind.local := by decide +kernel
theorem lk_law_5 : (defScope s_law).names.lookup ("_law_row" : Str) = some PySem.NameKind.local := by decide +kernel
theorem lk_law_6 : (defScope s_law).names.lookup ("_law_i" : Str) = some PySem.NameKind.local := by decide +kernel
theorem lk_law_7 : (defScope s_law).names.lookup ("_law_worth" : Str) = some PySem.NameKind.local := by decide +kernel
theorem lk_law_8 : (defScope s_law).names.lookup ("_law_big_here" : Str) = some PySem.NameKind.local := by decide +kernel
theorem lk_law_9 : (defScope s_law).names.lookup ("_law_top" : Str) = some PySem.NameKind.local := by decide +kernel
theorem lk_law_10 : (defScope s_law).names.lookup ("_law_bottom" : Str) = some PySem.NameKind.local := by decide +kernel
theorem lk_law_11 : (defScope s_law).names.lookup ("_law_text" : Str) = some PySem.NameKind.local := by decide +kernel
theorem lk_law_12 : (defScope s_law).names.lookup ("_law_handed" : Str) = some PySem.NameKind.local := by decide +kernel
theorem lk_law_13 : (defScope s_law).names.lookup ("_law_found" : Str) = some PySem.NameKind.local := by decide +kernel
theorem gk_law__law_big : (defScope s_law).names.lookup ("_law_big" : Str) = some PySem.NameKind.globalImplicit := by decide +kernel
theorem gk_law__law_low : (defScope s_law).names.lookup ("_law_low" : Str) = some PySem.NameKind.globalImplicit := by decide +kernel
theorem gk_law__law_worth_of : (defScope s_law).names.lookup ("_law_worth_of" : Str) = some PySem.NameKind.globalImplicit := by decide +kernel
theorem gk_law_grid_shown : (defScope s_law).names.lookup ("grid_shown" : Str) = some PySem.NameKind.globalImplicit := by decide +kernel
theorem gk_law_int : (defScope s_law).names.lookup ("int" : Str) = some PySem.NameKind.globalImplicit := by decide +kernel
theorem gk_law_isinstance : (defScope s_law).names.lookup ("isinstance" : Str) = some PySem.NameKind.globalImplicit := by decide +kernel
theorem gk_law_len : (defScope s_law).names.lookup ("len" : Str) = some PySem.NameKind.globalImplicit := by decide +kernel
theorem gk_law_range : (defScope s_law).names.lookup ("range" : Str) = some PySem.NameKind.globalImplicit := by decide +kernel
theorem gk_law_str : (defScope s_law).names.lookup ("str" : Str) = some PySem.NameKind.globalImplicit := by decide +kernel
def sp_law (K : PySem.W.Frag) : Sp := fun vs H Q _ => ∃ (a : Addr) (ns : List Int), vs = [.ref a] ∧ SqL K H a (ns.map V.int) ∧ ∀ H', Q (.bl true) H'
theorem ok_law {f : Addr} {fd : FuncData} (T : Txt K mg) (F : Fun K "law" "law" s_law f fd) (C__law_big : Cal P w K mg base "_law_big" ["_law_script", "_law_at"] 2 (sp_big K)) (C__law_low : Cal P w K mg base "_law_low" ["_law_top", "_law_bottom"] 1 sp_low) (C__law_worth_of : Cal P w K mg base "_law_worth_of" ["_law_big_here"] 2 sp_worth) (C_grid_shown : Cal P w K mg base "grid_shown" ["grid"] 3 sp_grid) : FnOk P w K mg base CX0 4 f fd ["_law_script"] (sp_law K) := by
  refine F.ok sc_law ?len ?body
  case len => rintro vs H Q E ⟨a, b, rfl, _⟩; rfl
  case body =>
    intro cdv A outer s H vs Q E hr h
    obtain ⟨a, ns, rfl, hS, k⟩ := h
    refine' ⟨_, ?D, ?R⟩
    case D =>
      refine' pss_cons ?g1 ?g2
      case g1 =>
        refine' ps_set1 (i := 1) sc_law.nd rfl lk_law_1 ?g3
        case g3 =>
          refine' pe_callD C__law_big (hr.mono (by decide)) gk_law__law_big ?g4
          case g4 =>
            refine' pa_c ?g5 ?g6
            case g5 => exact pv1 0 rfl lk_law_0
            case g6 =>
              refine' pa_c ?g7 ?g8
              case g7 => exact pe_int
              case g8 => exact pa_nil
      case g2 =>
        refine' pss_cons ?g9 ?g10
        case g9 =>
          refine' ps_set1 (i := 2) sc_law.nd rfl lk_law_2 ?g11
          case g11 =>
            refine' pe_op op_mod ?g12 ?g13
            case g12 => exact pv1 1 rfl lk_law_1
            case g13 => exact pe_int
        case g10 =>
          refine' pss_cons ?g14 ?g15
          case g14 =>
            refine' ps_set1 (i := 3) sc_law.nd rfl lk_law_3 ?g16
            case g16 =>
              refine' pe_lst ?g17
              case g17 => exact pa_nil
          case g15 =>
            refine' pss_cons ?g18 ?g19
            case g18 =>
              refine' ps_for PassesOwn.never rfl ?g20 ?g21 ?g22
              case g20 =>
                refine' pi_range1 gk_law_range T.n_range ?g23
                case g23 =>
                  refine' pa_c ?g24 ?g25
                  case g24 =>
                    refine' pe_op op_mod ?g26 ?g27
                    case g26 =>
                      refine' pe_op op_fdivB ?g28 ?g29
                      case g28 => exact pv1 1 rfl lk_law_1
                      case g29 => exact pe_int
                    case g27 => exact pe_int
                  case g25 => exact pa_nil
              case g21 => exact pg_name1 (i := 4) sc_law.nd rfl lk_law_4
              case g22 =>
                refine' pss_cons ?g30 ?g31
                case g30 =>
                  refine' ps_set1 (i := 5) sc_law.nd rfl lk_law_5 ?g32
                  case g32 =>
                    refine' pe_lst ?g33
                    case g33 => exact pa_nil
                case g31 =>
                  refine' pss_cons ?g34 ?g35
                  case g34 =>
                    refine' ps_for PassesOwn.never rfl ?g36 ?g37 ?g38
                    case g36 =>
                      refine' pi_range1 gk_law_range T.n_range ?g39
                      case g39 =>
                        refine' pa_c ?g40 ?g41
                        case g40 => exact pv1 2 rfl lk_law_2
                        case g41 => exact pa_nil
                    case g37 => exact pg_name1 (i := 6) sc_law.nd rfl lk_law_6
                    case g38 =>
                      refine' pss_cons ?g42 ?g43
                      case g42 =>
                        refine' ps_asg ?g44 ?g45
                        case g44 =>
                          refine' pe_callD C__law_worth_of (hr.mono (by decide)) gk_law__law_worth_of ?g46
                          case g46 =>
                            refine' pa_c ?g47 ?g48
                            case g47 =>
                              refine' pe_op op_add ?g49 ?g50
                              case g49 =>
                                refine' pe_callD C__law_big (hr.mono (by decide)) gk_law__law_big ?g51
                                case g51 =>
                                  refine' pa_c ?g52 ?g53
                                  case g52 => exact pv1 0 rfl lk_law_0
                                  case g53 =>
                                    refine' pa_c ?g54 ?g55
                                    case g54 =>
                                      refine' pe_op op_add ?g56 ?g57
                                      case g56 => exact pe_int
                                      case g57 =>
                                        refine' pe_op op_mod ?g58 ?g59
                                        case g58 =>
                                          refine' pe_op op_add ?g60 ?g61
                                          case g60 =>
                                            refine' pe_op op_mul ?g62 ?g63
                                            case g62 => exact pv1 4 rfl lk_law_4
                                            case g63 => exact pv1 2 rfl lk_law_2
                                          case g61 => exact pv1 6 rfl lk_law_6
                                        case g59 => exact pe_int
                                    case g55 => exact pa_nil
                              case g50 => exact pv1 4 rfl lk_law_4
                            case g48 => exact pa_nil
                        case g45 =>
                          refine' pg_tupK (K := K) (n := 2) rfl rfl ?g64
                          case g64 =>
                            refine' pgs_cons ?g65 ?g66
                            case g65 => exact pg_name1 (i := 7) sc_law.nd rfl lk_law_7
                            case g66 =>
                              refine' pgs_cons ?g67 ?g68
                              case g67 => exact pg_name1 (i := 8) sc_law.nd rfl lk_law_8
                              case g68 => exact pgs_nil
                      case g43 =>
                        refine' pss_cons ?g69 ?g70
                        case g69 =>
                          refine' ps_asg ?g71 ?g72
                          case g71 => exact pv1 7 rfl lk_law_7
                          case g72 =>
                            refine' pg_tupK (K := K) (n := 2) rfl rfl ?g73
                            case g73 =>
                              refine' pgs_cons ?g74 ?g75
                              case g74 => exact pg_name1 (i := 9) sc_law.nd rfl lk_law_9
                              case g75 =>
                                refine' pgs_cons ?g76 ?g77
                                case g76 => exact pg_name1 (i := 10) sc_law.nd rfl lk_law_10
                                case g77 => exact pgs_nil
                        case g70 =>
                          refine' pss_cons ?g78 ?g79
                          case g78 =>
                            refine' ps_cut ?g80
                            case g80 =>
                              refine' ps_if ?g81 ?g82 ?g83
                              case g81 =>
                                refine' pt_cmpR op_eq ?g84 ?g85 (nomark _)
                                case g84 =>
                                  refine' pe_op op_mod ?g86 ?g87
                                  case g86 =>
                                    refine' pe_op op_fdivB ?g88 ?g89
                                    case g88 => exact pv1 1 rfl lk_law_1
                                    case g89 => exact pe_int
                                  case g87 => exact pe_int
                                case g85 => exact pe_int
                              case g82 =>
                                refine' pss_cons ?g90 ?g91
                                case g90 =>
                                  refine' ps_set1 (i := 10) sc_law.nd rfl lk_law_10 ?g92
                                  case g92 =>
                                    refine' pe_op op_add ?g93 ?g94
                                    case g93 => exact pe_int
                                    case g94 =>
                                      refine' pe_op op_mod ?g95 ?g96
                                      case g95 =>
                                        refine' pe_callD C__law_big (hr.mono (by decide)) gk_law__law_big ?g97
                                        case g97 =>
                                          refine' pa_c ?g98 ?g99
                                          case g98 => exact pv1 0 rfl lk_law_0
                                          case g99 =>
                                            refine' pa_c ?g100 ?g101
                                            case g100 =>
                                              refine' pe_op op_add ?g102 ?g103
                                              case g102 => exact pe_int
                                              case g103 => exact pv1 6 rfl lk_law_6
                                            case g101 => exact pa_nil
                                      case g96 =>
                                        refine' pe_op op_sub ?g104 ?g105
                                        case g104 =>
                                          refine' pe_op op_pow ?g106 ?g107
                                          case g106 => exact pe_int
                                          case g107 => exact pe_int
                                        case g105 => exact pe_int
                                case g91 =>
                                  refine' pss_one ?g108
                                  case g108 =>
                                    refine' ps_set1 (i := 9) sc_law.nd rfl lk_law_9 ?g109
                                    case g109 =>
                                      refine' pe_op op_mod ?g110 ?g111
                                      case g110 =>
                                        refine' pe_callD C__law_big (hr.mono (by decide)) gk_law__law_big ?g112
                                        case g112 =>
                                          refine' pa_c ?g113 ?g114
                                          case g113 => exact pv1 0 rfl lk_law_0
                                          case g114 =>
                                            refine' pa_c ?g115 ?g116
                                            case g115 =>
                                              refine' pe_op op_add ?g117 ?g118
                                              case g117 => exact pe_int
                                              case g118 => exact pv1 4 rfl lk_law_4
                                            case g116 => exact pa_nil
                                      case g111 =>
                                        refine' pe_op op_pow ?g119 ?g120
                                        case g119 => exact pe_int
                                        case g120 => exact pe_int
                              case g83 => exact pss_nil
                          case g79 =>
                            refine' pss_cons ?g121 ?g122
                            case g121 =>
                              refine' ps_set1 (i := 9) sc_law.nd rfl lk_law_9 ?g123
                              case g123 =>
                                refine' pe_op op_mul ?g124 ?g125
                                case g124 =>
                                  refine' pe_op op_sub ?g126 ?g127
                                  case g126 => exact pv1 9 rfl lk_law_9
                                  case g127 =>
                                    refine' pe_op op_mul ?g128 ?g129
                                    case g128 => exact pe_int
                                    case g129 =>
                                      refine' pe_op op_mod ?g130 ?g131
                                      case g130 => exact pv1 6 rfl lk_law_6
                                      case g131 => exact pe_int
                                case g125 =>
                                  refine' pe_op op_sub ?g132 ?g133
                                  case g132 => exact pe_int
                                  case g133 =>
                                    refine' pe_op op_mul ?g134 ?g135
                                    case g134 => exact pe_int
                                    case g135 =>
                                      refine' pe_op op_mod ?g136 ?g137
                                      case g136 => exact pv1 4 rfl lk_law_4
                                      case g137 => exact pe_int
                            case g122 =>
                              refine' pss_one ?g138
                              case g138 =>
                                refine' ps_expr1 ?g139
                                case g139 =>
                                  refine' pe_bm PySem.F.plainAttrs_list PySem.F.slot_list_append PySem.F.type_list_append mt_append ?g140 ?g141
                                  case g140 => exact pv1 5 rfl lk_law_5
                                  case g141 =>
                                    refine' pa_c ?g142 ?g143
                                    case g142 =>
                                      refine' pe_callD C__law_low (hr.mono (by decide)) gk_law__law_low ?g144
                                      case g144 =>
                                        refine' pa_c ?g145 ?g146
                                        case g145 => exact pv1 9 rfl lk_law_9
                                        case g146 =>
                                          refine' pa_c ?g147 ?g148
                                          case g147 => exact pv1 10 rfl lk_law_10
                                          case g148 => exact pa_nil
                                    case g143 => exact pa_nil
                  case g35 =>
                    refine' pss_one ?g149
                    case g149 =>
                      refine' ps_expr1 ?g150
                      case g150 =>
                        refine' pe_bm PySem.F.plainAttrs_list PySem.F.slot_list_append PySem.F.type_list_append mt_append ?g151 ?g152
                        case g151 => exact pv1 3 rfl lk_law_3
                        case g152 =>
                          refine' pa_c ?g153 ?g154
                          case g153 => exact pv1 5 rfl lk_law_5
                          case g154 => exact pa_nil
            case g19 =>
              refine' pss_cons ?g155 ?g156
              case g155 =>
                refine' ps_set1 (i := 11) sc_law.nd rfl lk_law_11 ?g157
                case g157 => exact pe_str
              case g156 =>
                refine' pss_cons ?g158 ?g159
                case g158 =>
                  refine' ps_for PassesOwn.never rfl ?g160 ?g161 ?g162
                  case g160 =>
                    refine' pi_range1 gk_law_range T.n_range ?g163
                    case g163 =>
                      refine' pa_c ?g164 ?g165
                      case g164 =>
                        refine' pe_callE call_lenH gk_law_len T.n_len bt_len ?g166
                        case g166 =>
                          refine' pa_c ?g167 ?g168
                          case g167 => exact pv1 3 rfl lk_law_3
                          case g168 => exact pa_nil
                      case g165 => exact pa_nil
                  case g161 => exact pg_name1 (i := 4) sc_law.nd rfl lk_law_4
                  case g162 =>
                    refine' pss_cons ?g169 ?g170
                    case g169 =>
                      refine' ps_for PassesOwn.never rfl ?g171 ?g172 ?g173
                      case g171 =>
                        refine' pi_range1 gk_law_range T.n_range ?g174
                        case g174 =>
                          refine' pa_c ?g175 ?g176
                          case g175 => exact pv1 2 rfl lk_law_2
                          case g176 => exact pa_nil
                      case g172 => exact pg_name1 (i := 6) sc_law.nd rfl lk_law_6
                      case g173 =>
                        refine' pss_cons ?g177 ?g178
                        case g177 =>
                          refine' ps_asg ?g179 ?g180
                          case g179 =>
                            refine' pe_ix ix_listH ?g181 ?g182 (fun _ _ => rfl)
                            case g181 =>
                              refine' pe_ix ix_listH ?g183 ?g184 (fun _ _ => rfl)
                              case g183 => exact pv1 3 rfl lk_law_3
                              case g184 => exact pv1 4 rfl lk_law_4
                            case g182 => exact pv1 6 rfl lk_law_6
                          case g180 =>
                            refine' pg_tupK (K := K) (n := 2) rfl rfl ?g185
                            case g185 =>
                              refine' pgs_cons ?g186 ?g187
                              case g186 => exact pg_name1 (i := 9) sc_law.nd rfl lk_law_9
                              case g187 =>
                                refine' pgs_cons ?g188 ?g189
                                case g188 => exact pg_name1 (i := 10) sc_law.nd rfl lk_law_10
                                case g189 => exact pgs_nil
                        case g178 =>
                          refine' pss_one ?g190
                          case g190 =>
                            refine' ps_set1 (i := 11) sc_law.nd rfl lk_law_11 ?g191
                            case g191 =>
                              refine' pe_op op_add_str ?g192 ?g193
                              case g192 =>
                                refine' pe_op op_add_str ?g194 ?g195
                                case g194 =>
                                  refine' pe_op op_add_str ?g196 ?g197
                                  case g196 =>
                                    refine' pe_op op_add_str ?g198 ?g199
                                    case g198 => exact pv1 11 rfl lk_law_11
                                    case g199 =>
                                      refine' pe_op op_mul_str ?g200 ?g201
                                      case g200 => exact pe_str
                                      case g201 =>
                                        refine' pe_callT call_int1 gk_law_int T.n_int bt_int ?g202
                                        case g202 =>
                                          refine' pa_c ?g203 ?g204
                                          case g203 =>
                                            refine' pe_cmpR op_gt ?g205 ?g206 (nomark _)
                                            case g205 => exact pv1 6 rfl lk_law_6
                                            case g206 => exact pe_int
                                          case g204 => exact pa_nil
                                  case g197 =>
                                    refine' pe_callT call_str_int gk_law_str T.n_str bt_str ?g207
                                    case g207 =>
                                      refine' pa_c ?g208 ?g209
                                      case g208 => exact pv1 9 rfl lk_law_9
                                      case g209 => exact pa_nil
                                case g195 => exact pe_str
                              case g193 =>
                                refine' pe_callT call_str_int gk_law_str T.n_str bt_str ?g210
                                case g210 =>
                                  refine' pa_c ?g211 ?g212
                                  case g211 => exact pv1 10 rfl lk_law_10
                                  case g212 => exact pa_nil
                    case g170 =>
                      refine' pss_one ?g213
                      case g213 =>
                        refine' ps_set1 (i := 11) sc_law.nd rfl lk_law_11 ?g214
                        case g214 =>
                          refine' pe_op op_add_str ?g215 ?g216
                          case g215 => exact pv1 11 rfl lk_law_11
                          case g216 =>
                            refine' pe_op op_mul_str ?g217 ?g218
                            case g217 => exact pe_str
                            case g218 =>
                              refine' pe_callT call_int1 gk_law_int T.n_int bt_int ?g219
                              case g219 =>
                                refine' pa_c ?g220 ?g221
                                case g220 =>
                                  refine' pe_cmpR op_lt ?g222 ?g223 (nomark _)
                                  case g222 =>
                                    refine' pe_op op_add ?g224 ?g225
                                    case g224 => exact pv1 4 rfl lk_law_4
                                    case g225 => exact pe_int
                                  case g223 =>
                                    refine' pe_callE call_lenH gk_law_len T.n_len bt_len ?g226
                                    case g226 =>
                                      refine' pa_c ?g227 ?g228
                                      case g227 => exact pv1 3 rfl lk_law_3
                                      case g228 => exact pa_nil
                                case g221 => exact pa_nil
                case g159 =>
                  refine' pss_cons ?g229 ?g230
                  case g229 =>
                    refine' ps_comp (i := 12) (N' := ["_law_row"]) (ix := [none]) rfl rfl sc_law.nd rfl lk_law_12 rfl (scp_of ?g231) ?g232 (fun _ _ _ => ?g233) (fun _ _ _ => ?g234) (fun _ _ _ => ?g235)
                    case g231 => exact (by show scpB (defScope s_law) ["_law_script", "_law_first", "_law_wide", "_law_grid", "_law_j", "_law_row", "_law_i", "_law_worth", "_law_big_here", "_law_top", "_law_bottom", "_law_text", "_law_handed", "_law_found"] _ _ _ = true; decide +kernel)
                    case g232 =>
                      refine' pi_listK (K := K) rfl ?g236
                      case g236 => exact pv1 3 rfl lk_law_3
                    case g233 => exact pg_name1 (i := 0) (by show List.Nodup (["_law_row"] : List Str); decide +kernel) rfl rfl
                    case g234 => exact pf_nil
                    case g235 =>
                      refine' pe_callT call_listH rfl T.n_list bt_list ?g237
                      case g237 =>
                        refine' pa_c ?g238 ?g239
                        case g238 => exact pv1 0 rfl rfl
                        case g239 => exact pa_nil
                  case g230 =>
                    refine' pss_cons ?g240 ?g241
                    case g240 =>
                      refine' ps_set1 (i := 13) sc_law.nd rfl lk_law_13 ?g242
                      case g242 =>
                        refine' pe_callD C_grid_shown (hr.mono (by decide)) gk_law_grid_shown ?g243
                        case g243 =>
                          refine' pa_c ?g244 ?g245
                          case g244 => exact pv1 12 rfl lk_law_12
                          case g245 => exact pa_nil
                    case g241 =>
                      refine' pss_one ?g246
                      case g246 =>
                        refine' ps_ret ?g247
                        case g247 =>
                          refine' pe_and ?g248 ?g249
                          case g248 =>
                            refine' pe_callE call_isi gk_law_isinstance T.n_isinstance bt_isinstance ?g250
                            case g250 =>
                              refine' pa_c ?g251 ?g252
                              case g251 => exact pv1 13 rfl lk_law_13
                              case g252 =>
                                refine' pa_c ?g253 ?g254
                                case g253 => exact pe_bty gk_law_str T.n_str bt_str
                                case g254 => exact pa_nil
                          case g249 =>
                            refine' pe_and ?g255 ?g256
                            case g255 =>
                              refine' pe_cmpR op_eq ?g257 ?g258 (nomark _)
                              case g257 => exact pv1 13 rfl lk_law_13
                              case g258 => exact pv1 11 rfl lk_law_11
                            case g256 =>
                              refine' pe_one ?g259
                              case g259 =>
                                refine' pe_cmpR (op_eqD (hr.units)) ?g260 ?g261 (nomark _)
                                case g260 => exact pv1 12 rfl lk_law_12
                                case g261 => exact pv1 3 rfl lk_law_3
    case R =>
      walk_at "rd"
      refine ⟨a, ns, 0, rfl, by decide, hS, fun z0 H0 s0 => ?_⟩
      have hS0 := s0.seq hS
      try walk_at "rd"
      have m8 := Int.emod_nonneg z0 (show (8 : Int) ≠ 0 by decide)
      have l8 := Int.emod_lt_of_pos z0 (show (0 : Int) < 8 by decide)
      have m7 := Int.emod_nonneg (z0 / 8) (show (7 : Int) ≠ 0 by decide)
      have l7 := Int.emod_lt_of_pos (z0 / 8) (show (0 : Int) < 7 by decide)
      refine ⟨by decide, Nat.zero_le _, fun G nG => ⟨by decide, by decide +kernel, by decide, by omega, by omega, ?_⟩⟩
      obtain ⟨W, hW, W7⟩ : ∃ W : Nat, z0 % 8 = W ∧ W ≤ 7 := ⟨(z0 % 8).toNat, by omega, by omega⟩
      obtain ⟨N, hN, N6⟩ : ∃ N : Nat, (z0 / 8 % 7).toNat = N ∧ N ≤ 6 := ⟨_, rfl, by omega⟩
      rw [hW, hN]
      clear m8 l8 m7 l7 hW
      refine go_range (fun j σ H' => ∃ (e4 e5 e6 e7 e8 e9 e10 : Option V) (xs : List V) (gs : List (List (Int × Int))), σ = [some (.ref a), some (.int z0), some (.int W), some (.ref G), e4, e5, e6, e7, e8, e9, e10, none, none, none] ∧ Same H0 H' ∧ H' G = some (.lst xs) ∧ Reps (cutH H0 G H') xs (gs.map dRow) ∧ gs.length = j ∧ ∀ r ∈ gs, (∀ p ∈ r, Bd p) ∧ r.length = W) ⟨none, none, none, none, none, none, none, [], [], rfl, Same.new nG, upd_same, rfl, rfl, fun r hr => by cases hr⟩ ?_ ?_
      · rintro j σ H' hj ⟨e4, e5, e6, e7, e8, e9, e10, xs, gs, rfl, s1, hG, reps, gl, gb⟩
        have hj' : j < N := hj
        walk_at "rd"
        refine ⟨Nat.zero_le _, fun R nR => ⟨by omega, by omega, ?_⟩⟩
        rw [show Int.toNat (W : Int) = W by omega]
        refine go_range (fun i σ H2 => ∃ (e6 e7 e8 e9 e10 : Option V) (ys : List V) (ps : List (Int × Int)), σ = [some (.ref a), some (.int z0), some (.int W), some (.ref G), some (.int (0 + (j : Nat))), some (.ref R), e6, e7, e8, e9, e10, none, none, none] ∧ Same H' H2 ∧ H2 R = some (.lst ys) ∧ Reps (cutH H' R H2) ys (ps.map dF) ∧ ps.length = i ∧ ∀ p ∈ ps, Bd p) ⟨e6, e7, e8, e9, e10, [], [], rfl, Same.new nR, upd_same, rfl, rfl, fun p hp => by cases hp⟩ ?_ ?_
        · rintro i σ H2 hi ⟨e6, e7, e8, e9, e10, ys, ps, rfl, s2, hR, repR, pl, pb⟩
          have hi' : i < W := hi
          walk_at "rd"
          have m40 := Int.emod_nonneg ((0 + (j : Int)) * (W : Int) + (0 + (i : Int))) (show (40 : Int) ≠ 0 by decide)
          have sq : ∀ {Hx : Hp}, Same H2 Hx → SqL K Hx a (ns.map V.int) := fun sx => (s1.trans (s2.trans sx)).seq hS0
          refine ⟨.inl ⟨by omega, by omega⟩, by decide, a, ns, _, rfl, by omega, sq (Same.refl _), fun z1 H3 s3 => ⟨z1, rfl, z1 + (0 + (j : Nat)), rfl, fun pw qw H4 t0 b0 y0 s4 nw nq t1 t2 b1 b2 hp4 hq4 => ?_⟩⟩
          refine ⟨pw, rfl, _, .inl (.inl hp4), rfl, _, _, rfl, _, _, rfl, rfl, qw, rfl, _, .inl (.inl hq4), rfl, _, _, rfl, _, _, rfl, rfl, ?_⟩
          obtain ⟨n1, n2, n3⟩ := nf_small (t := t0) (b := b0) b1 (B := 1000) (by omega)
          obtain ⟨M, hM, M1, hM64⟩ : ∃ M : Nat, (10 : Int) ^ Int.toNat 60 = (M : Int) ∧ 1000 ≤ M ∧ M + 3 < 10 ^ 64 := ⟨10 ^ 60, by decide +kernel, by decide +kernel, by decide +kernel⟩
          have bM : Builtin.Int.intBits (M : Int) ≤ 8000 := by rw [← hM]; decide +kernel
          refine ⟨fun σ Hx => ∃ (t b : Int), σ = [some (.ref a), some (.int z0), some (.int W), some (.ref G), some (.int (0 + (j : Nat))), some (.ref R), some (.int (0 + (i : Nat))), some (.ref qw), some (.int y0), some (.int t), some (.int b), none, none, none] ∧ Same H4 Hx ∧ t.natAbs ≤ M ∧ 0 < b ∧ b.natAbs ≤ M, ?_, ?_⟩
          · walk_at "rd"
            refine ⟨by decide, by decide +kernel, by decide, ite2 (fun _ => ?_) (fun _ => ⟨Same.refl _, by omega, n2, by omega⟩)⟩
            refine ⟨a, ns, _, rfl, by omega, sq (s3.trans s4), fun z2 H6 s6 => ⟨by decide, by decide, by decide, z2, rfl, ?_⟩⟩
            rw [hM]
            refine ⟨by omega, a, ns, _, rfl, by omega, sq (s3.trans (s4.trans s6)), fun z3 H7 s7 => ⟨by decide, by decide, by decide, z3, rfl, by omega, s6.trans s7, ?_⟩⟩
            have a1 := Int.emod_nonneg z3 (show (M : Int) ≠ 0 by omega)
            have a2 := Int.emod_lt_of_pos z3 (show (0 : Int) < (M : Int) by omega)
            have a3 := Int.emod_nonneg z2 (show (M : Int) - 1 ≠ 0 by omega)
            have a4 := Int.emod_lt_of_pos z2 (show (0 : Int) < (M : Int) - 1 by omega)
            exact ⟨by omega, by omega, by omega⟩
          · rintro σ H5 ⟨t, b, rfl, s5, tb, bp, bb⟩
            walk_at "rd"
            have q1 := Int.emod_two_eq (0 + (j : Int))
            have q2 := Int.emod_two_eq (0 + (i : Int))
            have S5 : Same H2 H5 := s3.trans (s4.trans s5)
            refine ⟨by decide, .inl ⟨by decide, by decide⟩, by decide, .inl ⟨by decide, by decide⟩, .inr ⟨by omega, by omega⟩, .inl ⟨_, .inl (.inl (S5 _ _ hR))⟩, ?_⟩
            obtain ⟨x, hx, xb⟩ : ∃ x : Int, (t - 3 * ((0 + (i : Int)) % 2)) * (1 - 2 * ((0 + (j : Int)) % 2)) = x ∧ x.natAbs ≤ M + 3 := by
              refine ⟨_, rfl, ?_⟩
              rcases q1 with q1 | q1 <;> rcases q2 with q2 | q2 <;> rw [q1, q2] <;> omega
            rw [hx]
            refine ⟨x, b, rfl, bp, PyProof.Rows.bits_of_natAbs_le (b := (M : Int)) (by omega) bM, fun pe H6 s6 rep6 => ?_⟩
            obtain ⟨n4, n5, n6⟩ := nf_small (t := x) (b := b) bp xb
            have S6 : Same H2 H6 := S5.trans s6
            have yl : ys.length = ps.length := by rw [repR.length, List.length_map]
            refine ⟨R, ys, .ref pe, rfl, rfl, S6 _ _ hR, small1000 (by omega), ?_, _, upd_same, ps ++ [nf x b], ?_, by simp [pl], fun p hp => ?_⟩
            · exact fun b o hb => by
                rw [upd_ne (ne_of_none hb nR)]
                exact S6 _ _ (s2 _ _ hb)
            · rw [cutH_upd, List.map_append]
              refine Reps.append (Reps.mono (cutH_mono S6) _ repR) ⟨_, _, rfl, Rep.mono (fun b o h => ?_) _ rep6, rfl⟩
              obtain ⟨b1, b2⟩ := newH_of h
              have b3 : H2 b = none := S5.free b1
              rw [cutH_at (ne_of_none hR b3).symm (s2.free b3)]
              exact b2
            · rcases List.mem_append.mp hp with h | h
              · exact pb p h
              · rw [List.mem_singleton.mp h]
                exact ⟨by omega, by omega⟩
        · rintro σ H2 ⟨e6, e7, e8, e9, e10, ys, ps, rfl, s2, hR, repR, pl, pb⟩
          walk_at "rd"
          have xl : xs.length = gs.length := by rw [reps.length, List.length_map]
          refine ⟨.inl ⟨_, .inl (.inl (s2 _ _ hG))⟩, G, xs, .ref R, rfl, rfl, s2 _ _ hG, small1000 (by omega), s1.trans s2 |>.upd nG, _, upd_same, gs ++ [ps], ?_, by simp [gl], fun r hr => ?_⟩
          · rw [cutH_upd, List.map_append]
            have RG : R ≠ G := (ne_of_none hG nR).symm
            have R0 : H0 R = none := s1.free nR
            refine Reps.append (Reps.mono (cutH_mono s2) _ reps) ⟨_, _, rfl, ⟨R, ys, rfl, by rw [cutH_at RG R0]; exact hR, Reps.mono (fun b o h => ?_) _ repR⟩, rfl⟩
            obtain ⟨bR, b1, b2⟩ := cutH_of h
            rw [cutH_at (ne_of_none hG b1).symm (s1.free b1)]
            exact b2
          · rcases List.mem_append.mp hr with h | h
            · exact gb r h
            · rw [List.mem_singleton.mp h]
              exact ⟨pb, pl⟩
      · rintro σ H' ⟨e4, e5, e6, e7, e8, e9, e10, xs, gs, rfl, s1, hG, reps, gl, gb⟩
        have reps1 : Reps H' xs (gs.map dRow) := Reps.mono cutH_same _ reps
        have gb7 : ∀ r ∈ gs, (∀ p ∈ r, Bd p) ∧ r.length ≤ 7 := fun r hr => ⟨(gb r hr).1, by rw [(gb r hr).2]; exact W7⟩
        have hgN : gs.length = N := gl
        have xl : xs.length = gs.length := by rw [reps.length, List.length_map]
        clear reps s1 hS0
        walk_at "rd"
        refine ⟨xs, .inl hG, by omega, by omega, ?_⟩
        rw [show Int.toNat (xs.length : Int) = gs.length by omega]
        have e0 : Str.ofString "" = textT gs 0 := by
          show _ = Str.empty ++ Str.empty
          rw [app_nil]
          decide +kernel
        have sz : 100000 ≤ sizeLine := by rw [sizeLine_eq]; decide
        have c1 : (Str.ofString "/").length = 1 := by decide +kernel
        have c2 : (Str.ofString " ").length = 1 := by decide +kernel
        have c3 : (Str.ofString "\n").length = 1 := by decide +kernel
        refine go_range (fun j σ H2 => ∃ (e4 e5 e6 e7 e8 e9 e10 : Option V), σ = [some (.ref a), some (.int z0), some (.int W), some (.ref G), e4, e5, e6, e7, e8, e9, e10, some (.str (textT gs j)), none, none] ∧ H2 = H') ⟨e4, e5, e6, e7, e8, e9, e10, by rw [e0], rfl⟩ ?_ ?_
        · rintro j σ H2 hj ⟨e4, e5, e6, e7, e8, e9, e10, rfl, rfl⟩
          have hj' : j < gs.length := hj
          obtain ⟨r, q, ys, hr1, hxj, hq, hys⟩ := rows_at reps1 (x := xs[j]'(by omega)) (List.getElem?_eq_getElem _)
          have er : gs[j] = r := by
            rw [List.getElem?_eq_getElem hj'] at hr1
            exact Option.some.inj hr1
          obtain ⟨bd, rW⟩ := gb r (List.mem_of_getElem? hr1)
          have yl : ys.length = r.length := by rw [hys.length, List.length_map]
          have tl := text_len gb7 (by omega) j
          walk_at "rd"
          refine ⟨by omega, by omega, ?_⟩
          rw [show Int.toNat (W : Int) = W by omega]
          refine go_range (fun i σ H3 => ∃ (e6 e9 e10 : Option V), σ = [some (.ref a), some (.int z0), some (.int W), some (.ref G), some (.int (0 + (j : Nat))), e5, e6, e7, e8, e9, e10, some (.str (textT gs j ++ rowT (r.take i))), none, none] ∧ H3 = H2) ⟨e6, e9, e10, by rw [show rowT (r.take 0) = Str.empty from rfl, app_nil], rfl⟩ ?_ ?_
          · rintro i σ H3 hi ⟨e6, e9, e10, rfl, rfl⟩
            have hi' : i < r.length := by rw [rW]; exact hi
            walk_at "rd"
            obtain ⟨d, hd, hrd⟩ := hys.of_get (i := i) (x := ys[i]'(by omega)) (List.getElem?_eq_getElem _)
            rw [List.getElem?_map, List.getElem?_eq_getElem hi'] at hd
            rw [← Option.some.inj hd] at hrd
            obtain ⟨qe, eqe, hqe⟩ := rep_dF hrd
            obtain ⟨b1, b2⟩ := bd r[i] (List.getElem_mem hi')
            refine ⟨xs, hG, .ref q, ?_, q, rfl, ys, hq, .ref qe, ?_, qe, rfl, _, .inl (.inl hqe), rfl, _, _, rfl, _, _, rfl, rfl, .inr ?_⟩
            · rw [Int.zero_add]
              refine atI_nn (by omega) ?_
              rw [Int.toNat_natCast, List.getElem?_eq_getElem (by omega), hxj]
            · rw [Int.zero_add]
              refine atI_nn (by omega) ?_
              rw [Int.toNat_natCast, List.getElem?_eq_getElem (by omega), eqe]
            · obtain ⟨m1, m2⟩ := mul_opt (Str.ofString " ") (0 < 0 + (i : Int))
              have ol := opt_len (Str.ofString " ") (decide (0 < 0 + (i : Int)))
              have rl := (row_ok (r := r.take i) (fun p hp => bd p (List.mem_of_mem_take hp)) (by rw [List.length_take]; omega)).2
              have l1 := tx_len (k := 64) (by decide) b1
              have l2 := tx_len (k := 64) (by decide) b2
              unfold tx at l1 l2
              rw [m2]
              simp only [len_app]
              refine ⟨m1, by omega, _, rfl, log_small b1, by omega, by omega, _, rfl, log_small b2, by omega, ?_⟩
              have e := join_step (Str.ofString " ") fr r i hi'
              unfold rowT
              rw [e, show decide (0 < 0 + (i : Int)) = decide (0 < i) by apply decide_eq_decide.mpr; omega]
              show _ = _ ++ (_ ++ _ ++ (tx r[i].1 ++ Str.ofString "/" ++ tx r[i].2))
              simp only [app_assoc]
              rfl
          · rintro σ H3 ⟨e6, e9, e10, rfl, rfl⟩
            rw [List.take_of_length_le (by omega)]
            walk_at "rd"
            refine ⟨xs, .inl hG, .inr ?_⟩
            obtain ⟨m1, m2⟩ := mul_opt (Str.ofString "\n") (0 + (j : Int) + 1 < (xs.length : Int))
            have ol := opt_len (Str.ofString "\n") (decide (0 + (j : Int) + 1 < (xs.length : Int)))
            have rl := (row_ok (r := r) bd (by omega)).2
            rw [m2]
            refine ⟨m1, by rw [len_app]; omega, ?_⟩
            have e := text_row gs j hj'
            rw [er] at e
            rw [← e, show decide (0 + (j : Int) + 1 < (xs.length : Int)) = decide (j + 1 < gs.length) by apply decide_eq_decide.mpr; omega]
        · rintro σ H2 ⟨e4, e5, e6, e7, e8, e9, e10, rfl, rfl⟩
          rw [text_all]
          walk_at "rd"
          refine ⟨⟨_, .inl (.inl hG)⟩, ?_⟩
          refine comp_any (n := gs.length) (B := fun _ => none) (Pσ := fun σ => ∃ e, σ = [e]) (ds := gs.map dRow) (fun b o e => by cases e) ⟨_, rfl⟩ (by simp) (by omega) (fun i H' hi s' => ⟨xs, xs[i]'(by omega), .inl (.inl (s' _ _ hG)), List.getElem?_eq_getElem _⟩) (fun H' s' => ⟨xs, .inl (.inl (s' _ _ hG)), by omega⟩) ?_ ?_
          · rintro D i x d σ' H4 H4' hD ⟨od, hDo⟩ hs' hi hdi ⟨rfl, hy⟩ ⟨e, rfl⟩ R kR
            have hx := hy _ (.inl (.inl (hs' _ _ hG)))
            obtain ⟨r, q, ys, hr1, rfl, hq, hys⟩ := rows_at reps1 hx
            have hd : d = dRow r := by
              rw [List.getElem?_map, hr1] at hdi
              exact (Option.some.inj hdi).symm
            walk_at "rd"
            refine ⟨ys, .inl (hs' _ _ hq), fun l nl => kR _ _ _ ⟨_, rfl⟩ (Same.new nl) ?_⟩
            rw [hd]
            have lD : l ≠ D := (ne_of_none hDo nl).symm
            refine ⟨l, ys, rfl, by rw [cutH_at lD rfl]; exact upd_same, Reps.mono (fun b o h => ?_) _ hys⟩
            rw [cutH_at (ne_of_none h hD) rfl]
            exact (Same.new nl) _ _ (hs' _ _ h)
          · intro D H3 hD s3 rep3
            have rep4 : Rep H3 (.ref D) (.lst (gs.map dRow)) := Rep.mono newH_same _ rep3
            refine ⟨.ref D, gs, rfl, rep4, gb7, by omega, fun H5 s5 => ⟨"str", rfl, ?_⟩⟩
            rw [if_pos (by decide)]
            refine ⟨rfl, ?_⟩
            rw [if_pos rfl]
            exact ⟨D, G, .lst (gs.map dRow), .lst (gs.map dRow), true, rfl, rfl, Rep.mono s5 _ rep4, ⟨G, xs, rfl, s5 _ _ (s3 _ _ hG), Reps.mono (s3.trans s5) _ reps1⟩, deq_refl _, dep_grid gs, k _⟩
end Rim76
set_option Elab.async false
set_option linter.all false
set_option maxRecDepth 100000
set_option maxHeartbeats 4000000
namespace Rim76
open PySem PySem.Spec PyProof.Rows L2
theorem all_mk {l : PySem.W.OpenLaw} {w : World} {K : PySem.W.Frag} {mg : Str → Option Value} {fa : Addr} (hfa : mg "law" = some (.ref fa)) (T : Txt K mg)  (F_whole_shown : Fn0 K mg "whole_shown" s_whole_shown) (F_fraction_shown : Fn0 K mg "fraction_shown" s_fraction_shown) (F_grid_shown : Fn0 K mg "grid_shown" s_grid_shown) (F__law_cell_at : Fn0 K mg "_law_cell_at" s__law_cell_at) (F__law_big : Fn0 K mg "_law_big" s__law_big) (F__law_low : Fn0 K mg "_law_low" s__law_low) (F__law_worth_of : Fn0 K mg "_law_worth_of" s__law_worth_of) (F_law : Fn0 K mg "law" s_law) :
    ∃ fd : FuncData, (∀ (s : Shared) (v : Value), BindsTo s fd ⟨[v], []⟩ [("_law_script", v)]) ∧ ∀ base : Heap, K.In base → base.Ns mainGlobals mg → FnOk l.prog w K mg base CX0 4 fa fd ["_law_script"] (sp_law K) := by
  obtain ⟨f, fd, FL, m⟩ := F_law
  have e := hfa.symm.trans m
  cases e
  refine ⟨fd, ?_, fun base _ _ => ?_⟩
  · obtain ⟨oc, od, kV, doc, pm, an, cdv, ct, osl, rfl, lk, hcd⟩ := FL.ex
    exact fun s v => .of_eq rfl
  · have c1 := ok_whole_shown (P := l.prog) (w := w) (base := base) T F_whole_shown
    have c2 := ok_fraction_shown T F_fraction_shown c1
    have c3 := ok_grid_shown T F_grid_shown c2
    have d1 := ok__law_cell_at (P := l.prog) (w := w) (base := base) T F__law_cell_at
    have d2 := ok__law_big T F__law_big d1
    have d3 := ok__law_low (P := l.prog) (w := w) (base := base) T F__law_low
    have d4 := ok__law_worth_of T F__law_worth_of d3
    exact ok_law T FL d2 d3 d4 c3
theorem walk {l : PySem.W.OpenLaw} {q : Program} {loose : List Str} {XP : (Str → Option Value) → Heap → Prop} {YP : World → Heap → Prop} {d : DefRec} {K : Params → PySem.W.Frag} (hn : l.most = some 63) (hdf : d.params.defaults = [])
    (hY : ∀ (w : World) (h : Heap), YP w h → (K w.params).In h)
    (F : ∀ (w : World) (mg : Str → Option Value) (fa : Addr) (h : Heap), (K w.params).In h → h.Ns mainGlobals mg → mg d.name = some (.ref fa) →
      ∃ fd : FuncData, (∀ (s : Shared) (u : Value), BindsTo s fd ⟨[u], []⟩ [("_law_script", u)]) ∧ ∀ base : Heap, (K w.params).In base → base.Ns mainGlobals mg → FnOk l.prog w (K w.params) mg base CX0 4 fa fd ["_law_script"] (sp_law (K w.params))) :
    PySem.W.WalkO q loose XP YP l.row.toRowW d [] (fun f vs => PySem.call f vs) :=
  L2.walk_of (n := 63) (k := 4) (x := "_law_script") (CX := fun _ => CX0) (sp := fun w => sp_law (K w.params)) hn (by decide) hdf ⟨rfl, by decide, by decide⟩ hY F (fun _ _ a ns hl _ hS => ⟨a, ns, rfl, hS, fun _ => rfl⟩) fun _ _ _ _ _ z => z
end Rim76
open PySem PySem.W PyProof.Rows
set_option maxRecDepth 100000 in
set_option maxHeartbeats 0 in
theorem PySem.Challenge.cw_rimread_k76_grids_written_holds : PySem.Challenge.rw_rimread_k76_grids_written.Holds := by
  w_on; o_law; k_head; (case hw => w_witness2)
  k_fill
  refine Rim76.walk (l := PySem.Challenge.rw_rimread_k76_grids_written) rfl rfl (fun w h Y => PySem.W.kIn_of Y) ?F
  case F =>
    intro w mg fa h KX G hmg
    refine Rim76.all_mk  hmg ⟨?n_abs, ?n_len, ?n_range, ?n_list, ?n_isinstance, ?n_int, ?n_str, ?n_reversed⟩ ?f_whole_shown ?f_fraction_shown ?f_grid_shown ?f__law_cell_at ?f__law_big ?f__law_low ?f__law_worth_of ?f_law
    case n_abs => refine' PySem.W.mg_none_of KX G ?a; (case a => k_is)
    case n_len => refine' PySem.W.mg_none_of KX G ?a; (case a => k_is)
    case n_range => refine' PySem.W.mg_none_of KX G ?a; (case a => k_is)
    case n_list => refine' PySem.W.mg_none_of KX G ?a; (case a => k_is)
    case n_isinstance => refine' PySem.W.mg_none_of KX G ?a; (case a => k_is)
    case n_int => refine' PySem.W.mg_none_of KX G ?a; (case a => k_is)
    case n_str => refine' PySem.W.mg_none_of KX G ?a; (case a => k_is)
    case n_reversed => refine' PySem.W.mg_none_of KX G ?a; (case a => k_is)
    case f_whole_shown => refine' L2.fn0_mk KX G ?a ?l ?c ?k; (case a => k_is); (case l => k_is); (case c => k_is); (case k => k_is)
    case f_fraction_shown => refine' L2.fn0_mk KX G ?a ?l ?c ?k; (case a => k_is); (case l => k_is); (case c => k_is); (case k => k_is)
    case f_grid_shown => refine' L2.fn0_mk KX G ?a ?l ?c ?k; (case a => k_is); (case l => k_is); (case c => k_is); (case k => k_is)
    case f__law_cell_at => refine' L2.fn0_mk KX G ?a ?l ?c ?k; (case a => k_is); (case l => k_is); (case c => k_is); (case k => k_is)
    case f__law_big => refine' L2.fn0_mk KX G ?a ?l ?c ?k; (case a => k_is); (case l => k_is); (case c => k_is); (case k => k_is)
    case f__law_low => refine' L2.fn0_mk KX G ?a ?l ?c ?k; (case a => k_is); (case l => k_is); (case c => k_is); (case k => k_is)
    case f__law_worth_of => refine' L2.fn0_mk KX G ?a ?l ?c ?k; (case a => k_is); (case l => k_is); (case c => k_is); (case k => k_is)
    case f_law => refine' L2.fn0_mk KX G ?a ?l ?c ?k; (case a => k_is); (case l => k_is); (case c => k_is); (case k => k_is)
