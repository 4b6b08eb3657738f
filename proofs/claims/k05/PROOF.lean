import PyProof.Rows.All
import Wide.All
import OpenK.AllK
import Wide.FinOn
import Lean
import PyProof.EqAt
import PyProof.EqKinds
import PyProof.TupleCall
import PySem.Challenge.RW_rimread_k05_solved
set_option Elab.async false
set_option linter.all false
set_option maxRecDepth 100000
namespace L2
open PySem PySem.Spec PyProof.Rows
noncomputable abbrev Key := Sum Int Str
noncomputable def keyIs : Key → Value → Bool
  | .inl k, v => Value.isInt k v
  | .inr x, v => Value.isStrOf x v
noncomputable def keyH (w : World) : Key → Int
  | .inl k => hashInt k
  | .inr x => hashStr w x
theorem keyIs_shape : ∀ {k : Key} {v : Value}, keyIs k v = true → (∃ i t, k = Sum.inl i ∧ v = Value.int i t) ∨ (∃ x t, k = Sum.inr x ∧ v = Value.str x t)
  | .inl i, v, h => by
    obtain ⟨t, e⟩ := Value.isInt_shape (k := i) (v := v) h
    exact .inl ⟨i, t, rfl, e⟩
  | .inr x, v, h => by
    obtain ⟨t, e⟩ := Value.isStrOf_shape (x := x) (v := v) h
    exact .inr ⟨x, t, rfl, e⟩
theorem key_ll (a b : Int) : decide ((Sum.inl a : Key) = Sum.inl b) = (a == b) := by
  by_cases e : a = b
  · subst e; simp
  · have h : ¬ (Sum.inl a : Key) = Sum.inl b := fun q => e (Sum.inl.inj q)
    rw [decide_eq_false h]
    exact (beq_eq_false_iff_ne.mpr e).symm
theorem key_rr (a b : Str) : decide ((Sum.inr a : Key) = Sum.inr b) = decide (a = b) := by
  by_cases e : a = b
  · subst e; simp
  · have h : ¬ (Sum.inr a : Key) = Sum.inr b := fun q => e (Sum.inr.inj q)
    rw [decide_eq_false h, decide_eq_false e]
theorem key_lr (a : Int) (b : Str) : decide ((Sum.inl a : Key) = Sum.inr b) = false := decide_eq_false (fun q => nomatch q)
theorem key_rl (a : Str) (b : Int) : decide ((Sum.inr a : Key) = Sum.inl b) = false := decide_eq_false (fun q => nomatch q)
noncomputable def mixKind (prog : Program) (w : World) : PySem.KeyKind prog w Key where
  is := keyIs
  hash := keyH w
  inj := fun v a b ha hb => by
    rcases keyIs_shape ha with ⟨i, t, rfl, rfl⟩ | ⟨x, t, rfl, rfl⟩
    · rcases keyIs_shape hb with ⟨j, u, rfl, e⟩ | ⟨y, u, rfl, e⟩
      · injection e with e1 _; rw [e1]
      · exact nomatch e
    · rcases keyIs_shape hb with ⟨j, u, rfl, e⟩ | ⟨y, u, rfl, e⟩
      · exact nomatch e
      · injection e with e1 _; rw [e1]
  byValue := fun k v h => by
    rcases keyIs_shape h with ⟨i, t, rfl, rfl⟩ | ⟨x, t, rfl, rfl⟩ <;> rfl
  pyHash := fun hv h => by
    rcases keyIs_shape hv with ⟨i, t, rfl, rfl⟩ | ⟨x, t, rfl, rfl⟩
    · exact wpAny_pyHash_int h
    · exact wpAny_pyHash_str h
  eqBool := fun hu hv h => by
    rcases keyIs_shape hu with ⟨i, t, rfl, rfl⟩ | ⟨x, t, rfl, rfl⟩
    · rcases keyIs_shape hv with ⟨j, u, rfl, rfl⟩ | ⟨y, u, rfl, rfl⟩
      · rw [key_ll] at h; exact wpAny_eqBool_int h
      · rw [key_lr] at h; exact SeqAt.EqAt.int_str i t y u _ _ _ _ h
    · rcases keyIs_shape hv with ⟨j, u, rfl, rfl⟩ | ⟨y, u, rfl, rfl⟩
      · rw [key_rl] at h; exact SeqAt.EqAt.str_int x t j u _ _ _ _ h
      · rw [key_rr] at h; exact wpAny_eqBool_str h
  «strs» := fun k x t v h => by
    rcases keyIs_shape h with ⟨i, u, rfl, e⟩ | ⟨y, u, rfl, e⟩
    · exact nomatch e
    · injection e with e1 _
      subst e1
      cases v <;> rfl
end L2
namespace L2
open PySem PySem.Spec PyProof.Rows
inductive V where
  | non | bl (b : Bool) | int (i : Int) | str (x : Str) | byt (b : Array UInt8) | flt (b : UInt64) | ref (a : Addr) | ty (n : String)
  deriving DecidableEq
noncomputable def RelV : V → Value → Prop
  | .non, u => u = Value.none
  | .bl b, u => u = Value.bool b
  | .int i, u => ∃ t, u = Value.int i t
  | .str x, u => ∃ t, u = Value.str x t
  | .byt b, u => ∃ t, u = Value.bytes b t
  | .flt b, u => ∃ t, u = Value.float b t
  | .ref a, u => u = Value.ref a
  | .ty n, u => u = Value.type n
noncomputable abbrev Vals : List V → List Value → Prop := Paired RelV
theorem Vals.length {xs : List V} {us : List Value} (r : Vals xs us) : xs.length = us.length := Paired.length r
theorem Vals.get : ∀ {xs : List V} {us : List Value} {i : Nat} {x : V}, Vals xs us → xs[i]? = some x → ∃ u, us[i]? = some u ∧ RelV x u
  | _, _, _, _, .nil, e => by simp at e
  | _, _, 0, _, .cons r _, e => by simp at e; subst e; exact ⟨_, rfl, r⟩
  | _, _, i + 1, x, .cons _ t, e => by
    obtain ⟨u, h1, h2⟩ := Vals.get (i := i) (x := x) t (by simpa using e)
    exact ⟨u, by simpa using h1, h2⟩
theorem Vals.set {x : V} {u : Value} (r : RelV x u) : ∀ {xs : List V} {us : List Value} (i : Nat), Vals xs us → Vals (xs.set i x) (us.set i u)
  | _, _, _, .nil => .nil
  | _, _, 0, .cons _ t => .cons r t
  | _, _, i + 1, .cons q t => .cons q (Vals.set r i t)
theorem Vals.append : ∀ {xs ys : List V} {us ws : List Value}, Vals xs us → Vals ys ws → Vals (xs ++ ys) (us ++ ws)
  | _, _, _, _, .nil, s => s
  | _, _, _, _, .cons r t, s => .cons r (Vals.append t s)
theorem Vals.take : ∀ {xs : List V} {us : List Value} (n : Nat), Vals xs us → Vals (xs.take n) (us.take n)
  | _, _, 0, _ => .nil
  | _, _, _ + 1, .nil => .nil
  | _, _, n + 1, .cons r t => .cons r (Vals.take n t)
theorem Vals.drop : ∀ {xs : List V} {us : List Value} (n : Nat), Vals xs us → Vals (xs.drop n) (us.drop n)
  | _, _, 0, r => r
  | _, _, _ + 1, .nil => .nil
  | _, _, n + 1, .cons _ t => Vals.drop n t
noncomputable def RelO : Option V → Option Value → Prop
  | some v, some u => RelV v u
  | none, none => True
  | _, _ => False
noncomputable def KV {κ : Type} : List (κ × V) → List (κ × Value) → Prop := Paired fun (p : κ × V) (q : κ × Value) => p.1 = q.1 ∧ RelV p.2 q.2
noncomputable def kV : Key → V
  | .inl i => .int i
  | .inr x => .str x
inductive HO where
  | lst (xs : List V)
  | tup (xs : List V)
  | dK (kvs : List (Key × V)) | dT (kvs : List (List Key × V))
  | set (S : Int → Bool) (n : Nat)
  | ins (C dx : Addr) (fs : List (Str × V))
  | own (x : Addr)
  | xd (fs : List (Str × V))
  | met (f x : Addr)
  | rng (lo hi : Int)
  | frz (o : Obj) (u : HO)
  | tbl (ps : Array Value)
  | ext (φ : Heap → Prop)
noncomputable abbrev Hp := Addr → Option HO
noncomputable def upd (H : Hp) (a : Addr) (o : HO) : Hp := fun b => if b = a then some o else H b
theorem upd_same {H : Hp} {a : Addr} {o : HO} : upd H a o a = some o := by unfold upd; rw [if_pos rfl]
theorem upd_ne {H : Hp} {a b : Addr} {o : HO} (h : b ≠ a) : upd H a o b = H b := by unfold upd; rw [if_neg h]
theorem upd_upd {H : Hp} {a : Addr} {o u : HO} : upd (upd H a o) a u = upd H a u := by
  funext b; unfold upd; split <;> rfl
theorem ne_of_none {H : Hp} {a b : Addr} {o : HO} (h : H a = some o) (h' : H b = none) : a ≠ b := by
  intro e; subst e; rw [h] at h'; cases h'
section
variable (P : Program) (w : World)
noncomputable def ObjOk (H : Hp) (h : Heap) (a : Addr) : HO → Prop
  | .lst xs => xs.length ≤ sizeLine ∧ ∃ (its : List Value) (n : Nat), Vals xs its ∧ h.get? a = some { cls := .type "list", data := .seq its.toArray n }
  | .tup xs => xs.length ≤ sizeLine ∧ ∃ its : List Value, Vals xs its ∧ IsTup h a its.toArray
  | .dK kvs => kvs.length ≤ sizeLine ∧ (a == sysModules) = false ∧ ∃ vs, KV kvs vs ∧ h.DictOf (mixKind P w) a vs
  | .dT kvs => kvs.length ≤ sizeLine ∧ (a == sysModules) = false ∧ ∃ xs : List (List Key × Addr × Value),
      Paired (fun (p : List Key × V) (q : List Key × Addr × Value) => p.1 = q.1 ∧ H q.2.1 = some (.tup (p.1.map kV)) ∧ RelV p.2 q.2.2) kvs xs ∧
      ∃ o es ep, h.get? a = some o ∧ o.ExactDict ∧ o.data = .dict es ep ∧ es.toList = xs.map (entryOfKey (tupleKind (mixKind P w))) ∧ (xs.map (·.1)).Nodup
  | .set S n => h.SetOf (intKind P w) a S n
  | .ins C dx fs => H dx = some (.own a) ∧ fs.length ≤ 1000 ∧ dx ≠ a ∧ h.get? a = some (PySem.W.instObj C dx) ∧
      ∃ mA, h.Ns1 dx mA ∧ (∀ f, RelO (fs.lookup f) (mA f)) ∧ PySem.Within mA (fs.map (·.1))
  | .own _ => ∃ o, h.get? a = some o
  | .xd fs => ∃ mA, h.Ns1 a mA ∧ ∀ f, RelO (fs.lookup f) (mA f)
  | .rng lo hi => ∃ t u v, h.get? a = some { cls := .type "range", data := .fields #[.int lo t, .int hi u, .int 1 v] }
  | .frz o u => h.get? a = some o ∧ ObjOk H h a u
  | .tbl ps => h.get? a = some { cls := .none, data := .fields ps }
  | .met f x => h.get? a = some (PySem.W.methodObj (.ref f) (.ref x))
  | .ext φ => φ h ∧ (∃ o, h.get? a = some o) ∧ ∀ h1 h2 : Heap, φ h1 → (∀ o, h1.get? a = some o → h2.get? a = some o) → φ h2
noncomputable def HOk (H : Hp) (h : Heap) : Prop := ∀ a o, H a = some o → ObjOk P w H h a o
end
section
variable {P : Program} {w : World} {H H' : Hp} {h h' : Heap} {a : Addr} {o : HO}
theorem ObjOk.lt (x : ObjOk P w H h a o) : a < h.objs.size := by
  cases o with
  | lst xs => obtain ⟨_, _, _, _, e⟩ := x; exact Heap.lt_size e
  | tup xs => obtain ⟨_, _, _, p⟩ := x; exact p.lt
  | dK kvs => obtain ⟨_, _, _, _, o, _, _, e, _⟩ := x; exact Heap.lt_size e
  | dT kvs => obtain ⟨_, _, _, _, o, _, _, e, _⟩ := x; exact Heap.lt_size e
  | set S n => obtain ⟨o, _, _, _, e, _⟩ := x; exact Heap.lt_size e
  | ins C dx fs => obtain ⟨_, _, _, e, _⟩ := x; exact Heap.lt_size e
  | own y => obtain ⟨_, e⟩ := x; exact Heap.lt_size e
  | xd fs => obtain ⟨_, ⟨_, _, _, e, _⟩, _⟩ := x; exact Heap.lt_size e
  | rng lo hi => obtain ⟨_, _, _, e⟩ := x; exact Heap.lt_size e
  | frz ob u => obtain ⟨e, _⟩ := x; exact Heap.lt_size e
  | tbl ps => exact Heap.lt_size (show h.get? a = some _ from x)
  | met f y => exact Heap.lt_size (show h.get? a = some _ from x)
  | ext φ => obtain ⟨_, ⟨_, e⟩, _⟩ := x; exact Heap.lt_size e
theorem Paired.mapP {α β : Type} {F G : α → β → Prop} : ∀ {l₁ : List α} {l₂ : List β}, Paired F l₁ l₂ → (∀ a b, F a b → G a b) → Paired G l₁ l₂
  | _, _, .nil, _ => .nil
  | _, _, .cons r t, f => .cons (f _ _ r) (Paired.mapP t f)
theorem ObjOk.stay (x : ObjOk P w H h a o) (k : ∀ b u, (b = a ∨ H b = some (.own a)) → h.get? b = some u → h'.get? b = some u)
    (ho : ∀ b, H b = some (.own a) → H' b = some (.own a)) (ht : ∀ b xs, H b = some (.tup xs) → H' b = some (.tup xs)) : ObjOk P w H' h' a o := by
  induction o with
  | lst xs => obtain ⟨z, its, n, r, e⟩ := x; exact ⟨z, its, n, r, k _ _ (.inl rfl) e⟩
  | tup xs => obtain ⟨z, its, r, ob, e, c⟩ := x; exact ⟨z, its, r, ob, k _ _ (.inl rfl) e, c⟩
  | dK kvs => obtain ⟨z, y, vs, r, ob, es, ep, e, c⟩ := x; exact ⟨z, y, vs, r, ob, es, ep, k _ _ (.inl rfl) e, c⟩
  | dT kvs =>
    obtain ⟨z, y, xs, r, ob, es, ep, e, c⟩ := x
    exact ⟨z, y, xs, Paired.mapP r fun p q z => ⟨z.1, ht _ _ z.2.1, z.2.2⟩, ob, es, ep, k _ _ (.inl rfl) e, c⟩
  | set S n => obtain ⟨ob, es, ep, t, e, c⟩ := x; exact ⟨ob, es, ep, t, k _ _ (.inl rfl) e, c⟩
  | ins C dx fs =>
    obtain ⟨d, z, ne, e, mA, ⟨od, es, ep, e2, c⟩, r⟩ := x
    exact ⟨ho _ d, z, ne, k _ _ (.inl rfl) e, mA, ⟨od, es, ep, k _ _ (.inr d) e2, c⟩, r⟩
  | own y => obtain ⟨ob, e⟩ := x; exact ⟨ob, k _ _ (.inl rfl) e⟩
  | xd fs => obtain ⟨mA, ⟨od, es, ep, e, c⟩, r⟩ := x; exact ⟨mA, ⟨od, es, ep, k _ _ (.inl rfl) e, c⟩, r⟩
  | rng lo hi => obtain ⟨t, u, v, e⟩ := x; exact ⟨t, u, v, k _ _ (.inl rfl) e⟩
  | frz ob u ih => obtain ⟨e, q⟩ := x; exact ⟨k _ _ (.inl rfl) e, ih q⟩
  | tbl ps =>
    have e : h.get? a = some { cls := .none, data := .fields ps } := x
    show h'.get? a = some { cls := .none, data := .fields ps }
    exact k a _ (.inl rfl) e
  | met f y =>
    have e : h.get? a = some (PySem.W.methodObj (.ref f) (.ref y)) := x
    show h'.get? a = some (PySem.W.methodObj (.ref f) (.ref y))
    exact k a _ (.inl rfl) e
  | ext φ => obtain ⟨p, ⟨o, e⟩, st⟩ := x; exact ⟨st _ _ p fun o q => k _ _ (.inl rfl) q, ⟨o, k _ _ (.inl rfl) e⟩, st⟩
theorem HOk.lt (x : HOk P w H h) (e : H a = some o) : a < h.objs.size := (x a o e).lt
theorem HOk.fresh (x : HOk P w H h) (e : h.objs.size ≤ a) : H a = none := by
  cases q : H a with
  | none => rfl
  | some u => exact absurd (Nat.lt_of_lt_of_le (x.lt q) e) (Nat.lt_irrefl _)
theorem HOk.kept (x : HOk P w H h) (k : ∀ b u, h.get? b = some u → h'.get? b = some u) : HOk P w H h' := fun a o e =>
  (x a o e).stay (fun b u _ q => k b u q) (fun _ q => q) fun _ _ q => q
theorem HOk.laid (x : HOk P w H h) (k : ∀ b u, h.get? b = some u → h'.get? b = some u) (hp : h.objs.size ≤ a) (new : ObjOk P w (upd H a o) h' a o) : HOk P w (upd H a o) h' := fun b u e => by
  have hn := x.fresh hp
  by_cases hb : b = a
  · subst hb; rw [upd_same] at e; cases e; exact new
  · rw [upd_ne hb] at e
    exact (x b u e).stay (fun c v _ q => k c v q) (fun c q => by rw [upd_ne (ne_of_none q hn)]; exact q) fun c xs q => by rw [upd_ne (ne_of_none q hn)]; exact q
end
noncomputable def Rd (H : Hp) (a : Addr) (u : HO) : Prop := H a = some u ∨ ∃ o, H a = some (.frz o u)
theorem Rd.of {H : Hp} {a : Addr} {u : HO} (h : H a = some u) : Rd H a u := .inl h
theorem Rd.ok {P : Program} {w : World} {H : Hp} {h : Heap} {a : Addr} {u : HO} (r : Rd H a u) (x : HOk P w H h) : ObjOk P w H h a u := by
  rcases r with r | ⟨o, r⟩
  · exact x a u r
  · obtain ⟨_, q⟩ := x a _ r
    exact q
noncomputable def Mut : Option HO → Prop
  | some (.lst _) => True
  | some (.dK _) => True
  | some (.dT _) => True
  | some (.set _ _) => True
  | some (.ins _ _ _) => True
  | some (.ext _) => True
  | _ => False
section
variable {P : Program} {w : World} {H : Hp} {h h' : Heap} {x e : Addr} {o' : HO}
theorem HOk.write (ok : HOk P w H h) (mu : Mut (H x)) (he : e = x ∨ H e = some (.own x)) (k : ∀ b u, b ≠ e → h.get? b = some u → h'.get? b = some u) (heo : ∃ u, h'.get? e = some u)
    (new : ObjOk P w (upd H x o') h' x o') : HOk P w (upd H x o') h' := fun b u q => by
  have nown : ∀ c y, H c = some (.own y) → c ≠ x := fun c y r z => by subst z; rw [r] at mu; exact mu
  have ntup : ∀ c xs, H c = some (.tup xs) → c ≠ x := fun c xs r z => by subst z; rw [r] at mu; exact mu
  by_cases hb : b = x
  · subst hb; rw [upd_same] at q; cases q; exact new
  · rw [upd_ne hb] at q
    by_cases hbe : b = e
    · have q' : H b = some (.own x) := by
        rcases he with z | z
        · exact absurd (hbe.trans z) hb
        · rw [hbe]; exact z
      rw [q] at q'; cases q'
      obtain ⟨v, hv⟩ := heo
      exact ⟨v, by rw [hbe]; exact hv⟩
    · refine (ok b u q).stay (fun c v hc r => k c v ?_ r) (fun c r => by rw [upd_ne (nown c b r)]; exact r) fun c xs r => by rw [upd_ne (ntup c xs r)]; exact r
      rcases hc with rfl | hc
      · exact hbe
      · rintro rfl
        rcases he with z | z
        · exact nown c b hc z
        · rw [hc] at z; cases z; exact hb rfl
end
structure Un (fs ex : List Addr) (H H' : Hp) (h h' : Heap) : Prop where
  keep : ∀ b o, h.get? b = some o → H b = none → b ∉ fs → b ∉ ex → h'.get? b = some o
  slot : ∀ b o, h.get? b = some o → H b = none → b ∈ fs → b ∉ ex → ∃ sl, h'.get? b = some { o with slots := sl }
  free : ∀ b o, h.get? b = some o → H b = none → b ∉ ex → H' b = none
  there : ∀ b o, h.get? b = some o → b ∉ ex → ∃ o', h'.get? b = some o'
  tups : ∀ b xs, H b = some (.tup xs) → H' b = some (.tup xs)
  frzs : ∀ b o u, H b = some (.frz o u) → H' b = some (.frz o u)
  tbls : ∀ b ps, H b = some (.tbl ps) → ∃ more, H' b = some (.tbl (ps ++ more))
section
variable {fs fs' ex ex' : List Addr} {H H1 H2 : Hp} {h h1 h2 h' : Heap} {a x e : Addr} {o : HO}
theorem Un.any (u : Un fs ex H H1 h h1) {b : Addr} {ob : Obj} (q : h.get? b = some ob) (n : H b = none) (hx : b ∉ ex) : ∃ sl, h1.get? b = some { ob with slots := sl } := by
  by_cases hb : b ∈ fs
  · exact u.slot b ob q n hb hx
  · exact ⟨ob.slots, u.keep b ob q n hb hx⟩
theorem Un.trans (a : Un fs ex H H1 h h1) (b : Un fs ex H1 H2 h1 h2) : Un fs ex H H2 h h2 where
  keep := fun c ob q n hc hx => b.keep c ob (a.keep c ob q n hc hx) (a.free c ob q n hx) hc hx
  slot := fun c ob q n hc hx => by
    obtain ⟨sl, e1⟩ := a.slot c ob q n hc hx
    obtain ⟨sl', e2⟩ := b.slot c _ e1 (a.free c ob q n hx) hc hx
    exact ⟨sl', e2⟩
  free := fun c ob q n hx => by
    obtain ⟨o', e1⟩ := a.there c ob q hx
    exact b.free c o' e1 (a.free c ob q n hx) hx
  there := fun c ob q hx => by
    obtain ⟨o', e1⟩ := a.there c ob q hx
    exact b.there c o' e1 hx
  tups := fun c xs q => b.tups c xs (a.tups c xs q)
  frzs := fun c ob xs q => b.frzs c ob xs (a.frzs c ob xs q)
  tbls := fun c ps q => by
    obtain ⟨m1, e1⟩ := a.tbls c ps q
    obtain ⟨m2, e2⟩ := b.tbls c _ e1
    exact ⟨m1 ++ m2, by rw [e2, Array.append_assoc]⟩
theorem Un.kept (k : ∀ b u, h.get? b = some u → h'.get? b = some u) : Un fs ex H H h h' :=
  ⟨fun b ob q _ _ _ => k b ob q, fun b ob q _ _ _ => ⟨ob.slots, k b ob q⟩, fun _ _ _ n _ => n, fun b ob q _ => ⟨ob, k b ob q⟩, fun _ _ q => q, fun _ _ _ q => q, fun _ ps q => ⟨#[], by rw [q]; simp⟩⟩
theorem Un.refl : Un fs ex H H h h := Un.kept fun _ _ q => q
theorem Un.laid (k : ∀ b u, h.get? b = some u → h'.get? b = some u) (hp : h.objs.size ≤ a) (hn : H a = none) : Un fs ex H (upd H a o) h h' where
  keep := fun b u q _ _ _ => k b u q
  slot := fun b u q _ _ _ => ⟨u.slots, k b u q⟩
  free := fun b u q n _ => by rw [upd_ne (Nat.ne_of_lt (Nat.lt_of_lt_of_le (Heap.lt_size q) hp))]; exact n
  there := fun b u q _ => ⟨u, k b u q⟩
  tups := fun b xs q => by rw [upd_ne (ne_of_none q hn)]; exact q
  frzs := fun b u xs q => by rw [upd_ne (ne_of_none q hn)]; exact q
  tbls := fun b ps q => ⟨#[], by rw [upd_ne (ne_of_none q hn), q]; simp⟩
theorem Un.write (mu : Mut (H x)) (he : e = x ∨ H e = some (.own x)) (k : ∀ b u, b ≠ e → h.get? b = some u → h'.get? b = some u) (heo : ∃ u, h'.get? e = some u) : Un fs ex H (upd H x o) h h' := by
  have hx : ∀ b, H b = none → b ≠ x := fun b n z => by subst z; rw [n] at mu; exact mu
  have hb : ∀ b, H b = none → b ≠ e := fun b n z => by
    subst z
    rcases he with r | r
    · exact hx b n r
    · rw [n] at r; cases r
  have hm : ∀ b u, H b = some u → ¬ Mut (some u) → b ≠ x := fun b u q nm z => by subst z; rw [q] at mu; exact nm mu
  refine ⟨fun b u q n _ _ => k b u (hb b n) q, fun b u q n _ _ => ⟨u.slots, k b u (hb b n) q⟩, fun b u q n _ => by rw [upd_ne (hx b n)]; exact n, fun b u q _ => ?_,
    fun b xs q => by rw [upd_ne (hm b _ q fun z => z)]; exact q, fun b u xs q => by rw [upd_ne (hm b _ q fun z => z)]; exact q, fun b ps q => ⟨#[], by rw [upd_ne (hm b _ q fun z => z), q]; simp⟩⟩
  by_cases hbe : b = e
  · subst hbe; exact heo
  · exact ⟨u, k b u hbe q⟩
theorem Un.mono (u : Un fs ex H H1 h h1) (hs : ∀ b ∈ fs, b ∈ fs') (hx : ∀ b ∈ ex, b ∈ ex') : Un fs' ex' H H1 h h1 :=
  ⟨fun b ob q n hb he => u.keep b ob q n (fun z => hb (hs b z)) fun z => he (hx b z), fun _ _ q n _ he => u.any q n fun z => he (hx _ z), fun b ob q n he => u.free b ob q n fun z => he (hx b z), fun b ob q he => u.there b ob q fun z => he (hx b z), u.tups, u.frzs, u.tbls⟩
end
noncomputable def trk (h : Heap) (H : Hp) : List Addr := (List.range h.objs.size).filter fun a => (H a).isSome
noncomputable def hidT (h : Heap) (H : Hp) : Heap := PySem.W.hideAll h (trk h H)
theorem hidT_size (h : Heap) (H : Hp) : (hidT h H).objs.size = h.objs.size := PySem.W.hideAll_size _ _
theorem hidT_get {h : Heap} {H : Hp} {b : Addr} {o : Obj} (e : h.get? b = some o) (n : H b = none) : (hidT h H).get? b = some o :=
  PySem.W.hideAll_get _ e fun hm => by
    have q : (H b).isSome = true := (List.mem_filter.mp hm).2
    rw [n] at q; simp at q
theorem of_hidT {h : Heap} {H : Hp} {b : Addr} {o : Obj} (e : (hidT h H).get? b = some o) : h.get? b = some o ∧ H b = none := by
  have e' : h.get? b = some o := PySem.W.of_hideAll (trk h H) e
  refine ⟨e', ?_⟩
  cases q : H b with
  | none => rfl
  | some x =>
    have hm : b ∈ trk h H := List.mem_filter.mpr ⟨List.mem_range.mpr (Heap.lt_size e'), by simp [q]⟩
    have z : (hidT h H).get? b = none := PySem.W.hideAll_none (trk h H) hm
    rw [z] at e; cases e
noncomputable def allNews (g h : Heap) (L : Addr) : List (Addr × Obj) := (List.range h.objs.size).filterMap fun a => if a = L ∨ (g.get? a).isSome = true then none else (h.get? a).map fun o => (a, o)
noncomputable def rest (g h : Heap) (L d : Addr) : List (Addr × Obj) := (allNews g h L).filter fun p => decide (p.1 ≠ d)
end L2
namespace L2
open PySem PySem.Spec PyProof.Rows
structure Mod (K : PySem.W.Frag) (mg : Str → Option Value) (base : Heap) : Prop where
  kin : K.In base
  glob : base.Ns mainGlobals mg
  blt : ∃ mb, base.Ns builtinsNs mb ∧ ∀ x : Str, x ≠ "__name__" → mb x = bootBuiltins x
  nolimit : base.NoLimit
structure Cx where
  prog : Program
  w : World
  K : PySem.W.Frag
  mg : Str → Option Value
  base : Heap
  A : Around
  N : List Str
  s₀ : Shared
  H₀ : Hp
  env : Env
  outer : List Env
  stack : List Env
  ex : List Addr
  fn : Str → Bool
  calm : Bool
  pn : List (Addr × Obj)
  xe : Value → Shared → Prop
noncomputable def frs (l : List Env) : List Addr := l.filterMap (·.frame)
noncomputable abbrev Cx.fs (X : Cx) : List Addr := frs X.outer
noncomputable def Vis (sc : Scope) (x : Str) : Prop := sc.names.lookup x = some .local ∨ sc.names.lookup x = some .cell ∨ sc.names.lookup x = some .free
noncomputable def Loc (sc : Scope) (x : Str) : Prop := sc.names.lookup x = some .local ∨ sc.names.lookup x = some .cell
noncomputable def Look (env : Env) (h : Heap) (m : Str → Option Value) (x : Str) (u : Value) : Prop :=
  (env.kindOf x = some .local ∧ m x = some u) ∨ ((env.kindOf x = some .cell ∨ env.kindOf x = some .free) ∧ ∃ c, env.cells.lookup x = some c ∧ h.IsCell c (some u))
structure Cx.Ok (X : Cx) : Prop where
  mod : Mod X.K X.mg X.base
  kind : X.env.scope.kind = .function
  glob : X.env.globals = mainGlobals
  blt : X.env.builtins = builtinsNs
  above : X.s₀.heap.objs.size ≤ X.env.locals
  inj : ∀ x y c, X.env.cells.lookup x = some c → X.env.cells.lookup y = some c → x = y
  has : ∀ x, (X.env.kindOf x = some .cell ∨ X.env.kindOf x = some .free) → ∃ c, X.env.cells.lookup x = some c
  cab : ∀ x c, X.fn x = true → X.env.cells.lookup x = some c → X.s₀.heap.objs.size ≤ c
  hd : X.calm = true → X.A.handled = none
  frames : X.A.frames = some X.stack
  stk : X.stack = X.outer ∨ (X.stack = X.env :: X.outer ∧ X.env.frame = some X.env.locals)
  exf : ∀ b ∈ X.ex, b ≠ X.env.locals ∧ ∀ x c, X.env.cells.lookup x = some c → c ≠ b
  bs : ∀ b o, X.base.get? b = some o → X.s₀.heap.get? b = some o ∧ X.H₀ b = none
  bsz : X.base.objs.size ≤ X.s₀.heap.objs.size
  noex : ∀ b o, X.base.get? b = some o → b ∉ X.ex
  exfs : ∀ b ∈ X.ex, b ∉ X.fs
  funs : X.s₀.heap.FunFrames X.base X.outer
  frf : ∀ b ∈ X.fs, X.H₀ b = none
structure Inv (X : Cx) (pins : List (Addr × Obj)) (σ : List (Option V)) (H : Hp) (s : Shared) : Prop where
  ok : X.Ok
  os : s.os = X.s₀.os
  bare : AllBare s.gens
  base : Un X.fs X.ex X.H₀ H X.s₀.heap s.heap
  loc : ∃ m, s.heap.Ns X.env.locals m ∧ ∀ (i : Nat) (x : Str) (v : V), X.N[i]? = some x → σ[i]? = some (some v) → Vis X.env.scope x → ∃ u, RelV v u ∧ Look X.env s.heap m x u
  cell : ∀ x c, X.env.cells.lookup x = some c → ∃ v, s.heap.IsCell c v
  free : H X.env.locals = none
  freeC : ∀ x c, X.env.cells.lookup x = some c → H c = none
  pin : ∀ p ∈ X.pn ++ pins, s.heap.get? p.1 = some p.2 ∧ H p.1 = none ∧ p.1 ≠ X.env.locals ∧ p.1 ∉ X.fs ∧ ∀ v, p.2.data ≠ .cell v
  hok : HOk X.prog X.w H s.heap
  len : σ.length = X.N.length
section
variable {X : Cx} {pins : List (Addr × Obj)} {σ : List (Option V)} {H H' : Hp} {s : Shared} {h' : Heap}
theorem Cx.Ok.nofr (ok : X.Ok) {b : Addr} {o : Obj} (e : X.base.get? b = some o) : b ∉ X.fs := fun hb => by
  have := (ok.funs.mem hb).1
  rw [e] at this; cases this
theorem Inv.bs (I : Inv X pins σ H s) : ∀ b o, X.base.get? b = some o → s.heap.get? b = some o ∧ H b = none := fun b o e =>
  ⟨I.base.keep b o (I.ok.bs b o e).1 (I.ok.bs b o e).2 (I.ok.nofr e) (I.ok.noex b o e), I.base.free b o (I.ok.bs b o e).1 (I.ok.bs b o e).2 (I.ok.noex b o e)⟩
theorem Inv.bk (I : Inv X pins σ H s) : ∀ b o, X.base.get? b = some o → s.heap.get? b = some o := fun b o e => (I.bs b o e).1
theorem Inv.mod (I : Inv X pins σ H s) : Mod X.K X.mg X.base := I.ok.mod
theorem Inv.kIn (I : Inv X pins σ H s) : X.K.In s.heap := I.ok.mod.kin.keeps I.bk
theorem Inv.nolimit (I : Inv X pins σ H s) : s.heap.NoLimit := I.ok.mod.nolimit.keeps I.bk
theorem Inv.fr (I : Inv X pins σ H s) : ∃ m, Fr X.base X.env.locals s.heap m :=
  let ⟨m, hn, _⟩ := I.loc
  ⟨m, hn, I.bk, Nat.le_trans I.ok.bsz I.ok.above⟩
theorem Inv.lt (I : Inv X pins σ H s) : X.env.locals < s.heap.objs.size := let ⟨_, hn, _⟩ := I.loc; hn.lt
theorem Inv.sz (I : Inv X pins σ H s) : X.s₀.heap.objs.size ≤ s.heap.objs.size := Nat.le_trans I.ok.above (Nat.le_of_lt I.lt)
theorem Inv.nofs (I : Inv X pins σ H s) {a : Addr} (h : s.heap.objs.size ≤ a) : a ∉ X.fs := fun hb => by
  obtain ⟨_, o, ho, _⟩ := I.ok.funs.mem hb
  exact absurd (Nat.lt_of_lt_of_le (Heap.lt_size ho) (Nat.le_trans I.sz h)) (Nat.lt_irrefl _)
theorem Inv.cne (I : Inv X pins σ H s) : ∀ x c, X.env.cells.lookup x = some c → c ≠ X.env.locals := fun x c e z => by
  obtain ⟨v, o, ho, hd⟩ := I.cell x c e
  obtain ⟨m, ⟨o', es, ep, ho', hd', _⟩, _⟩ := I.loc
  rw [z, ho'] at ho; cases ho; rw [hd'] at hd; cases hd
theorem Inv.funs (I : Inv X pins σ H s) : s.heap.FunFrames X.base X.outer := by
  have all : ∀ (l : List Env), (∀ b ∈ frs l, b ∈ X.fs) → X.s₀.heap.FunFrames X.base l → s.heap.FunFrames X.base l := by
    intro l
    induction l with
    | nil => intro _ _; trivial
    | cons env r ih =>
      intro hs hl
      obtain ⟨hk, ⟨L, o, hf, hn, ho, hd⟩, hr⟩ := hl
      have hL : L ∈ X.fs := hs L (by unfold frs; rw [List.filterMap_cons, hf]; exact List.mem_cons_self)
      obtain ⟨sl, e⟩ := I.base.slot L o ho (I.ok.frf L hL) hL fun z => I.ok.exfs L z hL
      exact ⟨hk, ⟨L, _, hf, hn, e, hd⟩, ih (fun b hb => hs b (by unfold frs; rw [List.filterMap_cons, hf]; exact List.mem_cons_of_mem _ hb)) hr⟩
  exact all X.outer (fun _ hb => hb) I.ok.funs
theorem Inv.stack (I : Inv X pins σ H s) : s.heap.FunFrames X.base X.stack := by
  rcases I.ok.stk with e | ⟨e, hf⟩
  · rw [e]; exact I.funs
  · rw [e]
    obtain ⟨m, hn, _⟩ := I.loc
    refine .cons (by rw [I.ok.kind]; decide) hf hn ?_ I.funs
    exact Heap.get?_none_of_le (Nat.le_trans I.ok.bsz I.ok.above)
theorem Inv.stkSub (I : Inv X pins σ H s) : ∀ b ∈ frs X.stack, b ∈ X.env.locals :: X.fs := fun b hb => by
  rcases I.ok.stk with e | ⟨e, hf⟩
  · rw [e] at hb; exact List.mem_cons_of_mem _ hb
  · rw [e] at hb
    unfold frs at hb
    rw [List.filterMap_cons, hf] at hb
    exact hb
theorem Inv.stkFree (I : Inv X pins σ H s) : ∀ b ∈ frs X.stack, H b = none := fun b hb => by
  rcases List.mem_cons.mp (I.stkSub b hb) with e | hb
  · rw [e]; exact I.free
  · obtain ⟨_, o, ho, _⟩ := I.ok.funs.mem hb
    exact I.base.free b o ho (I.ok.frf b hb) fun z => I.ok.exfs b z hb
theorem Inv.step {g' : Array GenState} {t' : Nat} {d' : Drawn} {ch : List Addr} (I : Inv X pins σ H s)
    (hch : ∀ b ∈ ch, (b ∈ X.ex ∨ X.s₀.heap.objs.size ≤ b) ∧ b ≠ X.env.locals ∧ (∀ x c, X.env.cells.lookup x = some c → c ≠ b) ∧ ∀ p ∈ X.pn ++ pins, p.1 ≠ b)
    (keep : ∀ b o, b ≠ X.env.locals → b ∉ X.fs → b ∉ ch → s.heap.get? b = some o → H b = none → h'.get? b = some o)
    (slot : ∀ b o, b ≠ X.env.locals → b ∈ X.fs → b ∉ ch → s.heap.get? b = some o → H b = none → ∃ sl, h'.get? b = some { o with slots := sl }) (free : ∀ b o, b ∉ ch → s.heap.get? b = some o → H b = none → H' b = none)
    (there : ∀ b o, b ∉ ch → s.heap.get? b = some o → ∃ o', h'.get? b = some o')
    (tups : ∀ b xs, H b = some (.tup xs) → H' b = some (.tup xs)) (frzs : ∀ b o u, H b = some (.frz o u) → H' b = some (.frz o u)) (tbls : ∀ b ps, H b = some (.tbl ps) → ∃ more, H' b = some (.tbl (ps ++ more)))
    (ns : ∀ m, s.heap.Ns X.env.locals m → h'.Ns X.env.locals m) (hok : HOk X.prog X.w H' h') (hg : AllBare g') :
    Inv X pins σ H' { s with heap := h', gens := g', drawn := d', toks := t' } := by
  have neL : ∀ b o, X.s₀.heap.get? b = some o → b ≠ X.env.locals := fun b o e => Nat.ne_of_lt (Nat.lt_of_lt_of_le (Heap.lt_size e) I.ok.above)
  have neC : ∀ b o, X.s₀.heap.get? b = some o → b ∉ X.ex → b ∉ ch := fun b o e hx hb => by
    rcases (hch b hb).1 with z | z
    · exact hx z
    · exact absurd (Nat.lt_of_lt_of_le (Heap.lt_size e) z) (Nat.lt_irrefl _)
  have cellK : ∀ x c, X.env.cells.lookup x = some c → ∀ v, s.heap.IsCell c v → h'.IsCell c v := fun x c e v ⟨o, ho, hd⟩ => by
    have nch : c ∉ ch := fun z => (hch c z).2.2.1 x c e rfl
    by_cases hc : c ∈ X.fs
    · obtain ⟨sl, q⟩ := slot c o (I.cne x c e) hc nch ho (I.freeC x c e)
      exact ⟨_, q, hd⟩
    · exact ⟨o, keep c o (I.cne x c e) hc nch ho (I.freeC x c e), hd⟩
  refine ⟨I.ok, I.os, hg, ⟨fun b o e n hb hx => ?_, fun b o e n hb hx => ?_, fun b o e n hx => ?_, fun b o e hx => ?_, fun b xs e => tups b xs (I.base.tups b xs e), fun b o xs e => frzs b o xs (I.base.frzs b o xs e), fun b ps e => ?_⟩, ?_, fun x c e => ?_, ?_, fun x c e => ?_, fun p hp => ?_, hok, I.len⟩
  · exact keep b o (neL b o e) hb (neC b o e hx) (I.base.keep b o e n hb hx) (I.base.free b o e n hx)
  · obtain ⟨sl, e1⟩ := I.base.slot b o e n hb hx
    obtain ⟨sl', e2⟩ := slot b _ (neL b o e) hb (neC b o e hx) e1 (I.base.free b o e n hx)
    exact ⟨sl', e2⟩
  · obtain ⟨o', e1⟩ := I.base.there b o e hx
    exact free b o' (neC b o e hx) e1 (I.base.free b o e n hx)
  · obtain ⟨o', e1⟩ := I.base.there b o e hx
    exact there b o' (neC b o e hx) e1
  · obtain ⟨m1, e1⟩ := I.base.tbls b ps e
    obtain ⟨m2, e2⟩ := tbls b _ e1
    exact ⟨m1 ++ m2, by rw [e2, Array.append_assoc]⟩
  · obtain ⟨m, hn, hl⟩ := I.loc
    refine ⟨m, ns m hn, fun i x v e1 e2 e3 => ?_⟩
    obtain ⟨u, r, l⟩ := hl i x v e1 e2 e3
    refine ⟨u, r, ?_⟩
    rcases l with l | ⟨k, c, e, z⟩
    · exact .inl l
    · exact .inr ⟨k, c, e, cellK x c e _ z⟩
  · obtain ⟨v, z⟩ := I.cell x c e
    exact ⟨v, cellK x c e v z⟩
  · obtain ⟨m, ⟨o, _, _, ho, _⟩, _⟩ := I.loc
    exact free _ o (fun z => (hch _ z).2.1 rfl) ho I.free
  · obtain ⟨v, o, ho, hd⟩ := I.cell x c e
    exact free c o (fun z => (hch c z).2.2.1 x c e rfl) ho (I.freeC x c e)
  · obtain ⟨e, n, ne, nf, d⟩ := I.pin p hp
    have nch : p.1 ∉ ch := fun z => (hch p.1 z).2.2.2 p hp rfl
    exact ⟨keep p.1 p.2 ne nf nch e n, free p.1 p.2 nch e n, ne, nf, d⟩
theorem Inv.un {t' : Nat} (I : Inv X pins σ H s) (u : Un X.fs [] H H' s.heap h') (hok : HOk X.prog X.w H' h') : Inv X pins σ H' { s with heap := h', toks := t' } := by
  obtain ⟨m, ⟨o, es, ep, ho, r⟩, _⟩ := id I.loc
  obtain ⟨sl, hL⟩ := u.any ho I.free (by simp)
  exact I.step (g' := s.gens) (d' := s.drawn) (ch := []) (fun _ z => nomatch z) (fun b o _ hb _ e n => u.keep b o e n hb (by simp)) (fun b o _ hb _ e n => u.slot b o e n hb (by simp)) (fun b o _ e n => u.free b o e n (by simp)) (fun b o _ e => u.there b o e (by simp)) u.tups u.frzs u.tbls (fun m' hm => by
    obtain ⟨o', es', ep', ho', r'⟩ := hm
    rw [ho] at ho'; cases ho'
    exact ⟨_, es', ep', hL, r'⟩) hok I.bare
theorem Inv.call {g' : Array GenState} {t' : Nat} {d' : Drawn} {ch : List Addr} (I : Inv X pins σ H s) (u : Un (frs X.stack) ch H H' s.heap h') (hok : HOk X.prog X.w H' h') (hg : AllBare g')
    (hch : ∀ b ∈ ch, (b ∈ X.ex ∨ X.s₀.heap.objs.size ≤ b) ∧ b ≠ X.env.locals ∧ (∀ x c, X.env.cells.lookup x = some c → c ≠ b) ∧ ∀ p ∈ X.pn ++ pins, p.1 ≠ b) :
    Inv X pins σ H' { s with heap := h', gens := g', drawn := d', toks := t' } := by
  obtain ⟨m, ⟨o, es, ep, ho, r⟩, _⟩ := id I.loc
  obtain ⟨sl, hL⟩ := u.any ho I.free fun z => (hch _ z).2.1 rfl
  exact I.step (ch := ch) hch (fun b o hL hb hc e n => u.keep b o e n (fun z => (List.mem_cons.mp (I.stkSub b z)).elim hL hb) hc) (fun b o _ _ hc e n => u.any e n hc) (fun b o hc e n => u.free b o e n hc) (fun b o hc e => u.there b o e hc) u.tups u.frzs u.tbls (fun m' hm => by
    obtain ⟨o', es', ep', ho', r'⟩ := hm
    rw [ho] at ho'; cases ho'
    exact ⟨_, es', ep', hL, r'⟩) hok hg
theorem Inv.turned {t' : Nat} {it : Addr} (I : Inv X pins σ H s) (k : ∀ b o, b ≠ it → s.heap.get? b = some o → h'.get? b = some o) (hn : H it = none) (hL : it ≠ X.env.locals)
    (h1 : it ∈ X.ex ∨ X.s₀.heap.objs.size ≤ it) (h2 : ∀ x c, X.env.cells.lookup x = some c → c ≠ it) (h3 : ∀ p ∈ X.pn ++ pins, p.1 ≠ it) : Inv X pins σ H { s with heap := h', toks := t' } := by
  have nit : ∀ b u, H b = some u → b ≠ it := fun b u e z => by rw [z, hn] at e; cases e
  refine I.step (g' := s.gens) (d' := s.drawn) (ch := [it]) (fun b hb => ?_) (fun b o _ _ hc e _ => k b o (fun z => hc (by simp [z])) e) (fun b o _ _ hc e _ => ⟨o.slots, k b o (fun z => hc (by simp [z])) e⟩) (fun _ _ _ _ n => n)
    (fun b o hc e => ⟨o, k b o (fun z => hc (by simp [z])) e⟩) (fun _ _ e => e) (fun _ _ _ e => e) (fun b ps e => ⟨#[], by rw [e]; simp⟩) (fun m hm => ?_) (fun b u e => ?_) I.bare
  · have e : b = it := by simpa using hb
    subst e
    exact ⟨h1, hL, h2, h3⟩
  · obtain ⟨o, es, ep, ho, r⟩ := hm
    exact ⟨o, es, ep, k _ o (Ne.symm hL) ho, r⟩
  · refine (I.hok b u e).stay (fun c v hc q => k c v ?_ q) (fun _ q => q) fun _ _ q => q
    rcases hc with z | z
    · rw [z]; exact nit b u e
    · exact nit c _ z
theorem Inv.tok (I : Inv X pins σ H s) (t : Nat) : Inv X pins σ H { s with toks := t } := I.un (h' := s.heap) (t' := t) Un.refl I.hok
theorem Inv.kept {t' : Nat} (I : Inv X pins σ H s) (k : ∀ b u, s.heap.get? b = some u → h'.get? b = some u) : Inv X pins σ H { s with heap := h', toks := t' } := I.un (Un.kept k) (I.hok.kept k)
theorem Inv.laid {a : Addr} {o : HO} {t' : Nat} (I : Inv X pins σ H s) (k : ∀ b u, s.heap.get? b = some u → h'.get? b = some u) (hp : s.heap.objs.size ≤ a) (new : ObjOk X.prog X.w (upd H a o) h' a o) :
    Inv X pins σ (upd H a o) { s with heap := h', toks := t' } := I.un (Un.laid k hp (I.hok.fresh hp)) (I.hok.laid k hp new)
theorem Inv.write {x e : Addr} {o : HO} {t' : Nat} (I : Inv X pins σ H s) (mu : Mut (H x)) (he : e = x ∨ H e = some (.own x)) (k : ∀ b u, b ≠ e → s.heap.get? b = some u → h'.get? b = some u) (heo : ∃ u, h'.get? e = some u)
    (new : ObjOk X.prog X.w (upd H x o) h' x o) : Inv X pins σ (upd H x o) { s with heap := h', toks := t' } := I.un (Un.write mu he k heo) (I.hok.write mu he k heo new)
theorem Inv.pins_of {pins' : List (Addr × Obj)} (I : Inv X pins σ H s) (h : ∀ p ∈ pins', s.heap.get? p.1 = some p.2 ∧ H p.1 = none ∧ p.1 ≠ X.env.locals ∧ p.1 ∉ X.fs ∧ ∀ v, p.2.data ≠ .cell v) : Inv X pins' σ H s :=
  ⟨I.ok, I.os, I.bare, I.base, I.loc, I.cell, I.free, I.freeC, fun p hp => (List.mem_append.mp hp).elim (fun z => I.pin p (List.mem_append_left _ z)) (h p), I.hok, I.len⟩
theorem nodup_ix {N : List Str} (hN : N.Nodup) {i j : Nat} {x : Str} (a : N[i]? = some x) (b : N[j]? = some x) : i = j := by
  obtain ⟨h1, e1⟩ := List.getElem?_eq_some_iff.mp a
  obtain ⟨h2, e2⟩ := List.getElem?_eq_some_iff.mp b
  exact (List.getElem_inj hN).mp (e1.trans e2.symm)
theorem store_ok2 {M : Model} {A : Around} {E : Value → Shared → Prop} {i : Nat} {x : Str} {v : V} {u : Value} {Q : Unit → Shared → Prop} (I : Inv X pins σ H s) (hN : X.N.Nodup) (hi : X.N[i]? = some x) (hx : Loc X.env.scope x) (r : RelV v u)
    (h : ∀ s', Inv X pins (σ.set i (some v)) H s' → (∃ a, Heap.SameBut a s.heap s'.heap ∧ (a = X.env.locals ∨ X.env.cells.lookup x = some a)) → Q () s') (hf : X.fn x = true ∨ X.env.scope.names.lookup x = some .local := by first | exact .inl rfl | exact .inr rfl | assumption) : wpAny M A (storeName X.env x u) Q E s := by
  obtain ⟨m, hn, hl⟩ := id I.loc
  have hcls : (X.env.scope.kind == .class || (X.env.scope.kind == .module && X.env.locals != X.env.globals)) = false := by rw [I.ok.kind]; rfl
  have hiσ : i < σ.length := by rw [I.len]; exact (List.getElem?_eq_some_iff.mp hi).1
  have cne := I.cne
  have tracked : ∀ {a : Addr} {h' : Heap}, (∃ o, s.heap.get? a = some o ∧ H a = none) → Heap.SameBut a s.heap h' → HOk X.prog X.w H h' := fun {a h'} ha hs b ob e => by
    obtain ⟨_, _, hfree⟩ := ha
    refine (I.hok b ob e).stay (fun c w' hc q => (hs.2 c ?_).trans q) (fun _ q => q) fun _ _ q => q
    rintro rfl
    rcases hc with rfl | hc
    · rw [hfree] at e; cases e
    · rw [hfree] at hc; cases hc
  rcases hx with hk | hk
  · refine wpAny_storeName_local hk hn (fun h' hn' hs => ?_) hcls
    obtain ⟨oL, _, _, hoL, _⟩ := id hn
    refine h _ ⟨I.ok, I.os, I.bare, ⟨fun b o e n hb hx => ?_, fun b o e n hb hx => ?_, I.base.free, fun b o e hx => ?_, I.base.tups, I.base.frzs, I.base.tbls⟩, ⟨_, hn', fun j y v' e1 e2 e3 => ?_⟩, fun y c e => ?_, I.free, I.freeC, fun p hp => ?_, tracked ⟨oL, hoL, I.free⟩ hs, by simpa using I.len⟩ ⟨_, hs, .inl rfl⟩
    · exact (hs.2 b (Nat.ne_of_lt (Nat.lt_of_lt_of_le (Heap.lt_size e) I.ok.above))).trans (I.base.keep b o e n hb hx)
    · obtain ⟨sl, e1⟩ := I.base.slot b o e n hb hx
      exact ⟨sl, (hs.2 b (Nat.ne_of_lt (Nat.lt_of_lt_of_le (Heap.lt_size e) I.ok.above))).trans e1⟩
    · obtain ⟨o', e1⟩ := I.base.there b o e hx
      exact ⟨o', (hs.2 b (Nat.ne_of_lt (Nat.lt_of_lt_of_le (Heap.lt_size e) I.ok.above))).trans e1⟩
    · by_cases hj : j = i
      · subst hj
        rw [hi] at e1; cases e1
        rw [List.getElem?_set_self hiσ] at e2
        cases e2
        exact ⟨u, r, .inl ⟨hk, by simp⟩⟩
      · rw [List.getElem?_set_ne (Ne.symm hj)] at e2
        obtain ⟨u', r', q⟩ := hl j y v' e1 e2 e3
        refine ⟨u', r', ?_⟩
        rcases q with ⟨k, e⟩ | ⟨k, c, e, z⟩
        · refine .inl ⟨k, ?_⟩
          have : y ≠ x := fun e => hj (nodup_ix hN e1 (e ▸ hi))
          simp [this, e]
        · exact .inr ⟨k, c, e, z.sameBut hs (cne y c e)⟩
    · obtain ⟨w', z⟩ := I.cell y c e
      exact ⟨w', z.sameBut hs (cne y c e)⟩
    · obtain ⟨e, n, ne, nf, d⟩ := I.pin p hp
      exact ⟨(hs.2 p.1 ne).trans e, n, ne, nf, d⟩
  · have hfn : X.fn x = true := by
      rcases hf with z | z
      · exact z
      · rw [z] at hk; cases hk
    obtain ⟨c, hc⟩ := I.ok.has x (.inl hk)
    obtain ⟨w', z⟩ := I.cell x c hc
    refine wpAny_storeName_cell I.ok.kind hk hc z (fun h' hc' hs => ?_)
    obtain ⟨oc, hoc, hocd⟩ := id z
    refine h { s with heap := h' } ⟨I.ok, I.os, I.bare, ⟨fun b o e n hb hx => ?_, fun b o e n hb hx => ?_, I.base.free, fun b o e hx => ?_, I.base.tups, I.base.frzs, I.base.tbls⟩, ⟨m, hn.sameBut hs (Ne.symm (cne x c hc)), fun j y v' e1 e2 e3 => ?_⟩, fun y c' e => ?_, I.free, I.freeC, fun p hp => ?_, tracked ⟨oc, hoc, I.freeC x c hc⟩ hs, by simpa using I.len⟩ ⟨c, hs, .inr hc⟩
    · exact (hs.2 b (Nat.ne_of_lt (Nat.lt_of_lt_of_le (Heap.lt_size e) (I.ok.cab x c hfn hc)))).trans (I.base.keep b o e n hb hx)
    · obtain ⟨sl, e1⟩ := I.base.slot b o e n hb hx
      exact ⟨sl, (hs.2 b (Nat.ne_of_lt (Nat.lt_of_lt_of_le (Heap.lt_size e) (I.ok.cab x c hfn hc)))).trans e1⟩
    · obtain ⟨o', e1⟩ := I.base.there b o e hx
      exact ⟨o', (hs.2 b (Nat.ne_of_lt (Nat.lt_of_lt_of_le (Heap.lt_size e) (I.ok.cab x c hfn hc)))).trans e1⟩
    · by_cases hj : j = i
      · subst hj
        rw [hi] at e1; cases e1
        rw [List.getElem?_set_self hiσ] at e2
        cases e2
        exact ⟨u, r, .inr ⟨.inl hk, c, hc, hc'⟩⟩
      · rw [List.getElem?_set_ne (Ne.symm hj)] at e2
        obtain ⟨u', r', q⟩ := hl j y v' e1 e2 e3
        refine ⟨u', r', ?_⟩
        rcases q with q | ⟨k, c', e, z'⟩
        · exact .inl q
        · refine .inr ⟨k, c', e, z'.sameBut hs ?_⟩
          rintro rfl
          exact hj (nodup_ix hN e1 (I.ok.inj _ _ _ e hc ▸ hi))
    · by_cases hcc : c' = c
      · subst hcc; exact ⟨_, hc'⟩
      · obtain ⟨w2, z2⟩ := I.cell y c' e
        exact ⟨w2, z2.sameBut hs hcc⟩
    · obtain ⟨e, n, ne, nf, d⟩ := I.pin p hp
      refine ⟨(hs.2 p.1 ?_).trans e, n, ne, nf, d⟩
      intro q
      rw [q, hoc] at e
      have q' : oc = p.2 := Option.some.inj e
      exact d w' (by rw [← q']; exact hocd)
theorem store_ok {M : Model} {A : Around} {E : Value → Shared → Prop} {i : Nat} {x : Str} {v : V} {u : Value} {Q : Unit → Shared → Prop} (I : Inv X pins σ H s) (hN : X.N.Nodup) (hi : X.N[i]? = some x) (hx : Loc X.env.scope x) (r : RelV v u)
    (h : ∀ s', Inv X pins (σ.set i (some v)) H s' → Q () s') (hf : X.fn x = true ∨ X.env.scope.names.lookup x = some .local := by first | exact .inl rfl | exact .inr rfl | assumption) : wpAny M A (storeName X.env x u) Q E s :=
  store_ok2 I hN hi hx r (fun s' I' _ => h s' I') hf
theorem Inv.call' {s' : Shared} {ch : List Addr} (I : Inv X pins σ H s) (ho : s'.os = s.os) (u : Un (frs X.stack) ch H H' s.heap s'.heap) (hok : HOk X.prog X.w H' s'.heap) (hg : AllBare s'.gens)
    (hch : ∀ b ∈ ch, (b ∈ X.ex ∨ X.s₀.heap.objs.size ≤ b) ∧ b ≠ X.env.locals ∧ (∀ x c, X.env.cells.lookup x = some c → c ≠ b) ∧ ∀ p ∈ X.pn ++ pins, p.1 ≠ b) : Inv X pins σ H' s' := by
  obtain ⟨h', g', d', t', o'⟩ := s'
  have e : o' = s.os := ho
  subst e
  exact I.call (g' := g') (t' := t') (d' := d') u hok hg hch
end
noncomputable abbrev XK := Value → Option Addr → Hp → Prop
noncomputable abbrev St := List (Option V)
noncomputable abbrev VK := V → Hp → Prop
noncomputable abbrev TE := St → Hp → VK → Prop
noncomputable abbrev TT := St → Hp → (Bool → Hp → Prop) → Prop
noncomputable abbrev TA := St → Hp → (List V → Hp → Prop) → Prop
structure Ends where
  nx : St → Hp → Prop
  rt : VK
  bk : St → Hp → Prop := fun _ _ => False
  ct : St → Hp → Prop := fun _ _ => False
noncomputable abbrev TS := Ends → St → Hp → Prop
noncomputable def EP (X : Cx) (pins : List (Addr × Obj)) (σ : St) (Q : VK) (u : Value) (s' : Shared) : Prop := ∃ v H', Inv X pins σ H' s' ∧ RelV v u ∧ Q v H'
noncomputable def TP (X : Cx) (pins : List (Addr × Obj)) (σ : St) (Q : Bool → Hp → Prop) (b : Bool) (s' : Shared) : Prop := ∃ H', Inv X pins σ H' s' ∧ Q b H'
noncomputable def AP (X : Cx) (pins : List (Addr × Obj)) (σ : St) (Q : List V → Hp → Prop) (us : List Value) (s' : Shared) : Prop := ∃ vs H', Inv X pins σ H' s' ∧ Vals vs us ∧ Q vs H'
noncomputable def SP (X : Cx) (pins : List (Addr × Obj)) (D : Ends) (f : Flow) (s' : Shared) : Prop :=
  match f with
  | .next => ∃ σ' H', Inv X pins σ' H' s' ∧ D.nx σ' H'
  | .brk => ∃ σ' H', Inv X pins σ' H' s' ∧ D.bk σ' H'
  | .cont => ∃ σ' H', Inv X pins σ' H' s' ∧ D.ct σ' H'
  | .ret u => ∃ v σ' H', Inv X pins σ' H' s' ∧ RelV v u ∧ D.rt v H'
noncomputable def PE (X : Cx) (e : Expr) (t : TE) : Prop :=
  ∀ (pins : List (Addr × Obj)) (s : Shared) (σ : St) (H : Hp) (Q : VK), Inv X pins σ H s → t σ H Q → wpAny (model X.prog X.w) X.A (eval e X.env) (EP X pins σ Q) X.xe s
noncomputable def PT (X : Cx) (e : Expr) (t : TT) : Prop :=
  ∀ (pins : List (Addr × Obj)) (s : Shared) (σ : St) (H : Hp) (Q : Bool → Hp → Prop), Inv X pins σ H s → t σ H Q → wpAny (model X.prog X.w) X.A (isTrue e X.env (eval e X.env)) (TP X pins σ Q) X.xe s
noncomputable def PW (X : Cx) (e : Expr) (t : TT) : Prop :=
  ∀ (whole : Sem Value) (pins : List (Addr × Obj)) (s : Shared) (σ : St) (H : Hp) (Q : Bool → Hp → Prop), Inv X pins σ H s → t σ H Q → wpAny (model X.prog X.w) X.A (isTrue e X.env whole) (TP X pins σ Q) X.xe s
theorem PW.pt {X : Cx} {e : Expr} {t : TT} (h : PW X e t) : PT X e t := h _
noncomputable def PA (X : Cx) (es : List Expr) (t : TA) : Prop :=
  ∀ (pos : Pos) (pins : List (Addr × Obj)) (s : Shared) (σ : St) (H : Hp) (Q : List V → Hp → Prop), Inv X pins σ H s → t σ H Q → wpAny (model X.prog X.w) X.A (spliced (backTo pos (starEach es X.env))) (AP X pins σ Q) X.xe s
noncomputable def PS (X : Cx) (st : Stmt) (t : TS) : Prop :=
  ∀ (pins : List (Addr × Obj)) (s : Shared) (σ : St) (H : Hp) (D : Ends), Inv X pins σ H s → t D σ H → wpAny (model X.prog X.w) X.A (exec st X.env) (SP X pins D) X.xe s
noncomputable def PSs (X : Cx) (st : List Stmt) (t : TS) : Prop :=
  ∀ (pins : List (Addr × Obj)) (s : Shared) (σ : St) (H : Hp) (D : Ends), Inv X pins σ H s → t D σ H → wpAny (model X.prog X.w) X.A (execs st X.env) (SP X pins D) X.xe s
theorem thn {α : Type} {t : Sem α} {Q Q' : α → Shared → Prop} {M : Model} {A : Around} {E : Value → Shared → Prop} {s : Shared} (h : wpAny M A t Q E s) (hQ : ∀ a s, Q a s → Q' a s) : wpAny M A t Q' E s := wpAny_mono h hQ fun _ _ x => x
end L2
namespace L2
open PySem PySem.Spec PyProof.Rows
section
variable {X : Cx}
noncomputable def tVar (i : Nat) : TE := fun σ H Q => ∃ v, σ[i]? = some (some v) ∧ Q v H
noncomputable def tC (v : V) : TE := fun _ H Q => Q v H
theorem pe_var {i : Nat} {x : Str} {pos : Pos} (hN : X.N[i]? = some x) (hv : Vis X.env.scope x) (hd : (x == ("__debug__" : Str)) = false := by decide) (hcd : (x == ("__classdict__" : Str)) = false := by decide) : PE X (.Name x pos) (tVar i) := by
  intro pins s σ H Q I h
  obtain ⟨v, e, h⟩ := h
  obtain ⟨m, hn, hl⟩ := I.loc
  obtain ⟨u, r, l⟩ := hl i x v hN e hv
  have fin : EP X pins σ Q u s := ⟨v, H, I, r, h⟩
  rcases l with ⟨hk, hm⟩ | ⟨hk, c, hc, hcell⟩
  · exact wpAny_Name (wpAny_loadName_local I.ok.kind hk hn hm fin) hd
  · rcases hk with hk | hk
    · exact wpAny_Name (wpAny_loadName_cell I.ok.kind hk hc hcell fin) hd
    · exact wpAny_Name (wpAny_loadName_free I.ok.kind hk hc hcell fin hcd) hd
theorem pe_int {i j pos} : PE X (.Constant (.int i) j pos) (tC (.int i)) := fun _ _ _ H _ I h => wpAny_Constant_int ⟨.int i, H, I.tok _, ⟨_, rfl⟩, h⟩
theorem pe_bl {b j pos} : PE X (.Constant (.bool b) j pos) (tC (.bl b)) := fun _ _ _ H _ I h => Constant_bool ⟨.bl b, H, I, rfl, h⟩
theorem pe_non {j pos} : PE X (.Constant .none j pos) (tC .non) := fun _ _ _ H _ I h => Constant_none ⟨.non, H, I, rfl, h⟩
theorem pe_str {x j pos} : PE X (.Constant (.str x) j pos) (tC (.str x)) := fun _ _ _ H _ I h => Calls.Constant_str ⟨.str x, H, I.tok _, ⟨_, rfl⟩, h⟩
noncomputable def Gl (X : Cx) (x : Str) : Prop := X.env.kindOf x = some .globalImplicit
theorem ld_glob {E : Value → Shared → Prop} {pins : List (Addr × Obj)} {s : Shared} {σ : St} {H : Hp} {x : Str} {u : Value} {pos : Pos} {Q : Value → Shared → Prop} (I : Inv X pins σ H s) (hg : Gl X x) (hm : X.mg x = some u) (h : Q u s)
    (hd : (x == ("__debug__" : Str)) = false := by decide) : wpAny (model X.prog X.w) X.A (eval (.Name x pos) X.env) Q E s :=
  Calls.Name_function_global I.ok.kind hg (Calls.loadGlobal_global (by rw [I.ok.glob]; exact I.mod.glob.keeps I.bk) hm h) hd
theorem ld_blt {E : Value → Shared → Prop} {pins : List (Addr × Obj)} {s : Shared} {σ : St} {H : Hp} {x : Str} {u : Value} {pos : Pos} {Q : Value → Shared → Prop} (I : Inv X pins σ H s) (hg : Gl X x) (hm : X.mg x = none) (hv : bootBuiltins x = some u) (h : Q u s)
    (hn : x ≠ "__name__" := by decide) (hd : (x == ("__debug__" : Str)) = false := by decide) : wpAny (model X.prog X.w) X.A (eval (.Name x pos) X.env) Q E s := by
  obtain ⟨mb, h1, h2⟩ := I.mod.blt
  exact Calls.Name_function_global I.ok.kind hg (Calls.loadGlobal_builtin (by rw [I.ok.glob]; exact I.mod.glob.keeps I.bk) hm (by rw [I.ok.blt]; exact h1.keeps I.bk) ((h2 x hn).trans hv) h) hd
theorem pe_glob {x : Str} {v : V} {u : Value} {pos : Pos} (hg : Gl X x) (hm : X.mg x = some u) (r : RelV v u) (hd : (x == ("__debug__" : Str)) = false := by decide) : PE X (.Name x pos) (tC v) :=
  fun _ _ _ H _ I h => ld_glob I hg hm ⟨v, H, I, r, h⟩ hd
theorem pe_bltn {x : Str} {v : V} {u : Value} {pos : Pos} (hg : Gl X x) (hm : X.mg x = none) (hv : bootBuiltins x = some u) (r : RelV v u) (hn : x ≠ "__name__" := by decide) (hd : (x == ("__debug__" : Str)) = false := by decide) : PE X (.Name x pos) (tC v) :=
  fun _ _ _ H _ I h => ld_blt I hg hm hv ⟨v, H, I, r, h⟩ hn hd
variable {a b : Expr} {ta tb : TE} {pos : Pos}
noncomputable def PC (X : Cx) (op : CmpOp) (a b : Expr) (t : TE) : Prop :=
  ∀ (pins : List (Addr × Obj)) (s : Shared) (σ : St) (H : Hp) (Q : VK), Inv X pins σ H s → t σ H Q →
    wpAny (model X.prog X.w) X.A (eval a X.env) (fun v s₁ => wpAny (model X.prog X.w) X.A (eval b X.env) (fun u s₂ => wpAny (model X.prog X.w) X.A (compareOp op v u) (EP X pins σ Q) X.xe s₂) X.xe s₁) X.xe s
theorem nobehind (b : Expr) {op : CmpOp} (h : op ≠ .In) (h2 : op ≠ .NotIn) : behindInMarks op b = false := by
  have e1 : (op == CmpOp.In) = false := by cases op <;> first | rfl | exact absurd rfl h
  have e2 : (op == CmpOp.NotIn) = false := by cases op <;> first | rfl | exact absurd rfl h2
  cases b <;> simp [behindInMarks, e1, e2]
noncomputable def tIsN (ta : TE) : TE := fun σ H Q => ta σ H fun x H1 => Q (.bl (decide (x = .non))) H1
theorem RelV.none_iff {x : V} {v : Value} (r : RelV x v) : (v == Value.none) = decide (x = .non) := by
  cases x with
  | non => cases r; rfl
  | bl _ => cases r; rfl
  | int _ => obtain ⟨t, rfl⟩ := r; rfl
  | str _ => obtain ⟨t, rfl⟩ := r; rfl
  | byt _ => obtain ⟨t, rfl⟩ := r; rfl
  | flt _ => obtain ⟨t, rfl⟩ := r; rfl
  | ref _ => cases r; rfl
  | ty _ => cases r; rfl
theorem pc_isN {j pos'} (ha : PE X a ta) : PC X .Is a (.Constant .none j pos') (tIsN ta) := by
  intro pins s σ H Q I h
  refine thn (ha pins s σ H _ I h) fun v s1 ⟨x, H1, I1, r1, q1⟩ => ?_
  exact Constant_none (is_none_gen ⟨.bl _, H1, I1, by rw [r1.none_iff]; rfl, q1⟩)
noncomputable def tB (t : TE) : TT := fun σ H Q => t σ H fun x H1 => ∃ c, x = .bl c ∧ Q c H1
theorem pt_cmp {op : CmpOp} {t : TE} (h : PC X op a b t) (h1 : behindInMarks op b = false := by first | exact nobehind _ (by decide) (by decide) | rfl) : PT X (.Compare a [op] [b] pos) (tB t) := by
  intro pins s σ H Q I hw
  refine wpAny_isTrue_Compare1 (thn (h pins s σ H _ I hw) fun v s1 h1 => thn h1 fun u s2 h2 => thn h2 fun c s3 ⟨x, H1, I1, r1, q1⟩ => ?_) h1
  obtain ⟨d, rfl, q⟩ := q1
  cases r1
  exact wpAny_truthy_bool ⟨H1, I1, q⟩
theorem pt_val {e : Expr} {t : TE} (h : PE X e t) (he : ∀ whole, isTrue e X.env whole = (do let v ← whole; standAt e.pos; holding [v] (truthy v)) := by intro _; rfl) : PT X e (tB t) := by
  intro pins s σ H Q I hw
  refine isTrue_plain (thn (h pins s σ H _ I hw) fun v s1 ⟨x, H1, I1, r1, q1⟩ => ?_) (he _)
  obtain ⟨d, rfl, q⟩ := q1
  cases r1
  exact wpAny_truthy_bool ⟨H1, I1, q⟩
variable {tA tB' : TT} {rest : List Expr}
noncomputable def tAnd (t u : TT) : TT := fun σ H Q => t σ H fun c H1 => if c = true then u σ H1 Q else Q false H1
noncomputable def tOr (t u : TT) : TT := fun σ H Q => t σ H fun c H1 => if c = true then Q true H1 else u σ H1 Q
noncomputable def tNot (t : TT) : TT := fun σ H Q => t σ H fun c H1 => Q (!c) H1
theorem pw_and1 (ha : PT X a tA) : PW X (.BoolOp .And [a] pos) tA := by
  intro wh pins s σ H Q I h
  refine isTrue_and (thn (ha pins s σ H Q I h) fun c s1 e => ?_)
  cases c with
  | true => exact isTrue_and_nil e
  | false => exact e
theorem pw_or1 (ha : PT X a tA) : PW X (.BoolOp .Or [a] pos) tA := by
  intro wh pins s σ H Q I h
  refine isTrue_or (thn (ha pins s σ H Q I h) fun c s1 e => ?_)
  cases c with
  | false => exact isTrue_or_nil e
  | true => exact e
theorem pw_and (ha : PT X a tA) (hb : PW X (.BoolOp .And (b :: rest) pos) tB') : PW X (.BoolOp .And (a :: b :: rest) pos) (tAnd tA tB') := by
  intro wh pins s σ H Q I h
  refine isTrue_and (thn (ha pins s σ H _ I h) fun c s1 ⟨H1, I1, q1⟩ => ?_)
  cases c with
  | true => exact hb wh pins s1 σ H1 Q I1 q1
  | false => exact ⟨H1, I1, q1⟩
theorem pw_or (ha : PT X a tA) (hb : PW X (.BoolOp .Or (b :: rest) pos) tB') : PW X (.BoolOp .Or (a :: b :: rest) pos) (tOr tA tB') := by
  intro wh pins s σ H Q I h
  refine isTrue_or (thn (ha pins s σ H _ I h) fun c s1 ⟨H1, I1, q1⟩ => ?_)
  cases c with
  | true => exact ⟨H1, I1, q1⟩
  | false => exact hb wh pins s1 σ H1 Q I1 q1
theorem pt_not (ha : PT X a tA) : PT X (.UnaryOp .Not a pos) (tNot tA) := by
  intro pins s σ H Q I h
  exact isTrue_not (ha pins s σ H (fun c H1 => Q (!c) H1) I h)
noncomputable def tAndV (ta tb : TE) : TE := fun σ H Q => ta σ H fun x H1 => ∃ c, x = .bl c ∧ if c = true then tb σ H1 Q else Q (.bl false) H1
noncomputable def tOrV (ta tb : TE) : TE := fun σ H Q => ta σ H fun x H1 => ∃ c, x = .bl c ∧ if c = true then Q (.bl true) H1 else tb σ H1 Q
noncomputable def tNotV (ta : TE) : TE := fun σ H Q => ta σ H fun x H1 => ∃ c, x = .bl c ∧ Q (.bl (!c)) H1
theorem pe_one {op} {t : TE} (h : PE X a t) : PE X (.BoolOp op [a] pos) t := fun pins s σ H Q I hw => BoolOp_one (h pins s σ H Q I hw)
theorem pe_and (ha : PE X a ta) (hb : PE X (.BoolOp .And (b :: rest) pos) tb) : PE X (.BoolOp .And (a :: b :: rest) pos) (tAndV ta tb) := by
  intro pins s σ H Q I h
  refine BoolOp_and (thn (ha pins s σ H _ I h) fun v s1 ⟨x, H1, I1, r1, q1⟩ => ?_)
  obtain ⟨c, rfl, q1⟩ := q1
  cases r1
  refine wpAny_truthy_bool ?_
  cases c with
  | true => exact hb pins s1 σ H1 Q I1 q1
  | false => exact ⟨.bl false, H1, I1, rfl, q1⟩
theorem pe_not (ha : PE X a ta) : PE X (.UnaryOp .Not a pos) (tNotV ta) := by
  intro pins s σ H Q I h
  refine UnaryOp_ (thn (ha pins s σ H _ I h) fun v s1 ⟨x, H1, I1, r1, q1⟩ => ?_)
  obtain ⟨c, rfl, q1⟩ := q1
  cases r1
  exact not_of (wpAny_truthy_bool ⟨.bl (!c), H1, I1, rfl, q1⟩)
end
end L2
namespace L2
open PySem PySem.Spec PyProof.Rows
noncomputable def SqL (K : PySem.W.Frag) (H : Hp) (a : Addr) (xs : List V) : Prop :=
  Rd H a (.lst xs) ∨
    ∃ (o : Obj) (its : Array Value) (n : Nat), K.lookup a = some o ∧ o.cls = .type "list" ∧ o.dict = none ∧ o.data = .seq its n ∧ its.size ≤ sizeLine ∧ Vals xs its.toList
noncomputable def SqT (K : PySem.W.Frag) (H : Hp) (a : Addr) (xs : List V) : Prop :=
  Rd H a (.tup xs) ∨
    ∃ (o : Obj) (its : Array Value) (n : Nat), K.lookup a = some o ∧ o.cls = .type "tuple" ∧ o.data = .seq its n ∧ its.size ≤ sizeLine ∧ Vals xs its.toList
noncomputable def absV : Value → Option V
  | .none => some .non
  | .bool b => some (.bl b)
  | .int i _ => some (.int i)
  | .str x _ => some (.str x)
  | .bytes b _ => some (.byt b)
  | .float b _ => some (.flt b)
  | .ref a => some (.ref a)
  | .type n => some (.ty n)
  | _ => none
theorem RelV.abs {x : V} {u : Value} (r : RelV x u) : absV u = some x := by
  cases x with
  | non => cases r; rfl
  | bl _ => cases r; rfl
  | int _ => obtain ⟨t, rfl⟩ := r; rfl
  | str _ => obtain ⟨t, rfl⟩ := r; rfl
  | byt _ => obtain ⟨t, rfl⟩ := r; rfl
  | flt _ => obtain ⟨t, rfl⟩ := r; rfl
  | ref _ => cases r; rfl
  | ty _ => cases r; rfl
theorem RelV.inj {x y : V} {u : Value} (r : RelV x u) (q : RelV y u) : x = y := Option.some.inj (r.abs.symm.trans q.abs)
theorem Vals.inj : ∀ {xs ys : List V} {us : List Value}, Vals xs us → Vals ys us → xs = ys
  | _, _, _, .nil, .nil => rfl
  | _, _, _, .cons r t, .cons r' t' => by rw [r.inj r', Vals.inj t t']
section
variable {X : Cx} {pins : List (Addr × Obj)} {σ : St} {H : Hp} {s : Shared} {a : Addr} {xs ys : List V}
theorem SqL.of {K : PySem.W.Frag} (h : H a = some (.lst xs)) : SqL K H a xs := .inl (.inl h)
theorem SqT.of {K : PySem.W.Frag} (h : H a = some (.tup xs)) : SqT K H a xs := .inl (.inl h)
theorem Inv.list (I : Inv X pins σ H s) (h : SqL X.K H a xs) : ∃ its : List Value, Vals xs its ∧ PlainL s.heap a its.toArray ∧ xs.length ≤ sizeLine := by
  rcases h with h | ⟨o, its, n, hk, hc, hd, hs, hz, r⟩
  · obtain ⟨z, its, n, r, e⟩ := h.ok I.hok
    exact ⟨its, r, ⟨_, n, e, rfl, rfl, rfl⟩, z⟩
  · refine ⟨its.toList, r, ⟨o, n, I.kIn a o hk, hc, hd, by simpa using hs⟩, ?_⟩
    have e := r.length
    simp only [Array.length_toList] at e
    omega
theorem Inv.tuple (I : Inv X pins σ H s) (h : SqT X.K H a xs) : ∃ its : List Value, Vals xs its ∧ IsTup s.heap a its.toArray ∧ xs.length ≤ sizeLine := by
  rcases h with h | ⟨o, its, n, hk, hc, hs, hz, r⟩
  · obtain ⟨z, its, r, p⟩ := h.ok I.hok
    exact ⟨its, r, p, z⟩
  · refine ⟨its.toList, r, ⟨o, I.kIn a o hk, hc, n, by simpa using hs⟩, ?_⟩
    have e := r.length
    simp only [Array.length_toList] at e
    omega
theorem Inv.list_inj (I : Inv X pins σ H s) (h : SqL X.K H a xs) (h' : SqL X.K H a ys) : xs = ys := by
  obtain ⟨its, r, ⟨o, n, e, _, _, d⟩, _⟩ := I.list h
  obtain ⟨its', r', ⟨o', n', e', _, _, d'⟩, _⟩ := I.list h'
  rw [e] at e'; cases e'
  rw [d] at d'
  injection d' with d1 _
  have : its = its' := by simpa using congrArg Array.toList d1
  subst this
  exact r.inj r'
end
noncomputable abbrev Cx.wish (X : Cx) (E : Value → Shared → Prop) : Cx := { X with xe := E }
noncomputable abbrev Cx.nox (X : Cx) : Cx := X.wish fun _ _ => False
theorem Cx.Ok.wish {X : Cx} (ok : X.Ok) (E : Value → Shared → Prop) : (X.wish E).Ok :=
  ⟨ok.mod, ok.kind, ok.glob, ok.blt, ok.above, ok.inj, ok.has, ok.cab, ok.hd, ok.frames, ok.stk, ok.exf, ok.bs, ok.bsz, ok.noex, ok.exfs, ok.funs, ok.frf⟩
theorem Cx.Ok.unwish {X : Cx} {E : Value → Shared → Prop} (ok : (X.wish E).Ok) : X.Ok :=
  ⟨ok.mod, ok.kind, ok.glob, ok.blt, ok.above, ok.inj, ok.has, ok.cab, ok.hd, ok.frames, ok.stk, ok.exf, ok.bs, ok.bsz, ok.noex, ok.exfs, ok.funs, ok.frf⟩
section
variable {X : Cx} {pins : List (Addr × Obj)} {σ : St} {H : Hp} {s : Shared} {E : Value → Shared → Prop}
theorem Inv.wish (I : Inv X pins σ H s) (E : Value → Shared → Prop) : Inv (X.wish E) pins σ H s := ⟨I.ok.wish E, I.os, I.bare, I.base, I.loc, I.cell, I.free, I.freeC, I.pin, I.hok, I.len⟩
theorem Inv.unwish (I : Inv (X.wish E) pins σ H s) : Inv X pins σ H s := ⟨I.ok.unwish, I.os, I.bare, I.base, I.loc, I.cell, I.free, I.freeC, I.pin, I.hok, I.len⟩
theorem SP.unwish {D : Ends} {f : Flow} {s' : Shared} (h : SP (X.wish E) pins D f s') : SP X pins D f s' := by
  cases f with
  | next => obtain ⟨σ', H', I, q⟩ := h; exact ⟨σ', H', I.unwish, q⟩
  | brk => obtain ⟨σ', H', I, q⟩ := h; exact ⟨σ', H', I.unwish, q⟩
  | cont => obtain ⟨σ', H', I, q⟩ := h; exact ⟨σ', H', I.unwish, q⟩
  | ret u => obtain ⟨v, σ', H', I, r, q⟩ := h; exact ⟨v, σ', H', I.unwish, r, q⟩
theorem PE.nox {e : Expr} {t : TE} (h : PE X.nox e t) : PE X e t := fun pins s σ H Q I hw =>
  wpAny_mono (h pins s σ H Q (I.wish _) hw) (fun _ _ ⟨v, H', I', r, q⟩ => ⟨v, H', I'.unwish, r, q⟩) fun _ _ z => False.elim z
theorem PT.nox {e : Expr} {t : TT} (h : PT X.nox e t) : PT X e t := fun pins s σ H Q I hw =>
  wpAny_mono (h pins s σ H Q (I.wish _) hw) (fun _ _ ⟨H', I', q⟩ => ⟨H', I'.unwish, q⟩) fun _ _ z => False.elim z
theorem PSs.nox {st : List Stmt} {t : TS} (h : PSs X.nox st t) : PSs X st t := fun pins s σ H D I hw =>
  wpAny_mono (h pins s σ H D (I.wish _) hw) (fun _ _ q => q.unwish) fun _ _ z => False.elim z
end
section
variable {X : Cx} {st : Stmt} {rest : List Stmt} {t u : TS} {e : Expr} {te : TE} {pos : Pos}
noncomputable def tNext : TS := fun D σ H => D.nx σ H
noncomputable def tSeq (t u : TS) : TS := fun D σ H => t { D with nx := u D } σ H
theorem pss_nil : PSs X [] tNext := fun _ _ σ H _ I h => wpAny_execs_nil ⟨σ, H, I, h⟩
theorem pss_cons (h1 : PS X st t) (h2 : PSs X rest u) : PSs X (st :: rest) (tSeq t u) := by
  intro pins s σ H D I h
  refine wpAny_execs_cons (thn (h1 pins s σ H { D with nx := u D } I h) fun f s1 q => ?_)
  cases f with
  | next =>
    obtain ⟨σ', H', I', q⟩ := q
    exact h2 pins s1 σ' H' D I' q
  | ret v => exact q
  | brk => exact q
  | cont => exact q
theorem pss_one (h1 : PS X st t) : PSs X [st] t := by
  intro pins s σ H D I h
  refine wpAny_execs_cons (thn (h1 pins s σ H D I h) fun f s1 q => ?_)
  cases f with
  | next => exact wpAny_execs_nil q
  | ret v => exact q
  | brk => exact q
  | cont => exact q
theorem Inv.quiet {pins : List (Addr × Obj)} {σ : St} {H : Hp} {s : Shared} (I : Inv X pins σ H s) : interactive X.env = false := by simp [interactive, I.ok.kind]
noncomputable def tDrop (te : TE) : TS := fun D σ H => te σ H fun _ H1 => D.nx σ H1
theorem ps_expr (he : PE X e te) (hs : swapsWith e none pos.line X.env = pure false := by rfl) : PS X (.Expr e pos) (tDrop te) := by
  intro pins s σ H D I h
  exact wpAny_Expr_any (thn (he pins s σ H _ I h) fun v s1 ⟨x, H1, I1, r1, q1⟩ => ⟨σ, H1, I1, q1⟩) I.quiet hs
noncomputable def tRet (te : TE) : TS := fun D σ H => te σ H D.rt
theorem ps_ret (he : PE X e te) : PS X (.Return (some e) pos) (tRet te) := by
  intro pins s σ H D I h
  exact wpAny_Return_some (thn (he pins s σ H _ I h) fun v s1 ⟨x, H1, I1, r1, q1⟩ => ⟨x, σ, H1, I1, r1, q1⟩)
noncomputable def tRetN : TS := fun D _ H => D.rt .non H
noncomputable def tIfS (c : TT) (t u : TS) : TS := fun D σ H => c σ H fun b H1 => if b = true then t D σ H1 else u D σ H1
theorem ps_if {c : Expr} {a b : List Stmt} {tc : TT} (hc : PT X c tc) (ha : PSs X a t) (hb : PSs X b u) : PS X (.If c a b pos) (tIfS tc t u) := by
  intro pins s σ H D I h
  refine wpAny_If (thn (hc pins s σ H _ I h) fun d s1 ⟨H1, I1, q1⟩ => ?_)
  cases d with
  | true => exact ha pins s1 σ H1 D I1 q1
  | false => exact hb pins s1 σ H1 D I1 q1
noncomputable def tNever : TS := fun _ _ _ => False
theorem ps_never : PS X st tNever := fun _ _ _ _ _ _ h => h.elim
theorem pss_never {sts : List Stmt} : PSs X sts tNever := fun _ _ _ _ _ _ h => h.elim
end
noncomputable abbrev TG := V → St → Hp → (St → Hp → Prop) → Prop
noncomputable abbrev TGs := List V → St → Hp → (St → Hp → Prop) → Prop
noncomputable def PG (X : Cx) (target : Expr) (t : TG) : Prop :=
  ∀ (pins : List (Addr × Obj)) (s : Shared) (σ : St) (H : Hp) (v : V) (u : Value) (Q : St → Hp → Prop), Inv X pins σ H s → RelV v u → t v σ H Q →
    wpAny (model X.prog X.w) X.A (assign target X.env u) (fun _ s' => ∃ σ' H', Inv X pins σ' H' s' ∧ Q σ' H') X.xe s
noncomputable def PGs (X : Cx) (ts : List Expr) (t : TGs) : Prop :=
  ∀ (pins : List (Addr × Obj)) (s : Shared) (σ : St) (H : Hp) (vs : List V) (us : List Value) (Q : St → Hp → Prop), Inv X pins σ H s → Vals vs us → t vs σ H Q →
    wpAny (model X.prog X.w) X.A (assignInOrder ((assignEach ts X.env).map (·.2)) us) (fun _ s' => ∃ σ' H', Inv X pins σ' H' s' ∧ Q σ' H') X.xe s
noncomputable abbrev TSet := V → V → V → Hp → (Hp → Prop) → Prop
noncomputable def PSet (X : Cx) (t : TSet) : Prop :=
  ∀ (pins : List (Addr × Obj)) (s : Shared) (σ : St) (H : Hp) (o i v : V) (ov iv u : Value) (Q : Hp → Prop), Inv X pins σ H s → RelV o ov → RelV i iv → RelV v u → t o i v H Q →
    wpAny (model X.prog X.w) X.A (setItem ov iv u) (fun _ s' => ∃ H', Inv X pins σ H' s' ∧ Q H') X.xe s
section
variable {X : Cx} {pos : Pos}
noncomputable def gName (i : Nat) : TG := fun v σ H Q => Q (σ.set i (some v)) H
theorem pg_name {i : Nat} {x : Str} (hN : X.N.Nodup) (hi : X.N[i]? = some x) (hx : Loc X.env.scope x) (hf : X.fn x = true ∨ X.env.scope.names.lookup x = some .local := by first | exact .inl rfl | exact .inr rfl | assumption) : PG X (.Name x pos) (gName i) := by
  intro pins s σ H v u Q I r h
  exact wpAny_assign_Name (store_ok I hN hi hx r (fun s' I' => ⟨_, H, I', h⟩) hf)
noncomputable def gNil : TGs := fun vs σ H Q => vs = [] ∧ Q σ H
noncomputable def gCons (t : TG) (u : TGs) : TGs := fun vs σ H Q => ∃ v r, vs = v :: r ∧ t v σ H fun σ' H' => u r σ' H' Q
theorem pgs_nil : PGs X [] gNil := by
  intro pins s σ H vs us Q I r h
  obtain ⟨e, h⟩ := h
  subst e
  cases r
  exact assignInOrder_nil ⟨σ, H, I, h⟩
theorem pgs_cons {e : Expr} {es : List Expr} {t : TG} {u : TGs} (h1 : PG X e t) (h2 : PGs X es u)
    (hs : (assignEach (e :: es) X.env).map (·.2) = assign e X.env :: (assignEach es X.env).map (·.2) := by rfl) : PGs X (e :: es) (gCons t u) := by
  intro pins s σ H vs us Q I r h
  obtain ⟨v, vr, e1, h⟩ := h
  subst e1
  cases r with
  | cons r rr =>
    rw [hs]
    refine assignInOrder_cons (thn (h1 pins s σ H _ _ _ I r h) fun _ s1 ⟨σ1, H1, I1, q1⟩ => ?_)
    exact h2 pins s1 σ1 H1 _ _ Q I1 rr q1
noncomputable def gTup (K : PySem.W.Frag) (n : Nat) (t : TGs) : TG := fun v σ H Q => ∃ a xs, v = .ref a ∧ SqT K H a xs ∧ xs.length = n ∧ t xs σ H Q
theorem pg_tup {es : List Expr} {k : Nat} {t : TGs} {n : Nat} (hc : X.calm = true) (h : PGs X es t)
    (hn : (assignEach es X.env).length = n := by rfl) (hst : (assignEach es X.env).findIdx? (·.1) = none := by rfl) : PG X (.Tuple es k pos) (gTup X.K n t) := by
  intro pins s σ H v u Q I r hw
  obtain ⟨a, xs, e1, hq, hl, hw⟩ := hw
  subst e1
  cases r
  obtain ⟨its, rv, ht, hz⟩ := I.tuple hq
  refine assign_Tuple_tuple (I.ok.hd hc) ht (by simp [hn, ← hl, rv.length]) hst fun h' hx => ?_
  have I1 : Inv X pins σ H { s with heap := h' } := I.kept (t' := s.toks) fun b o e => hx b o (Nat.ne_of_lt (Heap.lt_size e)) e
  exact h pins _ σ H xs _ Q I1 (by simpa using rv) hw
noncomputable def gSub (to ti : TE) (t : TSet) : TG := fun v σ H Q => to σ H fun o H1 => ti σ H1 fun i H2 => t o i v H2 fun H3 => Q σ H3
theorem pg_sub {o i : Expr} {to ti : TE} {t : TSet} (ho : PE X o to) (hi : PE X i ti) (hs : PSet X t)
    (ha : ∀ v, assign (.Subscript o i pos) X.env v = (do
      let ov ← holding [v] (eval o X.env)
      let iv ← holding [v, ov] (eval i X.env)
      standAt pos
      holding [v, ov, iv] (setItem ov iv v)
      release [v, ov, iv] []) := by intro _; rfl) : PG X (.Subscript o i pos) (gSub to ti t) := by
  intro pins s σ H v u Q I r h
  rw [ha]
  refine wpAny_bind (wpAny_holding (thn (ho pins s σ H _ I h) fun ov s1 ⟨x, H1, I1, r1, q1⟩ => ?_))
  refine wpAny_bind (wpAny_holding (thn (hi pins s1 σ H1 _ I1 q1) fun iv s2 ⟨y, H2, I2, r2, q2⟩ => ?_))
  refine wpAny_bind (wpAny_standAt (wpAny_bind (wpAny_holding (thn (hs pins s2 σ H2 x y v ov iv u _ I2 r1 r2 r q2) fun _ s3 ⟨H3, I3, q3⟩ => ?_))))
  exact wpAny_release ⟨σ, H3, I3, q3⟩
noncomputable def tAsg (te : TE) (g : TG) : TS := fun D σ H => te σ H fun x H1 => g x σ H1 D.nx
theorem ps_asg {tg e : Expr} {te : TE} {g : TG} (he : PE X e te) (hg : PG X tg g) (hs : swapsWithSole [tg] e pos.line X.env = pure false := by rfl) (hw : swappedStores [tg] e X.env = pure none := by rfl)
    (h1 : (assignEach [tg] X.env).map (·.2) = [assign tg X.env] := by rfl) : PS X (.Assign [tg] e pos) (tAsg te g) := by
  intro pins s σ H D I h
  refine wpAny_Assign_stores (thn (he pins s σ H _ I h) fun v s1 ⟨x, H1, I1, r1, q1⟩ => ?_) hs hw
  rw [h1]
  exact thn (hg pins s1 σ H1 x v _ I1 r1 q1) fun _ s2 q => q
theorem ps_set {i : Nat} {x : Str} {e : Expr} {te : TE} {pos' : Pos} (hN : X.N.Nodup) (hi : X.N[i]? = some x) (hx : Loc X.env.scope x) (he : PE X e te) (hs : swapsWith e (some (.Name x pos')) pos.line X.env = pure false := by rfl) (hf : X.fn x = true ∨ X.env.scope.names.lookup x = some .local := by first | exact .inl rfl | exact .inr rfl | assumption) :
    PS X (.Assign [.Name x pos'] e pos) (tAsg te (gName i)) := by
  intro pins s σ H D I h
  refine wpAny_Assign_Name (thn (he pins s σ H _ I h) fun v s1 ⟨y, H1, I1, r1, q1⟩ => ?_) hs
  exact store_ok I1 hN hi hx r1 (fun s2 I2 => ⟨_, H1, I2, q1⟩) hf
noncomputable def tPar (i j : Nat) (ta : TA) : TS := fun D σ H => ta σ H fun vs H1 => ∃ v w, vs = [v, w] ∧ D.nx ((σ.set i (some v)).set j (some w)) H1
theorem ps_par {i j : Nat} {x y : Str} {a b : Expr} {ta : TA} {px py pt : Pos} {kt k2 pt2} (hc : X.calm = true) (hN : X.N.Nodup) (hi : X.N[i]? = some x) (hj : X.N[j]? = some y) (hij : i ≠ j)
    (hx : X.env.scope.names.lookup x = some .local) (hy : X.env.scope.names.lookup y = some .local) (ha : PA X [a, b] ta)
    (hw : swappedStores [.Tuple [.Name x px, .Name y py] kt pt] (.Tuple [a, b] k2 pt2) X.env = pure (some [x, y]))
    (hs : swapsWithSole [.Tuple [.Name x px, .Name y py] kt pt] (.Tuple [a, b] k2 pt2) pos.line X.env = pure false := by rfl) :
    PS X (.Assign [.Tuple [.Name x px, .Name y py] kt pt] (.Tuple [a, b] k2 pt2) pos) (tPar i j ta) := by
  intro pins s σ H D I h
  rw [exec_Assign_arm]
  refine wpAny_bind (wpAny_standAt ?_)
  rw [hs]
  refine wpAny_bind (wpAny_pure ?_)
  rw [if_neg (by decide)]
  refine wpAny_bind (Tuple_ (thn (ha _ pins s σ H _ I h) fun us s1 ⟨vs, H1, I1, r1, q1⟩ => ?_))
  obtain ⟨v, w, e1, q1⟩ := q1
  subst e1
  obtain ⟨u1, u2, rfl, rv, rw'⟩ : ∃ u1 u2, us = [u1, u2] ∧ RelV v u1 ∧ RelV w u2 := by
    cases r1 with
    | cons p q =>
      cases q with
      | cons p' q' =>
        cases q'
        exact ⟨_, _, rfl, p, p'⟩
  refine wpAny_newObj_type ?_ (by show 2 ≤ sizeLine; decide)
  have I2 : Inv X pins σ H1 { s1 with heap := s1.heap.push { cls := .type "tuple", data := .seq [u1, u2].toArray } } := I1.kept (t' := s1.toks) fun b o e => Heap.get?_push_of_some _ e
  rw [hw]
  refine wpAny_bind (wpAny_pure ?_)
  show wpAny (model X.prog X.w) X.A (do rule "assign.swapped-stores"; let items ← unpackItems (.ref s1.heap.objs.size) 2 none; assignInOrder [fun v => bindName X.env y v, fun v => bindName X.env x v] items.reverse; pure Flow.next) _ _ _
  refine wpAny_bind (wpAny_rule (wpAny_bind (unpackItems_tuple (items := #[u1, u2]) (I.ok.hd hc) (IsTup.new s1.heap _) fun h' hx' => ?_)))
  have I3 := I2.kept (h' := h') (t' := s1.toks) fun b o e => hx' b o (Nat.ne_of_lt (Heap.lt_size e)) e
  show wpAny _ _ (assignInOrder [fun v => bindName X.env y v, fun v => bindName X.env x v] [u2, u1] >>= fun _ => pure Flow.next) _ _ _
  refine wpAny_bind (assignInOrder_cons (wpAny_bindName (store_ok I3 hN hj (.inl hy) rw' (fun s2 I4 => ?_) (.inr hy))))
  refine assignInOrder_cons (wpAny_bindName (store_ok I4 hN hi (.inl hx) rv (fun s3 I5 => assignInOrder_nil (wpAny_pure ?_)) (.inr hx)))
  rw [List.set_comm _ _ (Ne.symm hij)] at I5
  exact ⟨_, H1, I5, q1⟩
end
section
variable {X : Cx} {pos : Pos}
noncomputable def tWhile (c : TT) (tb : TS) : TS := fun D σ H => ∃ W : Nat → St → Hp → Prop, (∃ m, W m σ H) ∧ ∀ m σ H, W m σ H →
  c σ H fun b H1 => if b = true then ∃ N : St → Hp → Prop, (∀ σ' H', N σ' H' → ∃ m', m' < m ∧ W m' σ' H') ∧ tb { D with nx := N, ct := N, bk := D.nx } σ H1 else D.nx σ H1
theorem ps_while {c : Expr} {body : List Stmt} {tc : TT} {tb : TS} (hp : PassesOwn (model X.prog X.w) X.A X.env X.xe) (hc : PT X c tc) (hb : PSs X body tb) : PS X (.While c body [] pos) (tWhile tc tb) := by
  intro pins s σ H D I h
  obtain ⟨W, ⟨m0, w0⟩, turn⟩ := h
  refine wpAny_While (codeAny_whileLoop (fun n s' => ∃ σ' H', Inv X pins σ' H' s' ∧ W n σ' H') ?_ m0 ⟨σ, H, I, w0⟩)
  rintro n s1 ⟨σ1, H1, I1, w1⟩
  refine wpAny_passesOwn hp (thn (hc pins s1 σ1 H1 _ I1 (turn n σ1 H1 w1)) fun b s2 ⟨H2, I2, q2⟩ => ?_)
  cases b with
  | true =>
    obtain ⟨N, hN, q2⟩ := q2
    rw [if_pos rfl]
    refine wpAny_passesOwn hp (thn (hb pins s2 σ1 H2 _ I2 q2) fun f s3 q3 => ?_)
    cases f with
    | next =>
      obtain ⟨σ3, H3, I3, n3⟩ := q3
      obtain ⟨m', hm, w3⟩ := hN σ3 H3 n3
      exact ⟨m', hm, σ3, H3, I3, w3⟩
    | cont =>
      obtain ⟨σ3, H3, I3, n3⟩ := q3
      obtain ⟨m', hm, w3⟩ := hN σ3 H3 n3
      exact ⟨m', hm, σ3, H3, I3, w3⟩
    | brk => exact q3
    | ret v => exact q3
  | false =>
    rw [if_neg Bool.false_ne_true]
    exact wpAny_execs_nil ⟨σ1, H2, I2, q2⟩
end
structure It where
  go : Nat → Hp → Prop
  yld : Nat → Hp → V → Hp → Prop
  stop : Nat → Hp → Prop
noncomputable def FpOk (X : Cx) (pins : List (Addr × Obj)) (H : Hp) (b : Addr) : Prop :=
  H b = none ∧ b ≠ X.env.locals ∧ b ∉ X.fs ∧ (b ∈ X.ex ∨ X.s₀.heap.objs.size ≤ b) ∧ (∀ x c, X.env.cells.lookup x = some c → c ≠ b) ∧ ∀ p ∈ X.pn ++ pins, p.1 ≠ b
theorem Inv.fpOk {X : Cx} {pins : List (Addr × Obj)} {σ : St} {H H' : Hp} {s : Shared} {b : Addr} (I : Inv X pins σ H s) (hb : s.heap.objs.size ≤ b) (hn : H' b = none) : FpOk X pins H' b := by
  refine ⟨hn, Nat.ne_of_gt (Nat.lt_of_lt_of_le I.lt hb), I.nofs hb, .inr (Nat.le_trans I.sz hb), fun x c e z => ?_, fun p hp z => ?_⟩
  · obtain ⟨v, q⟩ := I.cell x c e
    exact absurd (Nat.lt_of_lt_of_le q.lt (by rw [z]; exact hb)) (Nat.lt_irrefl _)
  · exact absurd (Nat.lt_of_lt_of_le (Heap.lt_size (I.pin p hp).1) (by rw [z]; exact hb)) (Nat.lt_irrefl _)
structure Turn (P : Program) (w : World) (K : PySem.W.Frag) (tg : Expr) (J : It) (fp : List Addr) (it : Addr) (tn : Nat → Heap → Prop) : Prop where
  mem : it ∈ fp
  obj : ∀ i h, tn i h → ∀ b ∈ fp, ∃ o, h.get? b = some o ∧ ∀ v, o.data ≠ .cell v
  keep : ∀ i h h', tn i h → (∀ b ∈ fp, ∀ o, h.get? b = some o → h'.get? b = some o) → tn i h'
  item : ∀ (X : Cx), X.prog = P → X.w = w → X.K = K → X.calm = true → ∀ (i : Nat) (pins : List (Addr × Obj)) (s : Shared) (σ : St) (H : Hp) (E : Value → Shared → Prop), Inv X pins σ H s → (∀ b ∈ fp, FpOk X pins H b) → tn i s.heap → J.go i H →
    wpAny (model P w) X.A (pyNext (.ref it)) (fun r s1 => ∃ u, r = some u ∧
      wpAny (model P w) X.A (letOwnedTupleGo tg (.ref it) u) (fun _ s2 => ∃ x H', Inv X pins σ H' s2 ∧ RelV x u ∧ J.yld i H x H' ∧ tn (i + 1) s2.heap ∧ ∀ b ∈ fp, H' b = none) E s1) E s
  done : ∀ (X : Cx), X.prog = P → X.w = w → X.K = K → X.calm = true → ∀ (i : Nat) (pins : List (Addr × Obj)) (s : Shared) (σ : St) (H : Hp) (E : Value → Shared → Prop), Inv X pins σ H s → (∀ b ∈ fp, FpOk X pins H b) → tn i s.heap → J.stop i H →
    wpAny (model P w) X.A (pyNext (.ref it)) (fun r s1 => r = none ∧ Inv X pins σ H s1) E s
  self : ∀ (A : Around) (i : Nat) (s : Shared) (Q : Value → Shared → Prop) (E : Value → Shared → Prop), tn i s.heap → Q (.ref it) s → wpAny (model P w) A (pyIter (.ref it)) Q E s
noncomputable abbrev TI := St → Hp → (It → Hp → Prop) → Prop
noncomputable def PIE (X : Cx) (pins : List (Addr × Obj)) (σ : St) (tg : Expr) (R : It → Hp → Prop) (itv : Value) (s2 : Shared) : Prop :=
  ∃ (it : Addr) (fp : List Addr) (tn : Nat → Heap → Prop) (J : It) (H' : Hp), itv = .ref it ∧ Inv X pins σ H' s2 ∧ Turn X.prog X.w X.K tg J fp it tn ∧ tn 0 s2.heap ∧ (∀ b ∈ fp, FpOk X pins H' b) ∧ R J H'
noncomputable def PI (X : Cx) (tg iter : Expr) (wi : TI) : Prop :=
  ∀ (pins : List (Addr × Obj)) (s : Shared) (σ : St) (H : Hp) (R : It → Hp → Prop), Inv X pins σ H s → wi σ H R →
    wpAny (model X.prog X.w) X.A (eval iter X.env) (fun v s1 => wpAny (model X.prog X.w) X.A (pyIter v) (PIE X pins σ tg R) X.xe s1) X.xe s
theorem go_of {M : Model} {A : Around} {E : Value → Shared → Prop} {s : Shared} {tg : Expr} {it : Addr} {u : Value} {o : Obj} {n : String} {vs : Array Value} {Q : Unit → Shared → Prop} (ho : s.heap.get? it = some o) (hc : o.cls = .type n) (hd : o.data = .fields vs)
    (hn : ["enumerate", "zip", "dict_itemiterator", "dict_reverseitemiterator", "odict_iterator", "itertools.zip_longest", "itertools.pairwise"].contains n = false) (hQ : Q () s) : wpAny M A (letOwnedTupleGo tg (.ref it) u) Q E s := by
  unfold letOwnedTupleGo
  cases tg <;> first
    | exact wpAny_pure hQ
    | (cases u <;> first
        | exact wpAny_pure hQ
        | (refine wpAny_bind (wpAny_load ho ?_)
           rw [hc, hd]
           show wpAny M A (if (["enumerate", "zip", "dict_itemiterator", "dict_reverseitemiterator", "odict_iterator", "itertools.zip_longest", "itertools.pairwise"].contains n && vs[0]? == some (rawInt _)) = true then _ else _) Q E s
           rw [if_neg (by intro h; rw [hn, Bool.false_and] at h; cases h)]
           exact wpAny_pure hQ))
noncomputable def Itl (K : PySem.W.Frag) (a : Addr) : It :=
  ⟨fun i H => ∃ xs x, SqL K H a xs ∧ xs[i]? = some x, fun i H x H' => H' = H ∧ ∀ xs, SqL K H a xs → xs[i]? = some x, fun i H => ∃ xs, SqL K H a xs ∧ xs.length ≤ i⟩
noncomputable def Itr (lo : Int) (n : Nat) : It := ⟨fun i _ => i < n, fun i H x H' => H' = H ∧ x = .int (lo + i), fun i _ => n ≤ i⟩
theorem turn_list {P : Program} {w : World} {K : PySem.W.Frag} {tg : Expr} (a it : Addr) : Turn P w K tg (Itl K a) [it] it (fun i h => h.IsListIter it a i) where
  mem := by simp
  obj := fun i h st b hb => by
    have e : b = it := by simpa using hb
    subst e
    obtain ⟨o, e, c, d⟩ := st
    exact ⟨o, e, fun v z => by rw [d] at z; cases z⟩
  keep := fun i h h' st k => st.at fun o e => k it (by simp) o e
  item := by
    intro X hP hw hK hc i pins s σ H E I hf st hg
    subst hP hw hK
    obtain ⟨xs, x, hq, hx⟩ := hg
    obtain ⟨its, rv, p, hz⟩ := I.list hq
    obtain ⟨u, hu, ru⟩ := rv.get hx
    obtain ⟨f0, f1, f2, f3, f4, f5⟩ := hf it (by simp)
    refine wpAny_pyNext_list_item st p.isList (x := u) (by simpa using hu) fun h' st' sb => ?_
    have I1 : Inv X pins σ H { s with heap := h' } := I.turned (t' := s.toks) (fun b o hb e => (sb.2 b hb).trans e) f0 f1 f3 f4 f5
    obtain ⟨o, e, c, d⟩ := id st'
    exact ⟨u, rfl, go_of (s := { s with heap := h' }) e c d (by decide) ⟨x, H, I1, ru, ⟨rfl, fun ys hy => by rw [I.list_inj hy hq]; exact hx⟩, st', fun b hb => (hf b hb).1⟩⟩
  done := by
    intro X hP hw hK hc i pins s σ H E I hf st hg
    subst hP hw hK
    obtain ⟨xs, hq, hx⟩ := hg
    obtain ⟨its, rv, p, hz⟩ := I.list hq
    obtain ⟨f0, f1, f2, f3, f4, f5⟩ := hf it (by simp)
    have hl := rv.length
    exact wpAny_pyNext_list_end (I.ok.hd hc) st p.isList (by simp; omega) fun h' eb => ⟨rfl, I.turned (t' := s.toks) (fun b o hb e => eb b o hb e) f0 f1 f3 f4 f5⟩
  self := fun _ _ _ _ _ st h => wpAny_pyIter_listiter st h
theorem turn_range {P : Program} {w : World} {K : PySem.W.Frag} {tg : Expr} (it : Addr) (lo : Int) (n : Nat) : Turn P w K tg (Itr lo n) [it] it (fun i h => IsRangeIter h it (lo + (i : Nat) * 1) ((n : Int) - (i : Nat)) 1) where
  mem := by simp
  obj := fun i h st b hb => by
    have e : b = it := by simpa using hb
    subst e
    exact ⟨_, st, fun v z => by
      have z' : Data.fields _ = Data.cell v := z
      cases z'⟩
  keep := fun i h h' st k => k it (by simp) _ st
  item := by
    intro X hP hw hK hc i pins s σ H E I hf st hg
    subst hP hw hK
    obtain ⟨f0, f1, f2, f3, f4, f5⟩ := hf it (by simp)
    have W := Walks.range (prog := X.prog) (w := X.w) (I.ok.hd hc) it lo 1 n
    refine W.item i s _ _ hg st fun v h' tk hv st' kk => ?_
    obtain ⟨t, rfl⟩ := hv
    have I1 : Inv X pins σ H { s with heap := h', toks := tk } := I.turned (fun b o hb e => kk b o (by simpa using hb) e) f0 f1 f3 f4 f5
    refine ⟨_, rfl, go_of (s := { s with heap := h', toks := tk }) (n := "range_iterator") st' rfl rfl (by decide) ⟨.int (lo + i), H, I1, ⟨t, ?_⟩, ⟨rfl, rfl⟩, st', fun b hb => (hf b hb).1⟩⟩
    rw [Int.mul_one]
  done := by
    intro X hP hw hK hc i pins s σ H E I hf st hg
    subst hP hw hK
    obtain ⟨f0, f1, f2, f3, f4, f5⟩ := hf it (by simp)
    exact wpAny_pyNext_range_end (I.ok.hd hc) st (by have : n ≤ i := hg; omega) fun h' eb => ⟨rfl, I.turned (t' := s.toks) (fun b o hb e => eb b o hb e) f0 f1 f3 f4 f5⟩
  self := fun _ _ _ _ _ st h => wpAny_pyIter_rangeiter st h
end L2
namespace L2
open PySem PySem.Spec PyProof.Rows
section
variable {X : Cx} {tg : Expr}
noncomputable def iList (K : PySem.W.Frag) (tl : TE) : TI := fun σ H R => tl σ H fun x H1 => ∃ a, x = .ref a ∧ (∃ xs, SqL K H1 a xs) ∧ R (Itl K a) H1
theorem pi_list {l : Expr} {tl : TE} (hl : PE X l tl) : PI X tg l (iList X.K tl) := by
  intro pins s σ H R I h
  refine thn (hl pins s σ H _ I h) fun v s1 ⟨x, H1, I1, r1, q1⟩ => ?_
  obtain ⟨a, e, ⟨xs, hq⟩, q⟩ := q1
  subst e
  cases r1
  obtain ⟨its, rv, p, hz⟩ := I1.list hq
  refine wpAny_pyIter_list p.isList ?_
  refine ⟨s1.heap.objs.size, [s1.heap.objs.size], _, _, H1, rfl, I1.kept (t' := s1.toks) fun b o e => Heap.get?_push_of_some _ e, turn_list a _, ⟨_, Heap.get?_push_size _ rfl, rfl, rfl⟩, fun b hb => ?_, q⟩
  have e : b = s1.heap.objs.size := by simpa using hb
  subst e
  exact I1.fpOk (Nat.le_refl _) (I1.hok.fresh (Nat.le_refl _))
theorem range_it {pins : List (Addr × Obj)} {σ : St} {H : Hp} {s : Shared} {R : It → Hp → Prop} {E : Value → Shared → Prop} {lo hi : Int} {t u v : Tok} {tk : Nat} (I : Inv X pins σ H s) (h1 : -(2 ^ 62) ≤ lo) (h2 : lo < 2 ^ 62) (h3 : -(2 ^ 62) ≤ hi) (h4 : hi < 2 ^ 62)
    (q : R (Itr lo (hi - lo).toNat) H) : wpAny (model X.prog X.w) X.A (pyIter (.ref s.heap.objs.size)) (PIE X pins σ tg R) E { s with heap := s.heap.push { cls := .type "range", data := .fields #[.int lo t, .int hi u, .int 1 v] }, toks := tk } := by
  refine wpAny_pyIter_range (IsRange.new ..) (small_one h1 h2 h3 h4) ?_
  have I1 : Inv X pins σ H { s with heap := s.heap.push { cls := .type "range", data := .fields #[.int lo t, .int hi u, .int 1 v] }, toks := tk } := I.kept fun b o e => Heap.get?_push_of_some _ e
  refine ⟨(s.heap.push { cls := .type "range", data := .fields #[.int lo t, .int hi u, .int 1 v] }).objs.size, [(s.heap.push { cls := .type "range", data := .fields #[.int lo t, .int hi u, .int 1 v] }).objs.size], _, _, H, rfl,
    I1.kept (t' := tk) fun b o e => Heap.get?_push_of_some _ e, turn_range _ lo (hi - lo).toNat, ?_, fun b hb => ?_, q⟩
  · have e1 : lo + ((0 : Nat) : Int) * 1 = lo := by simp
    have e2 : (((hi - lo).toNat : Nat) : Int) - ((0 : Nat) : Int) = Builtin.Range.rangeSize lo hi 1 := by rw [rangeSize_one]; split <;> omega
    show IsRangeIter _ _ (lo + ((0 : Nat) : Int) * 1) ((((hi - lo).toNat : Nat) : Int) - ((0 : Nat) : Int)) 1
    rw [e1, e2]
    exact Heap.get?_push_size _ rfl
  · have e : b = (s.heap.push { cls := .type "range", data := .fields #[.int lo t, .int hi u, .int 1 v] }).objs.size := by simpa using hb
    subst e
    exact I1.fpOk (Nat.le_refl _) (I1.hok.fresh (Nat.le_refl _))
noncomputable def iRng1 (ta : TA) : TI := fun σ H R => ta σ H fun vs H1 => ∃ j : Int, vs = [.int j] ∧ -(2 ^ 62) ≤ j ∧ j < 2 ^ 62 ∧ R (Itr 0 j.toNat) H1
noncomputable def iRng2 (ta : TA) : TI := fun σ H R => ta σ H fun vs H1 => ∃ i j : Int, vs = [.int i, .int j] ∧ (-(2 ^ 62) ≤ i ∧ i < 2 ^ 62 ∧ -(2 ^ 62) ≤ j ∧ j < 2 ^ 62) ∧ R (Itr i (j - i).toNat) H1
theorem pi_range1 {a : Expr} {ta : TA} {p pos : Pos} (hg : Gl X "range") (hm : X.mg "range" = none) (ha : PA X [a] ta) (hs : starEach [a] X.env = [(false, eval a X.env)] := by rfl) : PI X tg (.Call (.Name "range" p) [a] [] pos) (iRng1 ta) := by
  intro pins s σ H R I h
  refine Call_ (ld_blt I hg hm boot_range (PyProof.Rows.callWith_type1 (thn (ha pos pins s σ H _ I h) fun us s1 ⟨vs, H1, I1, r1, q1⟩ => ?_) hs rfl))
  obtain ⟨j, e, q1, q2, q⟩ := q1
  subst e
  cases r1 with
  | cons r rr =>
    cases rr
    obtain ⟨t, rfl⟩ := r
    exact call_range_1 (range_it I1 (by omega) (by omega) q1 q2 (by simpa using q))
theorem pi_range2 {a b : Expr} {ta : TA} {p pos : Pos} (hg : Gl X "range") (hm : X.mg "range" = none) (ha : PA X [a, b] ta) (hs : starEach [a, b] X.env = [(false, eval a X.env), (false, eval b X.env)] := by rfl) (hs2 : starEach [b] X.env = [(false, eval b X.env)] := by rfl) :
    PI X tg (.Call (.Name "range" p) [a, b] [] pos) (iRng2 ta) := by
  intro pins s σ H R I h
  refine Call_ (ld_blt I hg hm boot_range (PyProof.Rows.callWith_type1 (thn (ha pos pins s σ H _ I h) fun us s1 ⟨vs, H1, I1, r1, q1⟩ => ?_) (by rw [hs, hs2]) (by rw [hs2]; rfl)))
  obtain ⟨i, j, e, ⟨q1, q2, q3, q4⟩, q⟩ := q1
  subst e
  cases r1 with
  | cons r rr =>
    cases rr with
    | cons r' rr =>
      cases rr
      obtain ⟨t, rfl⟩ := r
      obtain ⟨t', rfl⟩ := r'
      exact call_range_2 (range_it I1 q1 q2 q3 q4 q)
noncomputable def tFor (wi : TI) (g : TG) (tb : TS) : TS := fun D σ H => wi σ H fun J H1 => ∃ W : Nat → Nat → St → Hp → Prop, (∃ m, W 0 m σ H1) ∧ ∀ i m σ H, W i m σ H →
  (J.stop i H ∧ D.nx σ H) ∨ (J.go i H ∧ ∃ N : St → Hp → Prop, (∀ σ' H', N σ' H' → ∃ m', m' < m ∧ W (i + 1) m' σ' H') ∧ ∀ x H', J.yld i H x H' → g x σ H' fun σ2 H2 => tb { D with nx := N, ct := N, bk := D.nx } σ2 H2)
noncomputable def pinsAt (fp : List Addr) (h : Heap) : List (Addr × Obj) := fp.filterMap fun b => (h.get? b).map fun o => (b, o)
theorem mem_pinsAt {fp : List Addr} {h : Heap} {b : Addr} {o : Obj} (hb : b ∈ fp) (e : h.get? b = some o) : (b, o) ∈ pinsAt fp h := List.mem_filterMap.mpr ⟨b, hb, by rw [e]; rfl⟩
theorem of_pinsAt {fp : List Addr} {h : Heap} {p : Addr × Obj} (hp : p ∈ pinsAt fp h) : p.1 ∈ fp ∧ h.get? p.1 = some p.2 := by
  obtain ⟨b, hb, e⟩ := List.mem_filterMap.mp hp
  cases q : h.get? b with
  | none => rw [q] at e; cases e
  | some o =>
    rw [q] at e
    have e' : (b, o) = p := Option.some.inj e
    subst e'
    exact ⟨hb, q⟩
theorem Inv.pinned {pins : List (Addr × Obj)} {σ : St} {H : Hp} {s : Shared} {fp : List Addr} (I : Inv X pins σ H s) (hf : ∀ b ∈ fp, FpOk X pins H b) (ho : ∀ b ∈ fp, ∃ o, s.heap.get? b = some o ∧ ∀ v, o.data ≠ .cell v) : Inv X (pins ++ pinsAt fp s.heap) σ H s :=
  I.pins_of fun p hp => (List.mem_append.mp hp).elim (fun z => I.pin p (List.mem_append_right _ z)) fun z => by
    obtain ⟨hb, e⟩ := of_pinsAt z
    obtain ⟨f0, f1, f2, _⟩ := hf p.1 hb
    obtain ⟨o, e', d⟩ := ho p.1 hb
    rw [e] at e'; cases e'
    exact ⟨e, f0, f1, f2, d⟩
theorem Inv.unpinned {pins pl : List (Addr × Obj)} {σ : St} {H : Hp} {s : Shared} (I : Inv X (pins ++ pl) σ H s) : Inv X pins σ H s := I.pins_of fun p hp => I.pin p (List.mem_append_right _ (List.mem_append_left _ hp))
theorem ps_for {iter : Expr} {body : List Stmt} {wi : TI} {g : TG} {tb : TS} {pos : Pos} (hp : PassesOwn (model X.prog X.w) X.A X.env X.xe) (hc : X.calm = true) (hi : PI X tg iter wi) (hg : PG X tg g) (hb : PSs X body tb)
    (hs : ∀ x, foldedSetIterable iter X.env x = pure x := by intro _; rfl) : PS X (.For tg iter body [] pos) (tFor wi g tb) := by
  intro pins s σ H D I h
  refine wpAny_For (thn (hi pins s σ H _ I h) fun v s1 h1 => thn h1 fun itv s2 h2 => ?_) hs
  obtain ⟨it, fp, tn, J, H2, e, I2, T, st2, f2, W, ⟨m0, w0⟩, turn⟩ := h2
  subst e
  -- what stays true of the iterator's objects through the loop
  have stat : ∀ {H' : Hp}, (∀ b ∈ fp, H' b = none) → ∀ b ∈ fp, FpOk X pins H' b := fun hn b hb => ⟨hn b hb, (f2 b hb).2⟩
  refine codeAny_forLoop_any (fun n s' => ∃ i σ' H', Inv X pins σ' H' s' ∧ tn i s'.heap ∧ (∀ b ∈ fp, H' b = none) ∧ W i n σ' H') ?_ m0 ⟨0, σ, H2, I2, st2, fun b hb => (f2 b hb).1, w0⟩
  rintro n s3 ⟨i, σ3, H3, I3, st3, fr3, w3⟩
  rcases turn i n σ3 H3 w3 with ⟨stop, qn⟩ | ⟨go, N, hN, step⟩
  · refine wpAny_passesOwn hp (thn (T.done X rfl rfl rfl hc i pins s3 σ3 H3 X.xe I3 (stat fr3) st3 stop) fun r s4 ⟨hr, I4⟩ => ?_)
    subst hr
    exact wpAny_execs_nil ⟨σ3, H3, I4, qn⟩
  · refine wpAny_passesOwn hp (thn (T.item X rfl rfl rfl hc i pins s3 σ3 H3 X.xe I3 (stat fr3) st3 go) fun r s4 ⟨u, hr, h4⟩ => ?_)
    subst hr
    refine wpAny_passesOwn hp (thn h4 fun _ s5 ⟨x, H5, I5, r5, y5, st5, fr5⟩ => ?_)
    have I5' := I5.pinned (stat fr5) (T.obj _ _ st5)
    refine wpAny_passesOwn hp (thn (hg _ s5 σ3 H5 x u _ I5' r5 (step x H5 y5)) fun _ s6 ⟨σ6, H6, I6, q6⟩ => ?_)
    refine wpAny_passesOwn hp (thn (hb _ s6 σ6 H6 _ I6 q6) fun f s7 q7 => ?_)
    have again : ∀ {σ7 : St} {H7 : Hp}, Inv X (pins ++ pinsAt fp s5.heap) σ7 H7 s7 → N σ7 H7 → ∃ m, m < n ∧ ∃ i σ' H', Inv X pins σ' H' s7 ∧ tn i s7.heap ∧ (∀ b ∈ fp, H' b = none) ∧ W i m σ' H' := fun {σ7 H7} I7 n7 => by
      obtain ⟨m', hm, w7⟩ := hN σ7 H7 n7
      refine ⟨m', hm, i + 1, σ7, H7, I7.unpinned, T.keep _ _ _ st5 fun b hb o e => (I7.pin (b, o) (List.mem_append_right _ (List.mem_append_right _ (mem_pinsAt hb e)))).1, fun b hb => ?_, w7⟩
      obtain ⟨o, e, d⟩ := T.obj _ _ st5 b hb
      exact (I7.pin (b, o) (List.mem_append_right _ (List.mem_append_right _ (mem_pinsAt hb e)))).2.1
    cases f with
    | next => obtain ⟨σ7, H7, I7, n7⟩ := q7; exact again I7 n7
    | cont => obtain ⟨σ7, H7, I7, n7⟩ := q7; exact again I7 n7
    | brk => obtain ⟨σ7, H7, I7, q7⟩ := q7; exact ⟨σ7, H7, I7.unpinned, q7⟩
    | ret v => obtain ⟨x7, σ7, H7, I7, r7, q7⟩ := q7; exact ⟨x7, σ7, H7, I7.unpinned, r7, q7⟩
end
theorem for_list {K : PySem.W.Frag} {a : Addr} {xs : List V} {g : TG} {tb : TS} {D : Ends} {σ : St} {H : Hp} (Pv : Nat → St → Hp → Prop) (h0 : Pv 0 σ H) (hl : ∀ i σ H, i ≤ xs.length → Pv i σ H → SqL K H a xs)
    (hs : ∀ i x σ H, xs[i]? = some x → Pv i σ H → g x σ H fun σ2 H2 => tb { D with nx := Pv (i + 1), ct := Pv (i + 1), bk := D.nx } σ2 H2) (hd : ∀ σ H, Pv xs.length σ H → D.nx σ H) :
    ∃ W : Nat → Nat → St → Hp → Prop, (∃ m, W 0 m σ H) ∧ ∀ i m σ H, W i m σ H →
      ((Itl K a).stop i H ∧ D.nx σ H) ∨ ((Itl K a).go i H ∧ ∃ N : St → Hp → Prop, (∀ σ' H', N σ' H' → ∃ m', m' < m ∧ W (i + 1) m' σ' H') ∧ ∀ x H', (Itl K a).yld i H x H' → g x σ H' fun σ2 H2 => tb { D with nx := N, ct := N, bk := D.nx } σ2 H2) := by
  refine ⟨fun i m σ H => m = xs.length - i ∧ i ≤ xs.length ∧ Pv i σ H, ⟨xs.length, by simp, Nat.zero_le _, h0⟩, ?_⟩
  rintro i m σ H ⟨rfl, hi, p⟩
  have q := hl i σ H hi p
  by_cases hlt : i < xs.length
  · refine .inr ⟨⟨xs, xs[i], q, by simp [hlt]⟩, Pv (i + 1), fun σ' H' p' => ⟨xs.length - (i + 1), by omega, rfl, hlt, p'⟩, fun x H' y => ?_⟩
    obtain ⟨e, y⟩ := y
    subst e
    exact hs i x σ _ (y xs q) p
  · have e : i = xs.length := by omega
    subst e
    exact .inl ⟨⟨xs, q, Nat.le_refl _⟩, hd σ H p⟩
theorem for_range {lo : Int} {n : Nat} {g : TG} {tb : TS} {D : Ends} {σ : St} {H : Hp} (Pv : Nat → St → Hp → Prop) (h0 : Pv 0 σ H)
    (hs : ∀ i σ H, i < n → Pv i σ H → g (.int (lo + i)) σ H fun σ2 H2 => tb { D with nx := Pv (i + 1), ct := Pv (i + 1), bk := D.nx } σ2 H2) (hd : ∀ σ H, Pv n σ H → D.nx σ H) :
    ∃ W : Nat → Nat → St → Hp → Prop, (∃ m, W 0 m σ H) ∧ ∀ i m σ H, W i m σ H →
      ((Itr lo n).stop i H ∧ D.nx σ H) ∨ ((Itr lo n).go i H ∧ ∃ N : St → Hp → Prop, (∀ σ' H', N σ' H' → ∃ m', m' < m ∧ W (i + 1) m' σ' H') ∧ ∀ x H', (Itr lo n).yld i H x H' → g x σ H' fun σ2 H2 => tb { D with nx := N, ct := N, bk := D.nx } σ2 H2) := by
  refine ⟨fun i m σ H => m = n - i ∧ i ≤ n ∧ Pv i σ H, ⟨n, by simp, Nat.zero_le _, h0⟩, ?_⟩
  rintro i m σ H ⟨rfl, hi, p⟩
  by_cases hlt : i < n
  · refine .inr ⟨hlt, Pv (i + 1), fun σ' H' p' => ⟨n - (i + 1), by omega, rfl, hlt, p'⟩, fun x H' y => ?_⟩
    obtain ⟨e, y⟩ := y
    subst e y
    exact hs i σ _ hlt p
  · have e : i = n := by omega
    subst e
    exact .inl ⟨Nat.le_refl _, hd σ H p⟩
end L2
namespace L2
open PySem PySem.Spec PyProof.Rows
noncomputable abbrev R2 := V → V → Hp → VK → Prop
noncomputable def OpR (X : Cx) (f : Value → Value → Sem Value) (r : R2) : Prop :=
  ∀ (pins : List (Addr × Obj)) (s : Shared) (σ : St) (H : Hp) (x y : V) (v u : Value) (Q : VK), Inv X pins σ H s → RelV x v → RelV y u → r x y H Q →
    wpAny (model X.prog X.w) X.A (f v u) (EP X pins σ Q) X.xe s
noncomputable def UnR (X : Cx) (f : Value → Sem Value) (r : V → Hp → VK → Prop) : Prop :=
  ∀ (pins : List (Addr × Obj)) (s : Shared) (σ : St) (H : Hp) (x : V) (v : Value) (Q : VK), Inv X pins σ H s → RelV x v → r x H Q →
    wpAny (model X.prog X.w) X.A (f v) (EP X pins σ Q) X.xe s
noncomputable def CallR (X : Cx) (f : Value) (r : List V → Hp → VK → Prop) : Prop :=
  ∀ (pins : List (Addr × Obj)) (s : Shared) (σ : St) (H : Hp) (xs : List V) (us : List Value) (Q : VK), Inv X pins σ H s → Vals xs us → r xs H Q →
    wpAny (model X.prog X.w) X.A (call f us) (EP X pins σ Q) X.xe s
noncomputable def tOp (r : R2) (ta tb : TE) : TE := fun σ H Q => ta σ H fun x H1 => tb σ H1 fun y H2 => r x y H2 Q
noncomputable def tUn (r : V → Hp → VK → Prop) (ta : TE) : TE := fun σ H Q => ta σ H fun x H1 => r x H1 Q
noncomputable def rI (C : Int → Int → Prop) (g : Int → Int → V) : R2 := fun x y H Q => ∃ i j, x = .int i ∧ y = .int j ∧ C i j ∧ Q (g i j) H
noncomputable def rI0 (g : Int → Int → V) : R2 := fun x y H Q => ∃ i j, x = .int i ∧ y = .int j ∧ Q (g i j) H
noncomputable def rU (g : Int → V) : V → Hp → VK → Prop := fun x H Q => ∃ i, x = .int i ∧ Q (g i) H
section
variable {X : Cx} {a b c : Expr} {ta tb tc : TE} {pos : Pos}
theorem binT (ha : PE X a ta) (hb : PE X b tb) {pins : List (Addr × Obj)} {s : Shared} {σ : St} {H : Hp} {R : V → V → Hp → Prop} (I : Inv X pins σ H s)
    (h : ta σ H fun x H1 => tb σ H1 fun y H2 => R x y H2) {Q : Value → Shared → Prop} {f : Value → Value → Sem Value}
    (hf : ∀ v u s2 x y H2, Inv X pins σ H2 s2 → RelV x v → RelV y u → R x y H2 → wpAny (model X.prog X.w) X.A (f v u) Q X.xe s2) :
    wpAny (model X.prog X.w) X.A (eval a X.env) (fun v s₁ => wpAny (model X.prog X.w) X.A (eval b X.env) (fun u s₂ => wpAny (model X.prog X.w) X.A (f v u) Q X.xe s₂) X.xe s₁) X.xe s := by
  refine thn (ha pins s σ H _ I h) fun v s1 ⟨x, H1, I1, r1, q1⟩ => ?_
  refine thn (hb pins s1 σ H1 _ I1 q1) fun u s2 ⟨y, H2, I2, r2, q2⟩ => ?_
  exact hf v u s2 x y H2 I2 r1 r2 q2
theorem pe_op {op : Operator} {r : R2} (ho : OpR X (binaryOp op) r) (ha : PE X a ta) (hb : PE X b tb) : PE X (.BinOp a op b pos) (tOp r ta tb) := by
  intro pins s σ H Q I h
  exact wpAny_BinOp (binT ha hb I h fun v u s2 x y H2 I2 rx ry q => ho pins s2 σ H2 x y v u Q I2 rx ry q)
theorem pe_un {op : UnaryOp} {r : V → Hp → VK → Prop} (ho : UnR X (unaryOp op) r) (ha : PE X a ta) : PE X (.UnaryOp op a pos) (tUn r ta) := by
  intro pins s σ H Q I h
  exact UnaryOp_ (thn (ha pins s σ H _ I h) fun v s1 ⟨x, H1, I1, r1, q1⟩ => ho pins s1 σ H1 x v Q I1 r1 q1)
theorem augR {op : Operator} {r : R2} (ho : OpR X (inplaceOp op) r) {pins : List (Addr × Obj)} {s : Shared} {σ : St} {H : Hp} {x y : V} {v u : Value} {Q : VK} (I : Inv X pins σ H s)
    (rx : RelV x v) (ry : RelV y u) (q : r x y H Q) : wpAny (model X.prog X.w) X.A (inplaceOp op v u) (EP X pins σ Q) X.xe s := ho pins s σ H x y v u Q I rx ry q
theorem opI {f : Value → Value → Sem Value} {C : Int → Int → Prop} {g : Int → Int → Int}
    (rule : ∀ (i j : Int) (t u : Tok) (s : Shared) (Q : Value → Shared → Prop) (E : Value → Shared → Prop), C i j → Q (.int (g i j) s.toks) { s with toks := s.toks + 1 } → wpAny (model X.prog X.w) X.A (f (.int i t) (.int j u)) Q E s) :
    OpR X f (rI C fun i j => .int (g i j)) := by
  intro pins s σ H x y v u Q I rx ry h
  obtain ⟨i, j, rfl, rfl, hc, q⟩ := h
  obtain ⟨t, rfl⟩ := rx
  obtain ⟨t', rfl⟩ := ry
  exact rule i j t t' s _ _ hc ⟨.int (g i j), H, I.tok _, ⟨_, rfl⟩, q⟩
theorem opI0 {f : Value → Value → Sem Value} {g : Int → Int → Int}
    (rule : ∀ (i j : Int) (t u : Tok) (s : Shared) (Q : Value → Shared → Prop) (E : Value → Shared → Prop), Q (.int (g i j) s.toks) { s with toks := s.toks + 1 } → wpAny (model X.prog X.w) X.A (f (.int i t) (.int j u)) Q E s) :
    OpR X f (rI0 fun i j => .int (g i j)) := by
  intro pins s σ H x y v u Q I rx ry h
  obtain ⟨i, j, rfl, rfl, q⟩ := h
  obtain ⟨t, rfl⟩ := rx
  obtain ⟨t', rfl⟩ := ry
  exact rule i j t t' s _ _ ⟨.int (g i j), H, I.tok _, ⟨_, rfl⟩, q⟩
theorem opB0 {f : Value → Value → Sem Value} {g : Int → Int → Bool}
    (rule : ∀ (i j : Int) (t u : Tok) (s : Shared) (Q : Value → Shared → Prop) (E : Value → Shared → Prop), Q (.bool (g i j)) s → wpAny (model X.prog X.w) X.A (f (.int i t) (.int j u)) Q E s) :
    OpR X f (rI0 fun i j => .bl (g i j)) := by
  intro pins s σ H x y v u Q I rx ry h
  obtain ⟨i, j, rfl, rfl, q⟩ := h
  obtain ⟨t, rfl⟩ := rx
  obtain ⟨t', rfl⟩ := ry
  exact rule i j t t' s _ _ ⟨.bl (g i j), H, I, rfl, q⟩
noncomputable def CPow (i j : Int) : Prop := 0 ≤ j ∧ j ≤ 1000000 ∧ i.natAbs < 2 ^ 64
noncomputable def CMul (i j : Int) : Prop := (-(2 ^ 64) < i ∧ i < 2 ^ 64) ∨ (-(2 ^ 64) < j ∧ j < 2 ^ 64)
theorem CMul.ok {i j : Int} (h : CMul i j) : IntMulOk i j := by
  rcases h with ⟨h1, h2⟩ | ⟨h1, h2⟩
  · exact .of_left (intBits_le_64 h1 h2)
  · exact .of_right (intBits_le_64 h1 h2)
theorem op_add : OpR X (binaryOp .Add) (rI0 fun i j => .int (i + j)) := opI0 fun _ _ _ _ _ _ _ q => add_int q
theorem op_sub : OpR X (binaryOp .Sub) (rI0 fun i j => .int (i - j)) := opI0 fun _ _ _ _ _ _ _ q => sub_int q
theorem op_mul : OpR X (binaryOp .Mult) (rI CMul fun i j => .int (i * j)) := opI fun _ _ _ _ _ _ _ hc q => mul_int q hc.ok
theorem op_mod : OpR X (binaryOp .Mod) (rI (fun _ j => 0 < j) fun i j => .int (i % j)) := opI fun i j _ _ _ _ _ hc q => by
  have h1 : (0 : Int) < j := hc
  exact mod_int' (by omega) (by rw [Int.fmod_eq_emod_of_nonneg i (by omega)]; exact q)
theorem op_pow : OpR X (binaryOp .Pow) (rI CPow fun i j => .int (i ^ j.toNat)) := opI fun _ _ _ _ _ _ _ hc q => pow_int_small hc.1 hc.2.1 hc.2.2 q
theorem unI {f : Value → Sem Value} {g : Int → Int}
    (rule : ∀ (i : Int) (t : Tok) (s : Shared) (Q : Value → Shared → Prop) (E : Value → Shared → Prop), Q (.int (g i) s.toks) { s with toks := s.toks + 1 } → wpAny (model X.prog X.w) X.A (f (.int i t)) Q E s) :
    UnR X f (rU fun i => .int (g i)) := by
  intro pins s σ H x v Q I rx h
  obtain ⟨i, rfl, q⟩ := h
  obtain ⟨t, rfl⟩ := rx
  exact rule i t s _ _ ⟨.int (g i), H, I.tok _, ⟨_, rfl⟩, q⟩
theorem un_neg : UnR X (unaryOp .USub) (rU fun i => .int (-i)) := unI fun _ _ _ _ _ q => neg_int q
end
noncomputable def scal : V → V → Bool
  | .non, .non => true | .non, .int _ => true | .int _, .non => true | .non, .bl _ => true | .bl _, .non => true | .non, .str _ => true | .str _, .non => true
  | .int _, .int _ => true | .bl _, .bl _ => true | .str _, .str _ => true | .byt _, .byt _ => true
  | .int _, .str _ => true | .str _, .int _ => true | .bl _, .str _ => true | .str _, .bl _ => true
  | _, _ => false
noncomputable def rEq : R2 := fun x y H Q => scal x y = true ∧ Q (.bl (decide (x = y))) H
noncomputable def rNe : R2 := fun x y H Q => scal x y = true ∧ Q (.bl (!decide (x = y))) H
theorem dec_int {i j : Int} : decide (V.int i = V.int j) = (i == j) := by
  rw [Bool.eq_iff_iff]
  simp
theorem dec_bl {i j : Bool} : decide (V.bl i = V.bl j) = (i == j) := by
  rw [Bool.eq_iff_iff]
  simp
theorem dec_str {i j : Str} : decide (V.str i = V.str j) = (i == j) := by
  rw [Bool.eq_iff_iff]
  simp
theorem dec_byt {i j : Array UInt8} : decide (V.byt i = V.byt j) = (i.toList == j.toList) := by
  rw [Bool.eq_iff_iff]
  cases i
  cases j
  simp
section
variable {X : Cx} {a b c : Expr} {ta tb tc : TE} {pos : Pos}
theorem fin_bl {pins : List (Addr × Obj)} {σ : St} {H : Hp} {s : Shared} {Q : VK} {k k' : Bool} (I : Inv X pins σ H s) (q : Q (.bl k) H) (e : k = k') : EP X pins σ Q (.bool k') s := by
  subst e
  exact ⟨.bl k, H, I, rfl, q⟩
theorem op_eq : OpR X (compareOp .Eq) rEq := by
  intro pins s σ H x y v u Q I rx ry h
  obtain ⟨hs, q⟩ := h
  cases x with
  | non =>
    cases rx
    cases y with
    | non => cases ry; exact PySem.EqNone.eq_none_none (fin_bl I q (by simp))
    | bl j => cases ry; exact PySem.EqNone.eq_none_bool (fin_bl I q (by simp))
    | int j => obtain ⟨t', rfl⟩ := ry; exact PySem.EqNone.eq_none_int (fin_bl I q (by simp))
    | str j => obtain ⟨t', rfl⟩ := ry; exact PySem.EqNone.eq_none_str (fin_bl I q (by simp))
    | _ => exact absurd (show false = true from hs) Bool.false_ne_true
  | bl i =>
    cases rx
    cases y with
    | non => cases ry; exact PySem.EqNone.eq_bool_none (fin_bl I q (by simp))
    | bl j => cases ry; exact eq_bool (fin_bl I q dec_bl)
    | str j => obtain ⟨t', rfl⟩ := ry; exact PySem.EqMixed.eq_bool_str (fin_bl I q (by simp))
    | _ => exact absurd (show false = true from hs) Bool.false_ne_true
  | int i =>
    obtain ⟨t, rfl⟩ := rx
    cases y with
    | non => cases ry; exact PySem.EqNone.eq_int_none (fin_bl I q (by simp))
    | int j => obtain ⟨t', rfl⟩ := ry; exact eq_int (fin_bl I q dec_int)
    | str j => obtain ⟨t', rfl⟩ := ry; exact PySem.EqMixed.eq_int_str (fin_bl I q (by simp))
    | _ => exact absurd (show false = true from hs) Bool.false_ne_true
  | str i =>
    obtain ⟨t, rfl⟩ := rx
    cases y with
    | non => cases ry; exact PySem.EqNone.eq_str_none (fin_bl I q (by simp))
    | bl j => cases ry; exact PySem.EqMixed.eq_str_bool (fin_bl I q (by simp))
    | int j => obtain ⟨t', rfl⟩ := ry; exact PySem.EqMixed.eq_str_int (fin_bl I q (by simp))
    | str j => obtain ⟨t', rfl⟩ := ry; exact eq_str (fin_bl I q dec_str)
    | _ => exact absurd (show false = true from hs) Bool.false_ne_true
  | byt i =>
    obtain ⟨t, rfl⟩ := rx
    cases y with
    | byt j => obtain ⟨t', rfl⟩ := ry; exact PySem.W.eq_bytes (fin_bl I q dec_byt)
    | _ => exact absurd (show false = true from hs) Bool.false_ne_true
  | _ => cases y <;> exact absurd (show false = true from hs) Bool.false_ne_true
theorem op_ne : OpR X (compareOp .NotEq) rNe := by
  intro pins s σ H x y v u Q I rx ry h
  obtain ⟨hs, q⟩ := h
  cases x with
  | non =>
    cases rx
    cases y with
    | non => cases ry; exact PySem.EqNone.ne_none_none (fin_bl I q (by simp))
    | bl j => cases ry; exact PySem.EqNone.ne_none_bool (fin_bl I q (by simp))
    | int j => obtain ⟨t', rfl⟩ := ry; exact PySem.EqNone.ne_none_int (fin_bl I q (by simp))
    | str j => obtain ⟨t', rfl⟩ := ry; exact PySem.EqNone.ne_none_str (fin_bl I q (by simp))
    | _ => exact absurd (show false = true from hs) Bool.false_ne_true
  | bl i =>
    cases rx
    cases y with
    | non => cases ry; exact PySem.EqNone.ne_bool_none (fin_bl I q (by simp))
    | bl j => cases ry; exact ne_bool (fin_bl I q (congrArg not dec_bl))
    | str j => obtain ⟨t', rfl⟩ := ry; exact PySem.EqMixed.ne_bool_str (fin_bl I q (by simp))
    | _ => exact absurd (show false = true from hs) Bool.false_ne_true
  | int i =>
    obtain ⟨t, rfl⟩ := rx
    cases y with
    | non => cases ry; exact PySem.EqNone.ne_int_none (fin_bl I q (by simp))
    | int j => obtain ⟨t', rfl⟩ := ry; exact ne_int (fin_bl I q (congrArg not dec_int))
    | str j => obtain ⟨t', rfl⟩ := ry; exact PySem.EqMixed.ne_int_str (fin_bl I q (by simp))
    | _ => exact absurd (show false = true from hs) Bool.false_ne_true
  | str i =>
    obtain ⟨t, rfl⟩ := rx
    cases y with
    | non => cases ry; exact PySem.EqNone.ne_str_none (fin_bl I q (by simp))
    | bl j => cases ry; exact PySem.EqMixed.ne_str_bool (fin_bl I q (by simp))
    | int j => obtain ⟨t', rfl⟩ := ry; exact PySem.EqMixed.ne_str_int (fin_bl I q (by simp))
    | str j => obtain ⟨t', rfl⟩ := ry; exact ne_str (fin_bl I q (congrArg not dec_str))
    | _ => exact absurd (show false = true from hs) Bool.false_ne_true
  | byt i =>
    obtain ⟨t, rfl⟩ := rx
    cases y with
    | byt j => obtain ⟨t', rfl⟩ := ry; exact PySem.W.ne_bytes (fin_bl I q (congrArg not dec_byt))
    | _ => exact absurd (show false = true from hs) Bool.false_ne_true
  | _ => cases y <;> exact absurd (show false = true from hs) Bool.false_ne_true
theorem op_lt : OpR X (compareOp .Lt) (rI0 fun i j => .bl (decide (i < j))) := opB0 fun _ _ _ _ _ _ _ q => lt_int q
theorem op_gt : OpR X (compareOp .Gt) (rI0 fun i j => .bl (decide (j < i))) := opB0 fun _ _ _ _ _ _ _ q => gt_int q
theorem op_ge : OpR X (compareOp .GtE) (rI0 fun i j => .bl (decide (j ≤ i))) := opB0 fun _ _ _ _ _ _ _ q => ge_int q
theorem nomark (b : Expr) {op : CmpOp} (h : op ≠ .In := by decide) (h2 : op ≠ .NotIn := by decide) : behindInMarks op b = false := by
  have e1 : (op == CmpOp.In) = false := by cases op <;> first | rfl | exact absurd rfl h
  have e2 : (op == CmpOp.NotIn) = false := by cases op <;> first | rfl | exact absurd rfl h2
  cases b <;> simp [behindInMarks, e1, e2]
theorem pe_cmpR {op : CmpOp} {r : R2} (ho : OpR X (compareOp op) r) (ha : PE X a ta) (hb : PE X b tb) (hm : behindInMarks op b = false) : PE X (.Compare a [op] [b] pos) (tOp r ta tb) := by
  intro pins s σ H Q I h
  exact wpAny_Compare1 (binT ha hb I h fun v u s2 x y H2 I2 rx ry q => ho pins s2 σ H2 x y v u Q I2 rx ry q) hm
noncomputable def tTest (t : TE) : TT := fun σ H Q => t σ H fun x H' => ∃ k, x = .bl k ∧ Q k H'
theorem pt_cmpR {op : CmpOp} {r : R2} (ho : OpR X (compareOp op) r) (ha : PE X a ta) (hb : PE X b tb) (hm : behindInMarks op b = false) : PT X (.Compare a [op] [b] pos) (tTest (tOp r ta tb)) := by
  intro pins s σ H Q I h
  refine wpAny_isTrue_Compare1 (thn (ha pins s σ H _ I h) fun v s1 ⟨x, H1, I1, r1, q1⟩ => thn (hb pins s1 σ H1 _ I1 q1) fun u s2 ⟨y, H2, I2, r2, q2⟩ =>
    thn (ho pins s2 σ H2 x y v u _ I2 r1 r2 q2) fun c s3 ⟨z, H3, I3, r3, k, e, q3⟩ => ?_) hm
  subst e
  cases r3
  exact wpAny_truthy_bool ⟨H3, I3, q3⟩
theorem line63 : (sizeLine : Nat) < 2 ^ 63 := by rw [sizeLine_eq]; decide
theorem vals1 {x : V} {us : List Value} (r : Vals [x] us) : ∃ u, us = [u] ∧ RelV x u := by
  cases r with
  | cons r1 r2 => cases r2; exact ⟨_, rfl, r1⟩
theorem vals2 {x y : V} {us : List Value} (r : Vals [x, y] us) : ∃ u w', us = [u, w'] ∧ RelV x u ∧ RelV y w' := by
  cases r with
  | cons r1 r2 =>
    cases r2 with
    | cons r3 r4 => cases r4; exact ⟨_, _, rfl, r1, r3⟩
theorem call_abs : CallR X (.builtin "abs") (fun xs H Q => ∃ i, xs = [.int i] ∧ Q (.int (if i < 0 then -i else i)) H) := by
  intro pins s σ H xs us Q I r h
  obtain ⟨i, rfl, q⟩ := h
  obtain ⟨u, rfl, t, rfl⟩ := vals1 r
  exact call_abs_int fun u tk => ⟨.int (if i < 0 then -i else i), H, I.tok _, ⟨_, rfl⟩, q⟩
theorem call_max2 (hc : X.calm = true) : CallR X (.builtin "max") (fun xs H Q => ∃ i j, xs = [.int i, .int j] ∧ Q (.int (if j > i then j else i)) H) := by
  intro pins s σ H xs us Q I r h
  obtain ⟨i, j, rfl, q⟩ := h
  obtain ⟨u, w', rfl, ⟨t, rfl⟩, ⟨t', rfl⟩⟩ := vals2 r
  refine max_two_ints (I.ok.hd hc) fun h' tk k => ⟨_, H, I.kept k, ?_, q⟩
  by_cases hj : j > i
  · rw [if_pos hj, if_pos hj]; exact ⟨_, rfl⟩
  · rw [if_neg hj, if_neg hj]; exact ⟨_, rfl⟩
theorem call_min2 (hc : X.calm = true) : CallR X (.builtin "min") (fun xs H Q => ∃ i j, xs = [.int i, .int j] ∧ Q (.int (if j < i then j else i)) H) := by
  intro pins s σ H xs us Q I r h
  obtain ⟨i, j, rfl, q⟩ := h
  obtain ⟨u, w', rfl, ⟨t, rfl⟩, ⟨t', rfl⟩⟩ := vals2 r
  refine min_two_ints (I.ok.hd hc) fun h' tk k => ⟨_, H, I.kept k, ?_, q⟩
  by_cases hj : j < i
  · rw [if_pos hj, if_pos hj]; exact ⟨_, rfl⟩
  · rw [if_neg hj, if_neg hj]; exact ⟨_, rfl⟩
theorem call_int1 : CallR X (.type "int") (fun xs H Q => (∃ i, xs = [.int i] ∧ Q (.int i) H) ∨ ∃ k, xs = [.bl k] ∧ Q (.int (if k then 1 else 0)) H) := by
  intro pins s σ H xs us Q I r h
  rcases h with ⟨i, rfl, q⟩ | ⟨k, rfl, q⟩
  · obtain ⟨u, rfl, t, rfl⟩ := vals1 r
    exact call_int_int ⟨.int i, H, I, ⟨_, rfl⟩, q⟩
  · obtain ⟨u, rfl, r1⟩ := vals1 r
    cases r1
    exact call_int_bool ⟨.int (if k then 1 else 0), H, I.tok _, ⟨_, rfl⟩, q⟩
end
end L2
namespace L2
open PySem PySem.Spec PyProof.Rows
structure ObjM (h : Heap) (x dx C : Addr) (mA : Str → Option Value) : Prop where
  obj : h.get? x = some (PySem.W.instObj C dx)
  ns : h.Ns1 dx mA
  ne : dx ≠ x
section
variable {prog : Program} {w : World} {A : Around} {E : Value → Shared → Prop} {s : Shared} {K : PySem.W.Frag} {x dx C f : Addr} {mA : Str → Option Value} {name : Str} {v : Value}
end
section
variable {P : Program} {w : World} {H H' : Hp} {h h' : Heap} {a C dx : Addr} {fs fs' : List (Str × V)}
end
structure Cls (K : PySem.W.Frag) (C : Addr) : Prop where
  pg : PySem.W.plainGet K C Str.empty = true
  hd : PySem.W.hasDictIn K C = true
  po : PySem.W.plainOver K C = true
  sa : PySem.W.findIn K (.ref C) "__setattr__" = some (some (.builtin "object.__setattr__"))
theorem Cls.get {K : PySem.W.Frag} {C : Addr} (c : Cls K C) (f : Str) : PySem.W.plainGet K C f = true := c.pg
structure Con (K : PySem.W.Frag) (C : Addr) (f : Str) (v : V) (u : Value) : Prop where
  at_ : PySem.W.findIn K (.ref C) f = some (some u)
  rel : RelV v u
  get : PySem.W.specialIn K u "__get__" = some none
  cp : PySem.W.copiedNames.contains f = false
structure Meth (K : PySem.W.Frag) (C : Addr) (m : Str) (f : Addr) : Prop where
  at_ : PySem.W.findIn K (.ref C) m = some (some (.ref f))
  fn : PySem.W.isFn K (.ref f) = true
  kp : PySem.W.keepIn K (.ref f) = true
section
variable {X : Cx} {pins : List (Addr × Obj)} {σ : St} {H : Hp} {s : Shared} {a C dx : Addr} {fs : List (Str × V)} {f : Str} {v : V} {A : Around} {E : Value → Shared → Prop}
end
section
variable {X : Cx} {o e value : Expr} {f : Str} {pos pos' tpos : Pos} {ta tv : TE}
end
section
variable {X : Cx} {pins : List (Addr × Obj)} {σ : St} {H : Hp} {s : Shared} {A : Around} {E : Value → Shared → Prop} {Q : Value → Shared → Prop} {c : Value} {b : Bool}
inductive TyOf (K : PySem.W.Frag) (H : Hp) : V → Value → Prop where
  | non : TyOf K H .non (.type "NoneType")
  | bl (x : Bool) : TyOf K H (.bl x) (.type "bool")
  | int (i : Int) : TyOf K H (.int i) (.type "int")
  | str (x : Str) : TyOf K H (.str x) (.type "str")
  | flt (x : UInt64) : TyOf K H (.flt x) (.type "float")
  | lst {a : Addr} {xs : List V} (e : H a = some (.lst xs)) : TyOf K H (.ref a) (.type "list")
  | frz {a : Addr} {o : Obj} {xs : List V} (e : H a = some (.frz o (.lst xs))) : TyOf K H (.ref a) (.type "list")
  | tup {a : Addr} {xs : List V} (e : H a = some (.tup xs)) : TyOf K H (.ref a) (.type "tuple")
  | dK {a : Addr} {kvs : List (Key × V)} (e : H a = some (.dK kvs)) : TyOf K H (.ref a) (.type "dict")
  | dT {a : Addr} {kvs : List (List Key × V)} (e : H a = some (.dT kvs)) : TyOf K H (.ref a) (.type "dict")
  | ins {a C dx : Addr} {fs : List (Str × V)} (e : H a = some (.ins C dx fs)) (cl : Cls K C) (ha : PySem.W.findIn K (.ref C) "__class__" = some (some (.builtin "object.__class__")))
      (hn : PySem.W.specialIn K (.builtin "object.__class__") "__get__" = some (some (.builtin "getset_descriptor.__get__"))) (htk : PySem.W.takesIn K (.builtin "object.__class__") = some true)
      (hm : PySem.W.mroIn K C (.type "object") = some true) : TyOf K H (.ref a) (.ref C)
end
end L2
namespace L2
open PySem PySem.Spec PyProof.Rows
structure Room (k : Nat) (A : Around) : Prop where
  hd : A.handled = none
  dp : A.depth + 3 * k + 5 < recursionLimit
  un : A.units + 16 * k + 200 < cLine
theorem Room.mono {j k : Nat} {A : Around} (r : Room k A) (h : j ≤ k) : Room j A := ⟨r.hd, by have := r.dp; omega, by have := r.un; omega⟩
theorem Room.deeper {k : Nat} {A : Around} (r : Room (k + 1) A) (env : Env) : Room k (A.deeper env) :=
  ⟨r.hd, by have := r.dp; show A.depth + 1 + 3 * k + 5 < _; omega, by have := r.un; show A.units + 3 + 16 * k + 200 < _; omega⟩
theorem Room.depth {k : Nat} {A : Around} (r : Room k A) : A.depth < recursionLimit := by have := r.dp; omega
theorem Room.units {k : Nat} {A : Around} (r : Room k A) : A.units + 64 < cLine := by have := r.un; omega
noncomputable def tNil : TA := fun _ H Q => Q [] H
noncomputable def tCons (ta : TE) (tr : TA) : TA := fun σ H Q => ta σ H fun x H1 => tr σ H1 fun xs H2 => Q (x :: xs) H2
section
variable {X : Cx} {e : Expr} {es : List Expr} {te : TE} {t : TA} {pos : Pos}
theorem pa_nil : PA X [] tNil := fun _ _ _ _ H Q I h => Calls.spliced_nil ⟨[], H, I, .nil, h⟩
theorem pa_cons (ha : PE X e te) (hr : PA X es t) (hs : starEach (e :: es) X.env = (false, eval e X.env) :: starEach es X.env := by rfl) : PA X (e :: es) (tCons te t) := by
  intro pos pins s σ H Q I h
  rw [hs]
  show wpAny _ _ (spliced ((false, eval e X.env) :: backTo pos (starEach es X.env))) _ _ s
  refine Calls.spliced_cons (thn (ha pins s σ H _ I h) fun u s1 ⟨x, H1, I1, r1, q1⟩ => ?_)
  exact thn (hr pos pins s1 σ H1 _ I1 q1) fun us s2 ⟨xs, H2, I2, r2, q2⟩ => ⟨x :: xs, H2, I2, .cons r1 r2, q2⟩
noncomputable def tTup (t : TA) : TE := fun σ H Q => t σ H fun xs H1 => xs.length ≤ sizeLine ∧ ∀ p, H1 p = none → Q (.ref p) (upd H1 p (.tup xs))
noncomputable def tLst (t : TA) : TE := fun σ H Q => t σ H fun xs H1 => xs.length ≤ sizeLine ∧ ∀ p, H1 p = none → Q (.ref p) (upd H1 p (.lst xs))
theorem pe_tup {x1} (h : PA X es t) : PE X (.Tuple es x1 pos) (tTup t) := by
  intro pins s σ H Q I hq
  refine wpAny_Tuple_spliced (thn (h pos pins s σ H _ I hq) fun us s1 ⟨xs, H1, I1, r, z, q⟩ => ⟨by rw [← r.length]; exact z, ?_⟩)
  have hf : H1 s1.heap.objs.size = none := I1.hok.fresh (Nat.le_refl _)
  refine ⟨.ref s1.heap.objs.size, upd H1 s1.heap.objs.size (.tup xs), I1.laid (t' := s1.toks) (fun b u e => Heap.get?_push_of_some _ e) (Nat.le_refl _) ?_, rfl, q _ hf⟩
  exact ⟨z, us, r, ⟨_, Heap.get?_push_size _ rfl, rfl, _, rfl⟩⟩
theorem pe_lst (h : PA X es t) : PE X (.List es pos) (tLst t) := by
  intro pins s σ H Q I hq
  refine wpAny_List_spliced (thn (h pos pins s σ H _ I hq) fun us s1 ⟨xs, H1, I1, r, z, q⟩ => ⟨by rw [← r.length]; exact z, ?_⟩)
  have hf : H1 s1.heap.objs.size = none := I1.hok.fresh (Nat.le_refl _)
  refine ⟨.ref s1.heap.objs.size, upd H1 s1.heap.objs.size (.lst xs), I1.laid (t' := s1.toks) (fun b u e => Heap.get?_push_of_some _ e) (Nat.le_refl _) ?_, rfl, q _ hf⟩
  exact ⟨z, us, 0, r, Heap.get?_push_size _ rfl⟩
end
noncomputable abbrev Sp := List V → Hp → VK → XK → Prop
noncomputable abbrev CXT := List Env → Hp → Shared → XK → Value → Shared → Prop
structure Env0 (P : Program) (w : World) (K : PySem.W.Frag) (mg : Str → Option Value) (base : Heap) (A : Around) (outer : List Env) (s : Shared) (H : Hp) : Prop where
  frames : A.frames = some outer
  mod : Mod K mg base
  bs : ∀ b o, base.get? b = some o → s.heap.get? b = some o ∧ H b = none
  bsz : base.objs.size ≤ s.heap.objs.size
  funs : s.heap.FunFrames base outer
  frf : ∀ b ∈ frs outer, H b = none
  hok : HOk P w H s.heap
  bare : AllBare s.gens
noncomputable def CE (outer : List Env) (P : Program) (w : World) (H : Hp) (s : Shared) (Q : VK) (u : Value) (s' : Shared) : Prop :=
  ∃ v H', s'.os = s.os ∧ AllBare s'.gens ∧ Un (frs outer) [] H H' s.heap s'.heap ∧ HOk P w H' s'.heap ∧ RelV v u ∧ Q v H'
noncomputable def CR (CX : CXT) (outer : List Env) (P : Program) (w : World) (H : Hp) (s : Shared) (Q : VK) (E : XK) (r : Result) (s' : Shared) : Prop :=
  match r with
  | .ok (.ret u) => CE outer P w H s Q u s'
  | .ok _ => False
  | .error e => CX outer H s E e s'
structure FnOk (P : Program) (w : World) (K : PySem.W.Frag) (mg : Str → Option Value) (base : Heap) (CX : CXT) (k : Nat) (f : Addr) (fd : FuncData) (ps : List Str) (sp : Sp) : Prop where
  len : ∀ vs H Q E, sp vs H Q E → vs.length = ps.length
  run : ∀ (A : Around) (outer : List Env) (s : Shared) (H : Hp) (args : Args) (us : List Value) (vs : List V) (Q : VK) (E : XK), Room k A → Env0 P w K mg base A outer s H → BindsTo s fd args (ps.zip us) → Vals vs us → sp vs H Q E →
    codeAny (model P w) A (.call (.ref f) args) (CR CX outer P w H s Q E) s
theorem FnOk.mono {P : Program} {w : World} {K : PySem.W.Frag} {mg : Str → Option Value} {base : Heap} {CX : CXT} {j k : Nat} {f : Addr} {fd : FuncData} {ps : List Str} {sp : Sp} (F : FnOk P w K mg base CX j f fd ps sp) (h : j ≤ k) :
    FnOk P w K mg base CX k f fd ps sp := ⟨F.len, fun A outer s H args us vs Q E hr => F.run A outer s H args us vs Q E (hr.mono h)⟩
theorem FnOk.imp {P : Program} {w : World} {K : PySem.W.Frag} {mg : Str → Option Value} {base : Heap} {CX : CXT} {k : Nat} {f : Addr} {fd : FuncData} {ps : List Str} {sp sp' : Sp} (F : FnOk P w K mg base CX k f fd ps sp)
    (h : ∀ vs H Q E, sp' vs H Q E → sp vs H Q E) : FnOk P w K mg base CX k f fd ps sp' :=
  ⟨fun vs H Q E q => F.len vs H Q E (h _ _ _ _ q), fun A outer s H args us vs Q E hr he hb hv hs => F.run A outer s H args us vs Q E hr he hb hv (h _ _ _ _ hs)⟩
section
variable {X : Cx} {pins : List (Addr × Obj)} {σ : St} {H : Hp} {s s' : Shared}
theorem Inv.env0 (I : Inv X pins σ H s) : Env0 X.prog X.w X.K X.mg X.base X.A X.stack s H :=
  ⟨I.ok.frames, I.ok.mod, I.bs, Nat.le_trans I.ok.bsz I.sz, I.stack, I.stkFree, I.hok, I.bare⟩
theorem Inv.after {Q : VK} {u : Value} (I : Inv X pins σ H s) (h : CE X.stack X.prog X.w H s Q u s') : EP X pins σ Q u s' := by
  obtain ⟨v, H', os, bare, un, hok, r, q⟩ := h
  obtain ⟨hh, g, d, t, os'⟩ := s'
  obtain rfl : os' = s.os := os
  exact ⟨v, H', I.call (h' := hh) (g' := g) (d' := d) (t' := t) (ch := []) un hok bare (fun b z => absurd z (by simp)), r, q⟩
end
noncomputable def tCall (sp : Sp) (dvs : List V) (E : XK) (t : TA) : TE := fun σ H Q => t σ H fun vs H1 => sp (vs ++ dvs) H1 Q E
noncomputable def Binds (K : PySem.W.Frag) (fd : FuncData) (ps : List Str) (ds : List Value) : Prop :=
  ∀ (s : Shared) (us : List Value), K.In s.heap → (us ++ ds).length = ps.length → BindsTo s fd ⟨us, []⟩ (ps.zip (us ++ ds))
theorem Binds.all {K : PySem.W.Frag} {fd : FuncData} {ps : List Str} (h : ∀ us : List Value, us.length = ps.length → bindArgs fd ⟨us, []⟩ = pure (ps.zip us)) : Binds K fd ps [] := fun s us _ hl => by
  rw [List.append_nil] at hl ⊢
  exact .of_eq (h us hl)
noncomputable def Passes (CX : CXT) (X : Cx) (E : XK) : Prop := ∀ (pins : List (Addr × Obj)) (σ : St) (H : Hp) (s : Shared) (e : Value) (s' : Shared), Inv X pins σ H s → CX X.stack H s E e s' → X.xe e s'
section
variable {X : Cx} {CX : CXT} {k : Nat} {f C : Addr} {fd : FuncData} {ps : List Str} {sp : Sp} {dvs : List V} {ds : List Value} {E : XK} {x m : Str} {p pos apos : Pos} {e o : Expr} {es : List Expr} {ta : TE} {t : TA}
theorem run_fn {pins : List (Addr × Obj)} {σ : St} {H : Hp} {s : Shared} {Q : VK} {us : List Value} {vs : List V} (F : FnOk X.prog X.w X.K X.mg X.base CX k f fd ps sp) (hr : Room k X.A) (hb : Binds X.K fd ps ds) (hd : Vals dvs ds) (hx : Passes CX X E)
    (I : Inv X pins σ H s) (r : Vals vs us) (h : sp (vs ++ dvs) H Q E) : wpAny (model X.prog X.w) X.A (call (.ref f) us) (EP X pins σ Q) X.xe s := by
  have r2 : Vals (vs ++ dvs) (us ++ ds) := r.append hd
  have hl : (us ++ ds).length = ps.length := by rw [← r2.length]; exact F.len _ _ _ _ h
  refine wpAny_call (codeAny_mono (F.run X.A X.stack s H ⟨us, []⟩ (us ++ ds) (vs ++ dvs) Q E hr I.env0 (hb s us I.kIn hl) r2 h) fun r s' hq => ?_)
  cases r with
  | error e => exact hx pins σ H s e s' I hq
  | ok fl =>
    cases fl with
    | ret u => exact I.after hq
    | next => exact False.elim hq
    | brk => exact False.elim hq
    | cont => exact False.elim hq
theorem pe_call (F : FnOk X.prog X.w X.K X.mg X.base CX k f fd ps sp) (hr : Room k X.A) (hg : Gl X x) (hm : X.mg x = some (.ref f)) (hk : PySem.W.keepIn X.K (.ref f) = true) (hb : Binds X.K fd ps ds) (hd : Vals dvs ds) (hx : Passes CX X E)
    (ha : PA X (e :: es) t) (hdb : (x == ("__debug__" : Str)) = false := by decide) (he : starEach (e :: es) X.env = (false, eval e X.env) :: starEach es X.env := by rfl) (hpl : (backTo pos (starEach es X.env)).any (·.1) = false := by rfl) :
    PE X (.Call (.Name x p) (e :: es) [] pos) (tCall sp dvs E t) := by
  intro pins s σ H Q I h
  refine wpAny_Call_Name_kw (ld_glob I hg hm ?_ hdb)
  refine PySem.W.callWith_K (h₀ := X.base) I.ok.mod.kin hk (thn (ha pos pins s σ H _ I h) fun us s1 ⟨vs, H1, I1, r, q⟩ => ⟨I1.kIn, ?_⟩) he hpl
  exact run_fn F hr hb hd hx I1 r q
structure Mk (K : PySem.W.Frag) (C f : Addr) : Prop where
  makes : PySem.W.makesIn K C = true
  init : PySem.W.findIn K (.ref C) "__init__" = some (some (.ref f))
  fn : PySem.W.isFn K (.ref f) = true
  kp : PySem.W.keepIn K (.ref C) = true
end
section
variable {X : Cx} {CX : CXT} {k : Nat} {f C : Addr} {fd : FuncData} {ps ks : List Str} {sp : Sp} {E : XK} {x m : Str} {p pos apos kpos : Pos} {e o : Expr} {es : List Expr} {kws : List Keyword} {te ta : TE} {t tk : TA} {nm : Option Str}
structure KBinds (K : PySem.W.Frag) (fd : FuncData) (ps ks : List Str) (g : List Value → List Value → List Value) (gV : List V → List V → List V) : Prop where
  to : ∀ (s : Shared) (us ws : List Value), K.In s.heap → (g us ws).length = ps.length → BindsTo s fd ⟨us, ks.zip ws⟩ (ps.zip (g us ws))
  rel : ∀ {vs : List V} {us : List Value} {zs : List V} {ws : List Value}, Vals vs us → Vals zs ws → Vals (gV vs zs) (g us ws)
variable {g : List Value → List Value → List Value} {gV : List V → List V → List V}
end
structure FnScope (N P : List Str) (sc : Scope) : Prop where
  kind : sc.kind = .function
  co : sc.isCoroutine = false
  gen : sc.isGenerator = false
  nd : N.Nodup
  pre : N.take P.length = P
  par : ∀ x ∈ P, sc.names.lookup x = some .local ∨ sc.names.lookup x = some .cell
  nofree : ∀ y ∈ sc.names, y.2 ≠ .free
theorem bindL_out {kindOf : Str → Option NameKind} {x : Str} : ∀ {binds : List (Str × Value)} {m : Str → Option Value}, (∀ v, (x, v) ∉ binds) → bindL kindOf binds m x = m x
  | [], _, _ => rfl
  | (n, v) :: r, m, h => by
    unfold bindL
    rw [bindL_out fun w hw => h w (List.mem_cons_of_mem _ hw)]
    split
    · have : x ≠ n := by rintro rfl; exact h v List.mem_cons_self
      simp [this]
    · rfl
theorem bindC_out {kindOf : Str → Option NameKind} {x : Str} : ∀ {binds : List (Str × Value)} {m : Str → Option Value}, (∀ v, (x, v) ∉ binds) → bindC kindOf binds m x = m x
  | [], _, _ => rfl
  | (n, v) :: r, m, h => by
    unfold bindC
    rw [bindC_out fun w hw => h w (List.mem_cons_of_mem _ hw)]
    split
    · rfl
    · have : x ≠ n := by rintro rfl; exact h v List.mem_cons_self
      simp [this]
theorem bindL_get {kindOf : Str → Option NameKind} {x : Str} {v : Value} : ∀ {P : List Str} {vs : List Value} {i : Nat} {m : Str → Option Value}, P.Nodup → P[i]? = some x → vs[i]? = some v → kindOf x = some .local →
    bindL kindOf (P.zip vs) m x = some v
  | [], _, _, _, _, h, _, _ => by simp at h
  | _ :: _, [], _, _, _, _, h, _ => by simp at h
  | p :: P, w :: vs, 0, m, nd, h1, h2, hk => by
    simp at h1 h2; subst h1; subst h2
    show bindL kindOf ((p, w) :: P.zip vs) m p = _
    unfold bindL
    rw [bindL_out fun v hv => (List.nodup_cons.mp nd).1 (List.of_mem_zip hv).1, if_pos hk]
    simp
  | p :: P, w :: vs, i + 1, m, nd, h1, h2, hk => by
    show bindL kindOf ((p, w) :: P.zip vs) m x = _
    unfold bindL
    exact bindL_get (i := i) (List.nodup_cons.mp nd).2 (by simpa using h1) (by simpa using h2) hk
theorem bindC_get {kindOf : Str → Option NameKind} {x : Str} {v : Value} : ∀ {P : List Str} {vs : List Value} {i : Nat} {m : Str → Option Value}, P.Nodup → P[i]? = some x → vs[i]? = some v → kindOf x ≠ some .local →
    bindC kindOf (P.zip vs) m x = some v
  | [], _, _, _, _, h, _, _ => by simp at h
  | _ :: _, [], _, _, _, _, h, _ => by simp at h
  | p :: P, w :: vs, 0, m, nd, h1, h2, hk => by
    simp at h1 h2; subst h1; subst h2
    show bindC kindOf ((p, w) :: P.zip vs) m p = _
    unfold bindC
    rw [bindC_out fun v hv => (List.nodup_cons.mp nd).1 (List.of_mem_zip hv).1, if_neg hk]
    simp
  | p :: P, w :: vs, i + 1, m, nd, h1, h2, hk => by
    show bindC kindOf ((p, w) :: P.zip vs) m x = _
    unfold bindC
    exact bindC_get (i := i) (List.nodup_cons.mp nd).2 (by simpa using h1) (by simpa using h2) hk
noncomputable def start (N : List Str) (vs : List V) : St := vs.map some ++ List.replicate (N.length - vs.length) none
noncomputable def cxOf (CX : CXT) (P : Program) (w : World) (K : PySem.W.Frag) (mg : Str → Option Value) (base : Heap) (N : List Str) (qual : Str) (scope : Scope) (f : Addr) (cd : Value) (A : Around) (outer : List Env) (s : Shared) (H : Hp) (E : XK) : Cx where
  prog := P
  w := w
  K := K
  mg := mg
  base := base
  A := A.deeper (envOfC qual scope s.heap.objs.size f cd)
  N := N
  s₀ := s
  H₀ := H
  env := envOfC qual scope s.heap.objs.size f cd
  outer := outer
  stack := envOfC qual scope s.heap.objs.size f cd :: outer
  ex := []
  calm := true
  fn := fun _ => true
  pn := []
  xe := fun e s' => wpAny (model P w) (A.deeper (envOfC qual scope s.heap.objs.size f cd)) (leaving (envOfC qual scope s.heap.objs.size f cd) e) (fun _ s'' => CX outer H s E e s'') (fun e' s'' => CX outer H s E e' s'') s'
theorem cell_has {sc : Scope} {n : Nat} {x : Str} (h : sc.names.lookup x = some .cell) : ∃ c, (cellsFrom n sc.names []).lookup x = some c := by
  have q := PySem.W.cellsFrom_some sc.names n [] (.inl h)
  exact Option.isSome_iff_exists.mp q
theorem inv_start {CX : CXT} {P : Program} {w : World} {K : PySem.W.Frag} {mg : Str → Option Value} {base : Heap} {N ps : List Str} {qual : Str} {scope : Scope} {f : Addr} {cd : Value} {A : Around} {outer : List Env} {s s1 : Shared} {H : Hp} {E : XK} {us : List Value} {vs : List V}
    (S : FnScope N ps scope) (hd : A.handled = none) (e0 : Env0 P w K mg base A outer s H) (hl : vs.length = ps.length) (r : Vals vs us)
    (x : InCallC s s.heap.objs.size (bindL (envOfC qual scope s.heap.objs.size f cd).kindOf (ps.zip us) fun _ => none) (cellsFrom (s.heap.objs.size + 1) scope.names []) (bindC (envOfC qual scope s.heap.objs.size f cd).kindOf (ps.zip us) fun _ => none) s1) :
    Inv (cxOf CX P w K mg base N qual scope f cd A outer s H E) [] (start N vs) H s1 := by
  have hpl : ps.length ≤ N.length := by have := congrArg List.length S.pre; rw [List.length_take] at this; omega
  obtain ⟨h1, tk, rfl, hk⟩ := x.done
  have noA : ∀ b : Addr, b ∉ (cxOf CX P w K mg base N qual scope f cd A outer s H E).ex := fun b z => absurd (show b ∈ ([] : List Addr) from z) (by simp)
  refine ⟨⟨e0.mod, S.kind, rfl, rfl, Nat.le_refl _, fun y z c h1 h2 => ?_, fun y hy => ?_, fun y c _ h => ?_, fun _ => hd, Around.frames_deeper e0.frames, .inr ⟨rfl, rfl⟩, fun b z => absurd z (noA b), e0.bs, e0.bsz, fun b _ _ => noA b, fun b z => absurd z (noA b), e0.funs, e0.frf⟩,
    rfl, e0.bare, Un.kept hk, ⟨_, x.toInCall.ns, fun i y v h1 h2 h3 => ?_⟩, fun y c h => ⟨_, x.cell y c h⟩, e0.hok.fresh (Nat.le_refl _), fun y c h => ?_, fun p hp => absurd (show p ∈ ([] : List (Addr × Obj)) from hp) (by simp), e0.hok.kept hk, ?_⟩
  · exact name_of_addr x.apart (PySem.mem_of_lookup h1) (PySem.mem_of_lookup h2)
  · have hy : scope.names.lookup y = some .cell ∨ scope.names.lookup y = some .free := hy
    rcases hy with hy | hy
    · exact cell_has hy
    · exact absurd rfl (S.nofree _ (PySem.mem_of_lookup hy))
  · exact Nat.le_of_lt (x.above y c (PySem.mem_of_lookup h))
  · have hi : i < vs.length := by
      unfold start at h2
      by_cases hi : i < vs.length
      · exact hi
      · rw [List.getElem?_append_right (by simpa using hi)] at h2
        rw [List.getElem?_replicate] at h2
        split at h2 <;> cases h2
    have ha : vs[i]? = some v := by
      unfold start at h2
      rw [List.getElem?_append_left (by simpa using hi), List.getElem?_map] at h2
      cases e : vs[i]? with
      | none => rw [e] at h2; cases h2
      | some a => rw [e] at h2; cases h2; rfl
    obtain ⟨u, hu, rv⟩ := r.get ha
    have hp : ps[i]? = some y := by
      rw [← S.pre, List.getElem?_take_of_lt (by omega)]; exact h1
    have ndP : ps.Nodup := by rw [← S.pre]; exact S.nd.sublist (List.take_sublist _ _)
    refine ⟨u, rv, ?_⟩
    rcases S.par y (List.mem_of_getElem? hp) with k | k
    · exact .inl ⟨k, bindL_get ndP hp hu k⟩
    · obtain ⟨c, e⟩ := cell_has (n := s.heap.objs.size + 1) k
      refine .inr ⟨.inl k, c, e, ?_⟩
      have q := x.cell y c e
      rw [bindC_get ndP hp hu (by show scope.names.lookup y ≠ _; rw [k]; decide)] at q
      exact q
  · exact e0.hok.fresh (Nat.le_of_lt (x.above y c (PySem.mem_of_lookup h)))
  · unfold start
    show _ = N.length
    rw [List.length_append, List.length_map, List.length_replicate]
    omega
theorem fn_of {CX : CXT} {P : Program} {w : World} {K : PySem.W.Frag} {mg : Str → Option Value} {base : Heap} {k : Nat} {f : Addr} {name qual : Str} {params : Arguments} {body : List Stmt} {scope : Scope} {dV kV doc pm cdv ct oc : Value} {an od : Option Addr}
    {osl : Array (Option Value)} {N ps : List Str} {sp : Sp} (lk : K.lookup f = some ⟨oc, od, .func (PySem.W.fnOf name qual params body scope dV kV doc pm an cdv ct), osl⟩) (hcd : PySem.W.codeIn K cdv qual = true) (S : FnScope N ps scope)
    (len : ∀ vs H Q E, sp vs H Q E → vs.length = ps.length)
    (hbody : ∀ (A : Around) (outer : List Env) (s : Shared) (H : Hp) (vs : List V) (Q : VK) (E : XK), Room k (A.deeper (envOfC qual scope s.heap.objs.size f cdv)) → sp vs H Q E →
      ∃ t, PSs (cxOf CX P w K mg base N qual scope f cdv A outer s H E) body t ∧ t { nx := fun _ H' => Q .non H', rt := Q } (start N vs) H) :
    FnOk P w K mg base CX (k + 1) f (PySem.W.fnOf name qual params body scope dV kV doc pm an cdv ct) ps sp := by
  refine ⟨len, fun A outer s H args us vs Q E hr e0 hb r hsp => ?_⟩
  have hl := len _ _ _ _ hsp
  have KX : K.In s.heap := e0.mod.kin.keeps fun b o e => (e0.bs b o e).1
  have lim : s.heap.NoLimit := e0.mod.nolimit.keeps fun b o e => (e0.bs b o e).1
  have hkind : ∀ y ∈ ps.zip us, scope.names.lookup y.1 = some .local ∨ (scope.names.lookup y.1 = some .cell ∧ ((cellsFrom (s.heap.objs.size + 1) scope.names []).lookup y.1).isSome = true) := fun ⟨n, v⟩ hy => by
    rcases S.par n (List.of_mem_zip hy).1 with q | q
    · exact .inl q
    · exact .inr ⟨q, PySem.W.cellsFrom_some _ _ _ (.inl q)⟩
  refine codeAny_call_function hr.depth (KX _ _ lk) rfl S.co S.gen rfl (PySem.W.codeRec_of KX hcd) (hb _ _ _ _ ?_)
  refine wpAny_newFunctionEnv_cells S.kind hkind fun env he s1 x => ?_
  subst he
  refine ⟨lim.keeps x.toInCall.keep, codeAny_func ?_⟩
  obtain ⟨t, ht, hq⟩ := hbody A outer s H vs Q E (hr.deeper _) hsp
  have I : Inv (cxOf CX P w K mg base N qual scope f cdv A outer s H E) [] (start N vs) H s1 := inv_start S hr.hd e0 hl r x
  refine wpAny_mono (ht [] s1 (start N vs) H _ I hq) (fun fl s' hs => ?_) fun e s' hs => hs
  have fin : ∀ {σ' : St} {H' : Hp} {v : V} {u : Value}, Inv (cxOf CX P w K mg base N qual scope f cdv A outer s H E) [] σ' H' s' → RelV v u → Q v H' → CE outer P w H s Q u s' :=
    fun {σ' H' v u} J rv q => ⟨v, H', J.os, J.bare, J.base, J.hok, rv, q⟩
  cases fl with
  | ret u =>
    obtain ⟨v, σ', H', J, rv, q⟩ := hs
    exact fin J rv q
  | next =>
    obtain ⟨σ', H', J, q⟩ := hs
    exact fin (v := V.non) (u := Value.none) J rfl q
  | brk =>
    obtain ⟨_, _, _, q⟩ := hs
    exact False.elim q
  | cont =>
    obtain ⟨_, _, _, q⟩ := hs
    exact False.elim q
end L2
namespace L2
open PySem PySem.Spec PyProof.Rows
section
variable {X : Cx} {x : Str} {p pos : Pos} {e : Expr} {es : List Expr} {t : TA} {id T : String} {r : List V → Hp → VK → Prop}
noncomputable def tCB (r : List V → Hp → VK → Prop) (t : TA) : TE := fun σ H Q => t σ H fun vs H1 => r vs H1 Q
theorem pe_callB (hc : CallR X (.builtin id) r) (hg : Gl X x) (hm : X.mg x = none) (hv : bootBuiltins x = some (.builtin id)) (ha : PA X (e :: es) t) (hn : x ≠ "__name__" := by decide) (hdb : (x == ("__debug__" : Str)) = false := by decide)
    (he : starEach (e :: es) X.env = (false, eval e X.env) :: starEach es X.env := by rfl) (hpl : (backTo pos (starEach es X.env)).any (·.1) = false := by rfl) : PE X (.Call (.Name x p) (e :: es) [] pos) (tCB r t) := by
  intro pins s σ H Q I h
  refine wpAny_Call_Name_kw (ld_blt I hg hm hv ?_ hn hdb)
  exact PyProof.Rows.callWith_builtin1 (thn (ha pos pins s σ H _ I h) fun us s1 ⟨vs, H1, I1, r1, q1⟩ => hc pins s1 σ H1 vs us Q I1 r1 q1) he hpl
theorem pe_callTy (hc : CallR X (.type T) r) (hg : Gl X x) (hm : X.mg x = none) (hv : bootBuiltins x = some (.type T)) (ha : PA X (e :: es) t) (hn : x ≠ "__name__" := by decide) (hdb : (x == ("__debug__" : Str)) = false := by decide)
    (he : starEach (e :: es) X.env = (false, eval e X.env) :: starEach es X.env := by rfl) (hpl : (backTo pos (starEach es X.env)).any (·.1) = false := by rfl) : PE X (.Call (.Name x p) (e :: es) [] pos) (tCB r t) := by
  intro pins s σ H Q I h
  refine wpAny_Call_Name_kw (ld_blt I hg hm hv ?_ hn hdb)
  exact PyProof.Rows.callWith_type1 (thn (ha pos pins s σ H _ I h) fun us s1 ⟨vs, H1, I1, r1, q1⟩ => hc pins s1 σ H1 vs us Q I1 r1 q1) he hpl
end
end L2
namespace HT
open PySem PyProof.Rows
section
open PySem.SeqAt
open PySem.AutoSeq1 (wpAny_loadPart')
open PySem.MeetsSeq PySem.MeetsSeq2 PySem.MeetsSeq3
end
section
variable {prog : Program} {w : World} {A : Around} {E : Value → Shared → Prop} {s : Shared}
noncomputable def sIx (n d : Nat) : Option Int → Nat
  | none => d
  | some v => if v < 0 then (v + (n : Int)).toNat else min v.toNat n
theorem sIx_none (n d : Nat) : sIx n d none = d := rfl
theorem sIx_nat (n d k : Nat) : sIx n d (some (k : Int)) = min k n := by
  show (if (k : Int) < 0 then ((k : Int) + (n : Int)).toNat else min (k : Int).toNat n) = min k n
  rw [if_neg (by omega), Int.toNat_natCast]
end
end HT
namespace L2
open PySem PySem.Spec PyProof.Rows
noncomputable abbrev TO := St → Hp → (Option Int → Hp → Prop) → Prop
noncomputable def PO (X : Cx) (e : Option Expr) (t : TO) : Prop :=
  ∀ (pins : List (Addr × Obj)) (s : Shared) (σ : St) (H : Hp) (Q : Option Int → Hp → Prop), Inv X pins σ H s → t σ H Q →
    wpAny (model X.prog X.w) X.A (evalPart e X.env) (fun u s' => ∃ o H', Inv X pins σ H' s' ∧ IsPart u o ∧ Q o H') X.xe s
noncomputable def tNoPart : TO := fun _ H Q => Q none H
noncomputable def tPart (t : TE) : TO := fun σ H Q => t σ H fun x H1 => ∃ i, x = .int i ∧ Q (some i) H1
section
variable {X : Cx} {e : Expr} {te : TE} {lo hi : Option Expr} {tl th : TO} {pos p2 : Pos}
theorem po_none : PO X none tNoPart := by
  intro pins s σ H Q I h
  rw [evalPart_none]
  exact wpAny_pure ⟨none, H, I, .none, h⟩
theorem po_some (h : PE X e te) : PO X (some e) (tPart te) := by
  intro pins s σ H Q I hw
  rw [evalPart_some]
  refine thn (h pins s σ H _ I hw) fun u s1 ⟨x, H1, I1, r1, q1⟩ => ?_
  obtain ⟨i, rfl, q⟩ := q1
  obtain ⟨t, rfl⟩ := r1
  exact ⟨some i, H1, I1, .int i t, q⟩
noncomputable def SlR (X : Cx) (r : V → Option Int → Option Int → Hp → VK → Prop) : Prop :=
  ∀ (pins : List (Addr × Obj)) (s : Shared) (σ : St) (H : Hp) (x : V) (v vl vu : Value) (lo hi : Option Int) (sl : Addr) (Q : VK), Inv X pins σ H s → RelV x v → s.heap.IsSliceOf sl vl vu .none → IsPart vl lo → IsPart vu hi → r x lo hi H Q →
    ∃ T id, typeLookup (.type T) "__getitem__" = pure (some (.builtin id)) ∧ s.TypeIs v T ∧ wpAny (model X.prog X.w) X.A (getItem v (.ref sl)) (EP X pins σ Q) X.xe s
noncomputable def tSl (r : V → Option Int → Option Int → Hp → VK → Prop) (te : TE) (tl th : TO) : TE := fun σ H Q => te σ H fun x H1 => tl σ H1 fun l H2 => th σ H2 fun u H3 => r x l u H3 Q
theorem pe_slice {r : V → Option Int → Option Int → Hp → VK → Prop} (hr : SlR X r) (he : PE X e te) (hl : PO X lo tl) (hu : PO X hi th) : PE X (.Subscript e (.Slice lo hi none p2) pos) (tSl r te tl th) := by
  intro pins s σ H Q I h
  refine Subscript_ (thn (he pins s σ H _ I h) fun v s1 ⟨x, H1, I1, r1, q1⟩ => ?_)
  refine wpAny_Slice (thn (hl pins s1 σ H1 _ I1 q1) fun vl s2 ⟨l, H2, I2, pl, q2⟩ => thn (hu pins s2 σ H2 _ I2 q2) fun vu s3 ⟨u, H3, I3, pu, q3⟩ => ?_)
  rw [evalPart_none]
  refine wpAny_pure ?_
  have I4 : Inv X pins σ H3 { s3 with heap := s3.heap.push { cls := .type "slice", data := .fields #[vl, vu, .none] } } := I3.kept (t' := s3.toks) fun b ob q => Heap.get?_push_of_some _ q
  obtain ⟨T, id, hT, ht, hg⟩ := hr pins { s3 with heap := s3.heap.push { cls := .type "slice", data := .fields #[vl, vu, .none] } } σ H3 x v vl vu l u s3.heap.objs.size Q I4 r1 (Heap.IsSliceOf.new ..) pl pu q3
  show wpAny (model X.prog X.w) X.A (subscriptTail e (.Slice lo hi none p2) v (.ref s3.heap.objs.size)) (EP X pins σ Q) X.xe { s3 with heap := s3.heap.push { cls := .type "slice", data := .fields #[vl, vu, .none] } }
  exact tail_any (ops := [.ref s3.heap.objs.size, v]) ht hT hg (by with_unfolding_all rfl)
noncomputable def cutV (xs : List V) (lo hi : Option Int) : List V := (xs.drop (HT.sIx xs.length 0 lo)).take (HT.sIx xs.length xs.length hi - HT.sIx xs.length 0 lo)
theorem cutV_length (xs : List V) (lo hi : Option Int) : (cutV xs lo hi).length ≤ xs.length := by
  unfold cutV
  rw [List.length_take, List.length_drop]
  omega
end
end L2
namespace L2
open PySem PySem.Spec PyProof.Rows
noncomputable def ixN (n : Nat) (i : Int) : Option Nat := if 0 ≤ i then (if i < n then some i.toNat else none) else if -(n : Int) ≤ i then some (i + n).toNat else none
noncomputable def atI {α : Type} (xs : List α) (i : Int) : Option α := (ixN xs.length i).bind fun j => xs[j]?
theorem ixN_seq {n : Nat} {i : Int} {j : Nat} (h : ixN n i = some j) : seqIndex? i n = some j ∧ j < n ∧ -(n : Int) ≤ i ∧ i < n := by
  unfold ixN at h
  by_cases h0 : 0 ≤ i
  · rw [if_pos h0] at h
    by_cases h1 : i < n
    · rw [if_pos h1] at h
      have e : i.toNat = j := Option.some.inj h
      exact ⟨by rw [seqIndex_of h0 h1, e], by omega, by omega, h1⟩
    · rw [if_neg h1] at h; cases h
  · rw [if_neg h0] at h
    by_cases h1 : -(n : Int) ≤ i
    · rw [if_pos h1] at h
      have e : (i + n).toNat = j := Option.some.inj h
      exact ⟨by rw [seqIndex_neg (by omega) h1, e], by omega, h1, by omega⟩
    · rw [if_neg h1] at h; cases h
theorem atI_get {α : Type} {xs : List α} {i : Int} {v : α} (h : atI xs i = some v) : ∃ j, seqIndex? i xs.length = some j ∧ xs[j]? = some v ∧ j < xs.length ∧ -(xs.length : Int) ≤ i ∧ i < xs.length := by
  unfold atI at h
  cases e : ixN xs.length i with
  | none => rw [e] at h; cases h
  | some j =>
    rw [e] at h
    obtain ⟨h1, h2, h3, h4⟩ := ixN_seq e
    exact ⟨j, h1, h, h2, h3, h4⟩
noncomputable def PlainIx (b : Expr) : Prop := ∀ o i, subscripted b false o i = operate [o, i] (getItem o i)
noncomputable def IxR (X : Cx) (r : R2) : Prop :=
  ∀ (value slice : Expr) (pins : List (Addr × Obj)) (s : Shared) (σ : St) (H : Hp) (x y : V) (v u : Value) (Q : VK), Inv X pins σ H s → RelV x v → RelV y u → r x y H Q →
    subscripted slice false v u = operate [v, u] (getItem v u) → wpAny (model X.prog X.w) X.A (subscriptTail value slice v u) (EP X pins σ Q) X.xe s
noncomputable def MtR (X : Cx) (id : String) (r : V → List V → Hp → VK → Prop) : Prop :=
  ∀ (pins : List (Addr × Obj)) (s : Shared) (σ : St) (H : Hp) (x : V) (xs : List V) (v : Value) (us : List Value) (Q : VK), Inv X pins σ H s → RelV x v → Vals xs us → r x xs H Q →
    wpAny (model X.prog X.w) X.A (call (.builtin id) (v :: us)) (EP X pins σ Q) X.xe s
section
variable {X : Cx} {a b : Expr} {ta tb : TE} {pos : Pos}
theorem pe_ix {r : R2} (hr : IxR X r) (ha : PE X a ta) (hb : PE X b tb) (hs : PlainIx b) : PE X (.Subscript a b pos) (tOp r ta tb) := by
  intro pins s σ H Q I h
  exact Subscript_ (binT ha hb I h fun v u s2 x y H2 I2 rx ry q => hr a b pins s2 σ H2 x y v u Q I2 rx ry q (hs _ _))
noncomputable def rIxL (K : PySem.W.Frag) : R2 := fun x y H Q => ∃ p xs i v, x = .ref p ∧ y = .int i ∧ SqL K H p xs ∧ atI xs i = some v ∧ Q v H
noncomputable def rIxT (K : PySem.W.Frag) : R2 := fun x y H Q => ∃ p xs i v, x = .ref p ∧ y = .int i ∧ SqT K H p xs ∧ atI xs i = some v ∧ Q v H
theorem ix_list : IxR X (rIxL X.K) := by
  intro value slice pins s σ H x y v u Q I rx ry h hs
  obtain ⟨p, xs, i, z, rfl, rfl, hq, he, q⟩ := h
  cases rx
  obtain ⟨t, rfl⟩ := ry
  obtain ⟨its, r, pl, hz⟩ := I.list hq
  obtain ⟨j, h1, h2, h3, h4, h5⟩ := atI_get he
  obtain ⟨w, ew, rw'⟩ := r.get h2
  have hl := r.length
  have hn := line63
  have fin : EP X pins σ Q w s := ⟨z, H, I, rw', q⟩
  by_cases h0 : 0 ≤ i
  · have hj : i.toNat = j := by
      rw [seqIndex_of h0 h5] at h1
      exact Option.some.inj h1
    exact item_listR pl.isList h0 (by omega) (by rw [hj]; simpa using ew) fin hs
  · have hj : (i + (its.toArray.size : Int)).toNat = j := by
      rw [seqIndex_neg (by omega) h4] at h1
      rw [List.size_toArray, ← hl]
      exact Option.some.inj h1
    exact subscriptTail_builtinR (x := w) pl.isList.typeIs slot_list_getitem.lookup
      (wpAny_getItem_list_neg (Q := fun r s' => r = w ∧ EP X pins σ Q r s') pl.isList (by omega) (by rw [List.size_toArray] <;> omega) (by omega) (by rw [hj]; simpa using ew) ⟨rfl, fin⟩) hs
theorem ix_tup : IxR X (rIxT X.K) := by
  intro value slice pins s σ H x y v u Q I rx ry h hs
  obtain ⟨p, xs, i, z, rfl, rfl, hq, he, q⟩ := h
  cases rx
  obtain ⟨t, rfl⟩ := ry
  obtain ⟨its, r, pl, hz⟩ := I.tuple hq
  obtain ⟨j, h1, h2, h3, h4, h5⟩ := atI_get he
  obtain ⟨w, ew, rw'⟩ := r.get h2
  have hl := r.length
  have hn := line63
  have fin : EP X pins σ Q w s := ⟨z, H, I, rw', q⟩
  exact subscriptTail_builtinR (x := w) pl.typeIs slot_tuple_getitem.lookup
    (getItem_tuple (j := j) (Q := fun r s' => r = w ∧ EP X pins σ Q r s') pl (by omega) (by omega) (by rw [List.size_toArray, ← hl]; exact h1) (by simpa using ew) ⟨rfl, fin⟩) hs
theorem mapSeq_set (its : List Value) (n j : Nat) (u : Value) : Obj.mapSeq (·.setIfInBounds j u) { cls := .type "list", data := .seq its.toArray n } = { cls := .type "list", data := .seq (its.set j u).toArray n } := by
  simp [Obj.mapSeq]
theorem Inv.lst {pins : List (Addr × Obj)} {σ : St} {H : Hp} {s : Shared} {p : Addr} {xs : List V} (I : Inv X pins σ H s) (h : H p = some (.lst xs)) :
    ∃ (its : List Value) (n : Nat), Vals xs its ∧ s.heap.get? p = some { cls := .type "list", data := .seq its.toArray n } ∧ xs.length ≤ sizeLine := by
  obtain ⟨z, its, n, r, e⟩ := I.hok p _ h
  exact ⟨its, n, r, e, z⟩
theorem Inv.lstUpd {pins : List (Addr × Obj)} {σ : St} {H : Hp} {s : Shared} {p : Addr} {xs ys : List V} {its its' : List Value} {n n' : Nat} {f : Obj → Obj} (I : Inv X pins σ H s) (h : H p = some (.lst xs))
    (ho : s.heap.get? p = some { cls := .type "list", data := .seq its.toArray n }) (hf : f { cls := .type "list", data := .seq its.toArray n } = { cls := .type "list", data := .seq its'.toArray n' }) (r : Vals ys its') (hz : ys.length ≤ sizeLine) (t : Nat) :
    Inv X pins σ (upd H p (.lst ys)) { s with heap := s.heap.update p f, toks := t } := by
  have e : (s.heap.update p f).get? p = some { cls := .type "list", data := .seq its'.toArray n' } := by
    rw [Heap.get?_update_self f ho (by rw [hf] <;> rfl), hf]
  refine I.write (x := p) (e := p) (by rw [h]; trivial) (.inl rfl) (fun b u hb q => (Heap.get?_update_other _ _ (Ne.symm hb)).trans q) ⟨_, e⟩ ?_
  exact ⟨hz, its', n', r, e⟩
noncomputable def rSetL : V → V → V → Hp → (Hp → Prop) → Prop := fun o i v H Q => ∃ p xs k j, o = .ref p ∧ i = .int k ∧ H p = some (.lst xs) ∧ ixN xs.length k = some j ∧ Q (upd H p (.lst (xs.set j v)))
theorem set_list : PSet X rSetL := by
  intro pins s σ H o i v ov iv u Q I ro ri rv h
  obtain ⟨p, xs, k, j, rfl, rfl, hp, hj, q⟩ := h
  cases ro
  obtain ⟨t, rfl⟩ := ri
  obtain ⟨its, n, r, ho, hz⟩ := I.lst hp
  obtain ⟨h1, h2, h3, h4⟩ := ixN_seq hj
  have hl := r.length
  have hn := line63
  have I' : Inv X pins σ (upd H p (.lst (xs.set j v))) { s with heap := s.heap.update p (Obj.mapSeq (·.setIfInBounds j u)) } :=
    I.lstUpd hp ho (mapSeq_set its n j u) (r.set rv j) (by rw [List.length_set]; exact hz) s.toks
  by_cases h0 : 0 ≤ k
  · have hk : k.toNat = j := by
      rw [seqIndex_of h0 h4] at h1
      exact Option.some.inj h1
    exact PySem.W.ki_setAt ho h0 (by omega) (by rw [List.size_toArray, ← hl]; exact h4) (by rw [hk]; exact ⟨_, I', q⟩)
  · have hk : (k + (its.toArray.size : Int)).toNat = j := by
      rw [seqIndex_neg (by omega) h3] at h1
      rw [List.size_toArray, ← hl]
      exact Option.some.inj h1
    exact PySem.W.ki_setBack ho (by omega) (by rw [List.size_toArray, ← hl]; exact h3) (by omega) (by rw [hk]; exact ⟨_, I', q⟩)
theorem slice_bounds (lo hi : Option Int) (n : Nat) : (sliceBounds lo hi none n).1 = ((HT.sIx n 0 lo : Nat) : Int) ∧ (sliceBounds lo hi none n).2.1 = ((HT.sIx n n hi : Nat) : Int) ∧ (sliceBounds lo hi none n).2.2 = 1 := by
  refine ⟨?_, ?_, rfl⟩
  · cases lo with
    | none => simp [sliceBounds, HT.sIx]
    | some i =>
      simp only [sliceBounds, HT.sIx, Option.getD_none, show (1 : Int) > 0 by decide, if_true]
      by_cases h : i < 0
      · simp only [h, if_true] <;> omega
      · simp only [h, if_false] <;> omega
  · cases hi with
    | none => simp [sliceBounds, HT.sIx]
    | some i =>
      simp only [sliceBounds, HT.sIx, Option.getD_none, show (1 : Int) > 0 by decide, if_true]
      by_cases h : i < 0
      · simp only [h, if_true] <;> omega
      · simp only [h, if_false] <;> omega
theorem slicePick_cut (its : List Value) (lo hi : Option Int) : slicePick its.toArray lo hi none = ((its.drop (HT.sIx its.length 0 lo)).take (HT.sIx its.length its.length hi - HT.sIx its.length 0 lo)).toArray := by
  obtain ⟨h1, h2, h3⟩ := slice_bounds lo hi its.toArray.size
  unfold slicePick
  rw [h1, h2, h3]
  simp only [sliceRange_one, pick_run, List.size_toArray] <;> rfl
noncomputable def rSlL (K : PySem.W.Frag) : V → Option Int → Option Int → Hp → VK → Prop := fun x lo hi H Q => ∃ a xs, x = .ref a ∧ SqL K H a xs ∧ ∀ p, H p = none → Q (.ref p) (upd H p (.lst (cutV xs lo hi)))
theorem sl_list : SlR X (rSlL X.K) := by
  intro pins s σ H x v vl vu lo hi sl Q I rx hs pl pu h
  obtain ⟨a, xs, rfl, hx, q⟩ := h
  cases rx
  obtain ⟨its, r, ht, hz⟩ := I.list hx
  have hlen := r.length
  refine ⟨"list", _, slot_list_getitem.lookup, ht.isList.typeIs, ?_⟩
  refine wpAny_getItem_list_slice ht.isList hs pl pu .none (by simp) ?_ (by rw [List.size_toArray] <;> omega)
  rw [slicePick_cut, ← hlen]
  refine ⟨.ref s.heap.objs.size, _, I.laid (t' := s.toks) (o := .lst (cutV xs lo hi)) (fun b ob q => Heap.get?_push_of_some _ q) (Nat.le_refl _) ?_, rfl, q _ (I.hok.fresh (Nat.le_refl _))⟩
  exact ⟨Nat.le_trans (cutV_length xs lo hi) hz, _, 0, (r.drop (HT.sIx xs.length 0 lo)).take (HT.sIx xs.length xs.length hi - HT.sIx xs.length 0 lo), Heap.get?_push_size _ rfl⟩
noncomputable def flatV : V → Bool
  | .non => true
  | .bl _ => true
  | .int _ => true
  | .str _ => true
  | _ => false
noncomputable def eqV : V → V → Bool
  | .non, .non => true
  | .bl a, .bl b => a == b
  | .bl a, .int b => (if a then 1 else 0) == b
  | .int a, .bl b => a == (if b then 1 else 0)
  | .int a, .int b => a == b
  | .str a, .str b => a == b
  | _, _ => false
theorem call_len_seq : CallR X (.builtin "len") (fun xs H Q => ∃ p ys, xs = [.ref p] ∧ (SqL X.K H p ys ∨ SqT X.K H p ys) ∧ Q (.int ys.length) H) := by
  intro pins s σ H xs us Q I r h
  obtain ⟨p, ys, rfl, hq, q⟩ := h
  obtain ⟨u, rfl, rx⟩ := vals1 r
  cases rx
  have hn := line63
  rcases hq with hq | hq
  · obtain ⟨its, r', pl, hz⟩ := I.list hq
    have hlen := r'.length
    exact Calls.call_len_list pl.isList (by simp only [List.size_toArray] <;> omega) ⟨.int ys.length, H, I.tok _, ⟨s.toks + 1, by rw [List.size_toArray, hlen]⟩, q⟩
  · obtain ⟨its, r', pl, hz⟩ := I.tuple hq
    have hlen := r'.length
    exact len_tuple pl (by simp only [List.size_toArray] <;> omega) ⟨.int ys.length, H, I.tok _, ⟨s.toks + 1, by rw [List.size_toArray, hlen]⟩, q⟩
theorem call_list_of : CallR X (.type "list") (fun xs H Q => ∃ p ys, xs = [.ref p] ∧ (SqL X.K H p ys ∨ SqT X.K H p ys) ∧ ∀ l, H l = none → Q (.ref l) (upd H l (.lst ys))) := by
  intro pins s σ H xs us Q I r h
  obtain ⟨p, ys, rfl, hq, q⟩ := h
  obtain ⟨u, rfl, rx⟩ := vals1 r
  cases rx
  have fin : ∀ (its : List Value), Vals ys its → ys.length ≤ sizeLine → ∀ (h' : Heap) (c' : Nat), (∀ b o', s.heap.get? b = some o' → h'.get? b = some o') →
      h'.get? s.heap.objs.size = some { cls := .type "list", dict := none, data := .seq its.toArray c', slots := #[] } → EP X pins σ Q (.ref s.heap.objs.size) { s with heap := h' } := fun its r' hz h' c' kp e =>
    ⟨.ref s.heap.objs.size, _, I.laid (t' := s.toks) kp (Nat.le_refl _) (show ObjOk X.prog X.w _ h' _ (.lst ys) from ⟨hz, its, c', r', e⟩), rfl, q _ (I.hok.fresh (Nat.le_refl _))⟩
  rcases hq with hq | hq
  · obtain ⟨its, r', pl, hz⟩ := I.list hq
    have hlen := r'.length
    obtain ⟨o, ho, hc, n, hd⟩ := pl.isList
    exact call_list_seq p (.inl rfl) ho hc hd (fun h' c' kp e => fin its r' hz h' c' kp e) (by simp only [List.size_toArray] <;> omega)
  · obtain ⟨its, r', pl, hz⟩ := I.tuple hq
    have hlen := r'.length
    obtain ⟨o, ho, hc, n, hd⟩ := pl
    exact call_list_seq p (.inr rfl) ho hc hd (fun h' c' kp e => fin its r' hz h' c' kp e) (by simp only [List.size_toArray] <;> omega)
noncomputable def tyV (K : PySem.W.Frag) (T : String) (x : V) (H : Hp) : Prop := match x with
  | .str _ => T = "str"
  | .int _ => T = "int"
  | .ref p => (T = "list" ∧ ∃ xs, SqL K H p xs) ∨ (T = "tuple" ∧ ∃ o, K.lookup p = some o ∧ o.cls = .type "tuple" ∧ o.dict = none) ∨
      (T = "dict" ∧ ((∃ kvs, H p = some (.dK kvs)) ∨ ∃ kvs, H p = some (.dT kvs))) ∨ (T = "set" ∧ ∃ S n, H p = some (.set S n))
  | _ => False
theorem tyV_is {pins : List (Addr × Obj)} {σ : St} {H : Hp} {s : Shared} {T : String} {x : V} {v : Value} (I : Inv X pins σ H s) (r : RelV x v) (ty : tyV X.K T x H) :
    s.TypeIs v T ∧ ∀ a, v = .ref a → ∃ ob, s.heap.get? a = some ob ∧ ob.dict = none := by
  cases x with
  | str z =>
    obtain ⟨t, rfl⟩ := r
    cases (show T = "str" from ty)
    exact ⟨typeIs_str s z t, fun _ e => nomatch e⟩
  | int i =>
    obtain ⟨t, rfl⟩ := r
    cases (show T = "int" from ty)
    exact ⟨typeIs_int s i t, fun _ e => nomatch e⟩
  | ref p =>
    cases r
    rcases ty with ⟨rfl, xs, hq⟩ | ⟨rfl, o, hk, hc, hd⟩ | ⟨rfl, hk⟩ | ⟨rfl, S, n, hk⟩
    · obtain ⟨its, _, pl, _⟩ := I.list hq
      refine ⟨pl.isList.typeIs, fun a e => ?_⟩
      cases e
      obtain ⟨o, n, e, c, hd, _⟩ := pl
      exact ⟨o, e, hd⟩
    · refine ⟨⟨o, I.kIn p o hk, hc⟩, fun a e => ?_⟩
      cases e
      exact ⟨o, I.kIn _ o hk, hd⟩
    · have z : ∃ o, s.heap.get? p = some o ∧ o.ExactDict := by
        rcases hk with ⟨kvs, hk⟩ | ⟨kvs, hk⟩
        · obtain ⟨_, _, _, _, o, _, _, e, ex, _⟩ := I.hok p _ hk
          exact ⟨o, e, ex⟩
        · obtain ⟨_, _, _, _, o, _, _, e, ex, _⟩ := I.hok p _ hk
          exact ⟨o, e, ex⟩
      obtain ⟨o, e, ex⟩ := z
      refine ⟨⟨o, e, ex.1⟩, fun a e2 => ?_⟩
      cases e2
      exact ⟨o, e, ex.2.1⟩
    · obtain ⟨o, _, _, _, e, ex, _⟩ := I.hok p _ hk
      refine ⟨⟨o, e, ex.1⟩, fun a e2 => ?_⟩
      cases e2
      exact ⟨o, e, ex.2.1⟩
  | _ => exact False.elim ty
noncomputable def tBM0 (K : PySem.W.Frag) (T : String) (r : V → List V → Hp → VK → Prop) (to : TE) : TE := fun σ H Q => to σ H fun x H1 => tyV K T x H1 ∧ r x [] H1 Q
noncomputable def tBM (K : PySem.W.Frag) (T : String) (r : V → List V → Hp → VK → Prop) (to : TE) (t : TA) : TE := fun σ H Q => to σ H fun x H1 => tyV K T x H1 ∧ t σ H1 fun xs H2 => r x xs H2 Q
variable {o e : Expr} {es : List Expr} {to : TE} {t : TA} {name : Str} {apos cpos : Pos} {T id : String} {r : V → List V → Hp → VK → Prop}
theorem pe_bm0 (pa : PlainAttrs T) (slot : Slot T name id) (hty : typeOf (.builtin id) = pure (.type "method_descriptor")) (hm : MtR X id r) (ho : PE X o to)
    (hbase : attributeBase o name X.env (eval o X.env) = eval o X.env := by rfl) (hline : (apos.endLine == cpos.line) = true := by rfl) : PE X (.Call (.Attribute o name apos) [] [] cpos) (tBM0 X.K T r to) := by
  intro pins s σ H Q I h
  refine wpAny_Call_method0_late hbase hline (thn (ho pins s σ H _ I h) fun v s1 ⟨x, H1, I1, r1, ty, q1⟩ => ?_)
  obtain ⟨h1, h2⟩ := tyV_is I1 r1 ty
  exact ⟨T, id, pa, slot, hty, h1, h2, Calls.callWith_builtin rfl (PySem.evalArgs_none (hm pins s1 σ H1 x [] v [] Q I1 r1 .nil q1))⟩
theorem pe_bm (pa : PlainAttrs T) (slot : Slot T name id) (hty : typeOf (.builtin id) = pure (.type "method_descriptor")) (hm : MtR X id r) (ho : PE X o to) (ha : PA X (e :: es) t)
    (hbase : attributeBase o name X.env (eval o X.env) = eval o X.env := by rfl)
    (hfew : ((backTo cpos (starEach (e :: es) X.env)).all (fun x => !x.1) && (backToKw cpos (keywordEach [] X.env)).all (fun x => x.1.isSome)
      && decide ((e :: es).length + ([] : List Keyword).length + (if ([] : List Keyword).isEmpty then 0 else 1) < 30)) = true := by rfl)
    (hline : (apos.endLine == cpos.line) = true := by rfl) (hs : starEach (e :: es) X.env = (false, eval e X.env) :: starEach es X.env := by rfl) (hplain : (backTo cpos (starEach es X.env)).any (·.1) = false := by rfl) :
    PE X (.Call (.Attribute o name apos) (e :: es) [] cpos) (tBM X.K T r to t) := by
  intro pins s σ H Q I h
  refine wpAny_Call_method_late hbase hfew hline rfl (thn (ho pins s σ H _ I h) fun v s1 ⟨x, H1, I1, r1, ty, q1⟩ => ?_)
  obtain ⟨h1, h2⟩ := tyV_is I1 r1 ty
  refine ⟨T, id, pa, slot, hty, h1, h2, ?_⟩
  have hA := ha cpos pins s1 σ H1 _ I1 q1
  rw [hs] at hA ⊢
  refine Calls.callWith_builtin (by show (false || (backTo cpos (starEach es X.env)).any (·.1)) = false; rw [hplain] <;> rfl) (Calls.evalArgs_plain ?_)
  exact thn hA fun us s2 ⟨vs, H2, I2, r2, q2⟩ => hm pins s2 σ H2 x vs v us Q I2 r1 r2 q2
end
end L2
namespace L2
open PySem PySem.Spec PyProof.Rows
noncomputable def MtM (X : Cx) (id : String) (r : V → List V → Hp → VK → Prop) : Prop :=
  ∀ (pins : List (Addr × Obj)) (s : Shared) (σ : St) (H : Hp) (x : V) (xs : List V) (v : Value) (us : List Value) (Q : VK), Inv X pins σ H s → RelV x v → Vals xs us → r x xs H Q →
    wpAny (model X.prog X.w) X.A (call (.builtin id) (v :: us)) (EP X pins σ Q) X.xe s
theorem Vals.one : ∀ {x : V} {us : List Value}, Vals [x] us → ∃ u, us = [u] ∧ RelV x u
  | _, _, .cons r .nil => ⟨_, rfl, r⟩
theorem Vals.zero : ∀ {us : List Value}, Vals [] us → us = []
  | _, .nil => rfl
theorem Vals.reverse {xs : List V} {us : List Value} (h : Vals xs us) : Vals xs.reverse us.reverse := by
  induction h with
  | nil => exact .nil
  | cons r t ih => rw [List.reverse_cons, List.reverse_cons]; exact Vals.append ih (.cons r .nil)
theorem Vals.rep {xs : List V} {us : List Value} (h : Vals xs us) : ∀ k : Nat, Vals (List.replicate k xs).flatten (List.replicate k us).flatten
  | 0 => .nil
  | k + 1 => by
    rw [List.replicate_succ, List.replicate_succ, List.flatten_cons, List.flatten_cons]
    exact Vals.append h (Vals.rep h k)
section
variable {X : Cx} {pins : List (Addr × Obj)} {σ : St} {H : Hp} {s : Shared} {l b : Addr} {xs ys zs : List V}
theorem Inv.lset {its its' : List Value} {n : Nat} {f : Array Value → Array Value} {t' : Nat} (I : Inv X pins σ H s) (hH : H l = some (.lst xs))
    (e : s.heap.get? l = some { cls := .type "list", data := .seq its.toArray n }) (hf : f its.toArray = its'.toArray) (hv : Vals ys its') (hz : ys.length ≤ sizeLine) :
    Inv X pins σ (upd H l (.lst ys)) { s with heap := s.heap.update l (Obj.mapSeq f), toks := t' } := by
  have q := PySem.IsL.update e f
  rw [hf] at q
  refine I.write (x := l) (e := l) (by rw [hH]; exact trivial) (.inl rfl) (fun b' u hb hu => (Heap.get?_update_other s.heap (Obj.mapSeq f) (Ne.symm hb)).trans hu) ⟨_, q⟩ ?_
  exact ⟨hz, its', _, hv, q⟩
theorem Inv.lnew {its : List Value} {t' : Nat} (I : Inv X pins σ H s) (hv : Vals ys its) (hz : ys.length ≤ sizeLine) :
    Inv X pins σ (upd H s.heap.objs.size (.lst ys)) { s with heap := s.heap.push { cls := .type "list", data := .seq its.toArray }, toks := t' } :=
  I.laid (fun _ _ q => Heap.get?_push_of_some _ q) (Nat.le_refl _) ⟨hz, its, 0, hv, Heap.get?_push_size _ rfl⟩
theorem Inv.fresh (I : Inv X pins σ H s) : H s.heap.objs.size = none := I.hok.fresh (Nat.le_refl _)
theorem Inv.lstM (I : Inv X pins σ H s) (hH : H l = some (.lst xs)) : xs.length ≤ sizeLine ∧ ∃ (its : List Value) (n : Nat), Vals xs its ∧ xs.length = its.length ∧ s.heap.get? l = some { cls := .type "list", data := .seq its.toArray n } := by
  obtain ⟨z, its, n, r, e⟩ := I.hok l _ hH
  exact ⟨z, its, n, r, r.length, e⟩
theorem notLongL {n : Nat} (h : n ≤ sizeLine) : Builtin.List.listTooLong n = false := by
  unfold Builtin.List.listTooLong
  exact decide_eq_false (by omega)
end
section
variable {X : Cx}
noncomputable def rAppend : V → List V → Hp → VK → Prop := fun x vs H Q => ∃ l xs y, x = .ref l ∧ vs = [y] ∧ H l = some (.lst xs) ∧ xs.length < sizeLine ∧ Q .non (upd H l (.lst (xs ++ [y])))
theorem mt_append : MtM X "list.append" rAppend := by
  intro pins s σ H x vs v us Q I rx rv h
  obtain ⟨l, xs, y, rfl, rfl, hH, hz, q⟩ := h
  cases rx
  obtain ⟨u, rfl, ru⟩ := rv.one
  obtain ⟨z, its, n, r, hl, e⟩ := I.lstM hH
  refine call_meets F.slot_list_append ⟨_, e, rfl⟩ F.entry_list_append (F.args_list_append_2 _ _) (PySem.list_append l its.toArray n u (by rw [List.size_toArray]; omega)) ⟨e, ?_⟩
  refine ⟨.non, _, I.lset (its' := its ++ [u]) hH e (by simp) (r.append (.cons ru .nil)) ?_, rfl, q⟩
  rw [List.length_append, List.length_singleton]
  omega
noncomputable def rCat : R2 := fun x y H Q => ∃ l b xs zs, x = .ref l ∧ y = .ref b ∧ H l = some (.lst xs) ∧ H b = some (.lst zs) ∧ xs.length + zs.length ≤ sizeLine ∧ ∀ p, H p = none → Q (.ref p) (upd H p (.lst (xs ++ zs)))
theorem op_cat : OpR X (binaryOp .Add) rCat := by
  intro pins s σ H x y v u Q I rx ry h
  obtain ⟨l, b, xs, zs, rfl, rfl, hH, hB, hz, q⟩ := h
  cases rx
  cases ry
  obtain ⟨z, its, n, r, hl, e⟩ := I.lstM hH
  obtain ⟨z2, its2, n2, r2, hl2, e2⟩ := I.lstM hB
  refine PySem.P.add_list e e2 ?_ (by rw [List.size_toArray, List.size_toArray]; omega)
  have ea : its.toArray ++ its2.toArray = (its ++ its2).toArray := by simp
  rw [ea]
  exact ⟨.ref _, _, I.lnew (t' := s.toks) (r.append r2) (by rw [List.length_append]; omega), rfl, q _ I.fresh⟩
end
section
variable {prog : Program} {w : World} {A : Around} {E : Value → Shared → Prop} {s : Shared}
set_option maxRecDepth 100000 in
end
section
variable {X : Cx}
end
end L2
namespace Att
open PySem PySem.W PySem.Calls PyProof.Rows
theorem ints_of_wellAll {P : Params} {h : Heap} : ∀ (ns : List Int) (vs : List Value), WellAll P h vs (ns.map WData.int) → IntsAre vs ns := by
  intro ns
  induction ns with
  | nil =>
    intro vs w
    rw [List.map_nil] at w
    cases w
    exact .nil
  | cons n ns ih =>
    intro vs w
    rw [List.map_cons] at w
    cases w with
    | cons a b =>
      cases a
      exact .cons _ _ (ih _ b)
theorem script_of {l : OpenLaw} {n : Nat} (hn : l.most = some n) {P : Params} {h : Heap} {args : List WData} {vals : List Value}
    (hpre : l.row.toRowW.claim.pre args = true) (hwl : WellAll P h vals args) :
    ∃ a vs ns, vals = [Value.ref a] ∧ args = [WData.list (ns.map WData.int)] ∧ h.get? a = some { cls := .type "list", data := .seq vs.toArray } ∧ IntsAre vs ns ∧ ns.length ≤ n := by
  have hsh : WShape.hasAll [] args [.list .int] = true := (pre_splitW hpre).1
  have hc : l.pre.holds [] { args := args } = true := (pre_splitW hpre).2
  obtain ⟨d, r, rfl, h1, h2⟩ := hasAllW_cons hsh
  obtain rfl := hasAllW_nil h2
  obtain ⟨xs, rfl, h3⟩ := hasW_list h1
  obtain ⟨ns, rfl⟩ := items_int h3
  have hlen : ns.length ≤ n := by
    unfold OpenLaw.pre at hc
    have h4 : (WTm.not (.lt (.lit (.int (n : Int))) (.len (.arg 0)))).holds [] { args := [.list (ns.map .int)] } = true := by
      have h4 := (holds_andW hc).1
      rw [hn] at h4
      exact h4
    have h5 := condW_of h4 (w_not (w_lt w_lit (w_len_list (w_arg rfl))))
    rw [List.length_map] at h5
    refine Nat.le_of_not_lt fun q => ?_
    have q' : (n : Int) < ((ns.length : Nat) : Int) := by omega
    first
      | (rw [decide_eq_true q'] at h5; exact absurd h5 (by decide))
      | (simp at h5; omega)
  cases hwl with
  | cons w1 w2 =>
    cases w2
    cases w1 with
    | list ho hall => exact ⟨_, _, ns, rfl, rfl, ho, ints_of_wellAll ns _ hall, hlen⟩
theorem post_true (l : OpenLaw) (args : List WData) : l.row.toRowW.claim.post args (.bool true) args = true :=
  postW_of (r := l.row.toRowW) (X := (true == true))
    (show WShape.has [] (.bool true) .bool = true by first | rfl | decide | simp [WShape.has, WShape.arms, WShape.armsAll])
    (show (WTm.eq .res (.lit (.bool true))).value [] { args := args, res := some (.bool true), after := args } = some (.bool (true == true)) from w_eq_bool (w_res rfl) w_lit) rfl
theorem attach_call {l : OpenLaw} {n : Nat} {q : Program} {loose : List Str} {XP : (Str → Option Value) → Heap → Prop} {YP : World → Heap → Prop} {d : DefRec}
    (hn : l.most = some n) (hdf : d.params.defaults = [])
    (call : ∀ (w : World) (s₀ s₁ : Shared) (mg mb : Str → Option Value) (fa : Addr) (o : Obj) (pm cd doc : Value) (a : Addr) (vs : List Value) (ns : List Int),
      Ground q loose [] XP w s₀ mg mb s₁.heap → YP w s₁.heap →
      s₁.heap.get? fa = some o → o.data = .func (docDef d.name d.params d.body d.scope pm cd doc) → s₁.heap.CodeRec cd d.name → mg d.name = some (.ref fa) →
      s₁.heap.get? a = some { cls := .type "list", data := .seq vs.toArray } → IntsAre vs ns → ns.length ≤ n → s₁.gens = #[] →
      codeAny (model l.prog w) callerA (.call (.ref fa) ⟨[.ref a], []⟩) (fun r s' => r = .ok (.ret (.bool true)) ∧ OldK s₁.heap s'.heap ∧ s'.os = s₁.os ∧ AllBare s'.gens) s₁) :
    WalkO q loose XP YP l.row.toRowW d [] (fun f vs => PySem.call f vs) := by
  intro w s₀ s₁ mg mb G Y fa o pm cd doc dV kV ho hd hcd hD hmg hg args vals as hpre hlay hrd hwl hlo
  obtain rfl : dV = .none := Dflts.none hD hdf
  obtain rfl : kV = .none := Dflts.noKw hD
  obtain ⟨a, vs, ns, rfl, rfl, hobj, hints, hlen⟩ := script_of hn hpre hwl
  refine enter_call (codeAny_mono (call w s₀ s₁ mg mb fa o pm cd doc a vs ns G Y ho (fd_plain hd) hcd hmg hobj hints hlen hg) fun r s' hq => ?_)
  obtain ⟨rfl, h2, h3, h4⟩ := hq
  exact ⟨.inl ⟨.bool true, .bool true, [], rfl, fun _ => rfl, .bool true, post_true l _, fun _ => ⟨List.Pairwise.nil, fun _ hm => (nomatch hm)⟩⟩, h2, h3, h4⟩
section
variable {prog : Program} {w : World} {A : Around} {E : Value → Shared → Prop} {s : Shared} {K : Frag}
end
end Att
namespace L2
open PySem PySem.Spec PyProof.Rows
theorem vals_ints : ∀ {vs : List Value} {ns : List Int}, IntsAre vs ns → Vals (ns.map V.int) vs
  | _, _, .nil => .nil
  | _, _, .cons n t h => .cons ⟨t, rfl⟩ (vals_ints h)
noncomputable def Only (H : Hp) : Prop := ∀ b, H b = none ∨ ∃ o xs, H b = some (.frz o (.lst xs))
theorem law_call {P : Program} {w : World} {K : PySem.W.Frag} {mg mb : Str → Option Value} {CX : CXT} {k : Nat} {fa a : Addr} {fd : FuncData} {x : Str} {sp : Sp} {s₁ : Shared} {vs : List Value} {ns : List Int}
    (KX : K.In s₁.heap) (hns : s₁.heap.Ns mainGlobals mg) (hb : s₁.heap.Ns builtinsNs mb) (hbb : ∀ x : Str, x ≠ "__name__" → mb x = bootBuiltins x) (hlim : s₁.heap.NoLimit) (hg : s₁.gens = #[])
    (ha : s₁.heap.get? a = some { cls := .type "list", data := .seq vs.toArray }) (hi : IntsAre vs ns) (hl : ns.length ≤ sizeLine) (hr : Room k callerA)
    (F : ∀ base : Heap, K.In base → base.Ns mainGlobals mg → FnOk P w K mg base CX k fa fd [x] sp) (hbind : ∀ (s : Shared) (u : Value), BindsTo s fd ⟨[u], []⟩ [(x, u)])
    (hsp : ∀ H : Hp, Only H → SqL K H a (ns.map V.int) → sp [.ref a] H (fun v _ => v = .bl true) fun _ _ _ => False)
    (hCX : ∀ H e s', CX [] H s₁ (fun _ _ _ => False) e s' → False) :
    codeAny (model P w) callerA (.call (.ref fa) ⟨[.ref a], []⟩) (fun r s' => r = .ok (.ret (.bool true)) ∧ OldK s₁.heap s'.heap ∧ s'.os = s₁.os ∧ AllBare s'.gens) s₁ := by
  have rv := vals_ints hi
  have lenV := hi.length
  -- from an abstract heap in which nothing but the script may be tracked
  have core : ∀ H : Hp, Only H → SqL K H a (ns.map V.int) → HOk P w H s₁.heap → (∀ b, H b ≠ none → b = a) → (H a ≠ none → K.lookup a = none) →
      codeAny (model P w) callerA (.call (.ref fa) ⟨[.ref a], []⟩) (fun r s' => r = .ok (.ret (.bool true)) ∧ OldK s₁.heap s'.heap ∧ s'.os = s₁.os ∧ AllBare s'.gens) s₁ := by
    intro H hO hS hok hA hK
    have base_of : ∀ {b : Addr} {o : Obj}, s₁.heap.get? b = some o → H b = none → (hidT s₁.heap H).get? b = some o := fun e n => hidT_get e n
    have noA : ∀ {b : Addr} {o : Obj} {es : Array DictEntry} {ep : Nat}, s₁.heap.get? b = some o → o.data = .dict es ep → H b = none := fun {b o es ep} e d => by
      cases q : H b with
      | none => rfl
      | some u =>
        have e' : b = a := hA b (by rw [q]; simp)
        subst e'
        rw [ha] at e; cases e
        have d' : Data.seq vs.toArray _ = Data.dict es ep := d
        cases d'
    have nsK : ∀ {b : Addr} {m : Str → Option Value}, s₁.heap.Ns b m → (hidT s₁.heap H).Ns b m := fun {b m} ⟨o, es, ep, e, d, r⟩ => ⟨o, es, ep, base_of e (noA e d), d, r⟩
    have hKb : K.In (hidT s₁.heap H) := fun b o e => base_of (KX b o e) (by
      cases q : H b with
      | none => rfl
      | some u =>
        have e' : b = a := hA b (by rw [q]; simp)
        subst e'
        rw [hK (by rw [q]; simp)] at e; cases e)
    have hM : Mod K mg (hidT s₁.heap H) := ⟨hKb, nsK hns, ⟨mb, nsK hb, hbb⟩, let ⟨mc, h1, h2⟩ := hlim; ⟨mc, nsK h1, h2⟩⟩
    have e0 : Env0 P w K mg (hidT s₁.heap H) callerA [] s₁ H := ⟨rfl, hM, fun b o e => of_hidT e, Nat.le_of_eq (hidT_size _ _), trivial, fun b hb => absurd (show b ∈ ([] : List Addr) from hb) (by simp), hok, .of_eq hg⟩
    refine codeAny_mono ((F _ hKb (nsK hns)).run callerA [] s₁ H ⟨[.ref a], []⟩ [.ref a] [.ref a] _ _ hr e0 (hbind s₁ (.ref a)) (.cons rfl .nil) (hsp H hO hS)) fun r s' h => ?_
    cases r with
    | error e => exact (hCX H e s' h).elim
    | ok fl =>
      cases fl with
      | next => exact False.elim h
      | brk => exact False.elim h
      | cont => exact False.elim h
      | ret u =>
        obtain ⟨v, H', os, bare, un, hok', r', q⟩ := h
        have q' : v = .bl true := q
        subst q'
        obtain rfl : u = Value.bool true := r'
        refine ⟨rfl, OldK.of_keep fun b o e => ?_, os, bare⟩
        cases q : H b with
        | none => exact un.keep b o e q (by intro z; exact absurd (show b ∈ ([] : List Addr) from z) (by simp)) (by simp)
        | some u =>
          rcases hO b with z | ⟨ob, xs, z⟩
          · rw [q] at z; cases z
          · have z2 := un.frzs b ob _ z
            obtain ⟨e1, _⟩ := hok b _ z
            obtain ⟨e2, _⟩ := hok' b _ z2
            rw [e] at e1; cases e1
            exact e2
  cases hk : K.lookup a with
  | some o =>
    -- the script is one of the module's own objects
    have e := KX a o hk
    rw [ha] at e
    cases e
    refine core (fun _ => none) (fun _ => .inl rfl) (.inr ⟨_, vs.toArray, _, hk, rfl, rfl, rfl, by rw [List.size_toArray, lenV]; exact hl, by simpa using rv⟩) (fun b u z => by have z' : (none : Option HO) = some u := z; cases z') (fun b z => absurd rfl z) fun z => absurd rfl z
  | none =>
    refine core (fun b => if b = a then some (.frz { cls := .type "list", data := .seq vs.toArray } (.lst (ns.map V.int))) else none) (fun b => ?_) (.inl (.inr ⟨{ cls := .type "list", data := .seq vs.toArray }, if_pos rfl⟩)) (fun b u z => ?_) (fun b z => ?_) fun _ => hk
    · by_cases hb : b = a
      · exact .inr ⟨_, _, if_pos hb⟩
      · exact .inl (if_neg hb)
    · by_cases hb : b = a
      · have z' := (if_pos hb).symm.trans z
        cases z'
        subst hb
        exact ⟨ha, by rw [List.length_map]; exact hl, vs, _, rv, ha⟩
      · have z' := (if_neg hb).symm.trans z
        cases z'
    · by_cases hb : b = a
      · exact hb
      · exact absurd (if_neg hb) z
end L2
namespace L2
open PySem PySem.Spec PyProof.Rows
theorem walk_of {l : PySem.W.OpenLaw} {n k : Nat} {q : Program} {loose : List Str} {XP : (Str → Option Value) → Heap → Prop} {YP : World → Heap → Prop} {d : DefRec} {K : Params → PySem.W.Frag} {CX : World → CXT} {sp : World → Sp} {x : Str}
    (hn : l.most = some n) (hn2 : n ≤ sizeLine) (hdf : d.params.defaults = []) (hr : Room k callerA)
    (hY : ∀ (w : World) (h : Heap), YP w h → (K w.params).In h)
    (F : ∀ (w : World) (mg : Str → Option Value) (fa : Addr) (h : Heap), (K w.params).In h → h.Ns mainGlobals mg → mg d.name = some (.ref fa) →
      ∃ fd : FuncData, (∀ (s : Shared) (u : Value), BindsTo s fd ⟨[u], []⟩ [(x, u)]) ∧
        ∀ base : Heap, (K w.params).In base → base.Ns mainGlobals mg → FnOk l.prog w (K w.params) mg base (CX w) k fa fd [x] (sp w))
    (hsp : ∀ (w : World) (H : Hp) (a : Addr) (ns : List Int), ns.length ≤ n → Only H → SqL (K w.params) H a (ns.map V.int) → sp w [.ref a] H (fun v _ => v = .bl true) fun _ _ _ => False)
    (hCX : ∀ (w : World) (H : Hp) (s : Shared) (e : Value) (s' : Shared), CX w [] H s (fun _ _ _ => False) e s' → False) :
    PySem.W.WalkO q loose XP YP l.row.toRowW d [] (fun f vs => PySem.call f vs) := by
  refine Att.attach_call hn hdf fun w s₀ s₁ mg mb fa o pm cd doc a vs ns G Y ho hd hcd hmg hobj hints hlen hg => ?_
  have KX := hY w _ Y
  obtain ⟨fd, hb, hF⟩ := F w mg fa _ KX G.T.g hmg
  exact law_call KX G.T.g G.T.b G.T.builtins G.T.nolimit hg hobj hints (Nat.le_trans hlen hn2) hr hF hb (fun H hO hS => hsp w H a ns hlen hO hS) fun H e s' => hCX w H s₁ e s'
end L2
namespace L2
open PySem PySem.Spec PyProof.Rows
noncomputable def defArgs (s : Stmt) : Arguments := match s with
  | .FunctionDef _ a _ _ _ _ _ _ _ _ => a
  | _ => { posonlyargs := [], args := [], vararg := none, kwonlyargs := [], kw_defaults := [], kwarg := none, defaults := [] }
noncomputable def defBody (s : Stmt) : List Stmt := match s with
  | .FunctionDef _ _ b _ _ _ _ _ _ _ => b
  | _ => []
noncomputable def defScope (s : Stmt) : Scope := match s with
  | .FunctionDef _ _ _ _ _ _ sc _ _ _ => sc
  | _ => { kind := .function, names := [], isGenerator := false, isCoroutine := false }
noncomputable abbrev CX0 : CXT := fun _ _ _ _ _ _ => False
noncomputable abbrev E0 : XK := fun _ _ _ => False
theorem pass0 {X : Cx} : Passes CX0 X E0 := fun _ _ _ _ _ _ _ h => h.elim
structure Fun (K : PySem.W.Frag) (x qual : Str) (st : Stmt) (f : Addr) (fd : FuncData) : Prop where
  ex : ∃ (oc : Value) (od : Option Addr) (kV doc pm : Value) (an : Option Addr) (cdv ct : Value) (osl : Array (Option Value)),
    fd = PySem.W.fnOf x qual (defArgs st) (defBody st) (defScope st) .none kV doc pm an cdv ct ∧ K.lookup f = some ⟨oc, od, .func fd, osl⟩ ∧ PySem.W.codeIn K cdv qual = true
  kp : PySem.W.keepIn K (.ref f) = true
section
variable {P : Program} {w : World} {K : PySem.W.Frag} {mg : Str → Option Value} {base : Heap}
theorem Fun.ok {x qual : Str} {st : Stmt} {f : Addr} {fd : FuncData} {N ps : List Str} {k : Nat} {sp : Sp} (F : Fun K x qual st f fd) (S : FnScope N ps (defScope st)) (len : ∀ vs H Q E, sp vs H Q E → vs.length = ps.length)
    (hbody : ∀ (cdv : Value) (A : Around) (outer : List Env) (s : Shared) (H : Hp) (vs : List V) (Q : VK) (E : XK), Room k (A.deeper (envOfC qual (defScope st) s.heap.objs.size f cdv)) → sp vs H Q E →
      ∃ t, PSs (cxOf CX0 P w K mg base N qual (defScope st) f cdv A outer s H E).nox (defBody st) t ∧ t { nx := fun _ H' => Q .non H', rt := Q } (start N vs) H) : FnOk P w K mg base CX0 (k + 1) f fd ps sp := by
  obtain ⟨oc, od, kV, doc, pm, an, cdv, ct, osl, rfl, lk, hcd⟩ := F.ex
  refine fn_of lk hcd S len fun A outer s H vs Q E hr hsp => ?_
  obtain ⟨t, h, q⟩ := hbody cdv A outer s H vs Q E hr hsp
  exact ⟨t, h.nox, q⟩
theorem Fun.binds {x qual : Str} {st : Stmt} {f : Addr} {fd : FuncData} {ps : List Str} (F : Fun K x qual st f fd)
    (h : ∀ (kV doc pm : Value) (an : Option Addr) (cdv ct : Value) (us : List Value), us.length = ps.length → bindArgs (PySem.W.fnOf x qual (defArgs st) (defBody st) (defScope st) .none kV doc pm an cdv ct) ⟨us, []⟩ = pure (ps.zip us)) : Binds K fd ps [] := by
  obtain ⟨oc, od, kV, doc, pm, an, cdv, ct, osl, rfl, lk, hcd⟩ := F.ex
  exact .all (h kV doc pm an cdv ct)
theorem fun_mk {x qual : Str} {st : Stmt} {f : Addr} {oc : Value} {od an : Option Addr} {osl : Array (Option Value)} {kV doc pm cdv ct : Value} (l : K.lookup f = some ⟨oc, od, .func (PySem.W.fnOf x qual (defArgs st) (defBody st) (defScope st) .none kV doc pm an cdv ct), osl⟩)
    (c : PySem.W.codeIn K cdv qual = true) (k : PySem.W.keepIn K (.ref f) = true) : Fun K x qual st f (PySem.W.fnOf x qual (defArgs st) (defBody st) (defScope st) .none kV doc pm an cdv ct) := ⟨⟨oc, od, kV, doc, pm, an, cdv, ct, osl, rfl, l, c⟩, k⟩
end
theorem small1000 {n : Nat} (h : n ≤ 1000) : n < sizeLine := Nat.lt_of_le_of_lt h (by decide)
section
variable {X : Cx}
end
theorem ite2 {c A B : Prop} [Decidable c] (h1 : c → A) (h2 : ¬ c → B) : if c then A else B := by
  by_cases h : c
  · rw [if_pos h]
    exact h1 h
  · rw [if_neg h]
    exact h2 h
noncomputable def Same (H H' : Hp) : Prop := ∀ b o, H b = some o → H' b = some o
theorem Same.refl (H : Hp) : Same H H := fun _ _ h => h
theorem Same.trans {H H1 H2 : Hp} (a : Same H H1) (b : Same H1 H2) : Same H H2 := fun c o h => b c o (a c o h)
theorem Same.free {H H' : Hp} (e : Same H H') {l : Addr} (h : H' l = Option.none) : H l = Option.none := by
  cases q : H l with
  | none => rfl
  | some o =>
    rw [e l o q] at h
    cases h
theorem Same.seq {K : PySem.W.Frag} {H H' : Hp} {a : Addr} {xs : List V} (e : Same H H') (h : SqL K H a xs) : SqL K H' a xs := by
  rcases h with (h | ⟨o, h⟩) | h
  · exact .inl (.inl (e _ _ h))
  · exact .inl (.inr ⟨o, e _ _ h⟩)
  · exact .inr h
end L2
set_option Elab.async false
set_option linter.all false
set_option maxRecDepth 100000
namespace L2
open PySem PySem.Spec PyProof.Rows
noncomputable def kindV (H : Hp) : V → Option String
  | .non => some "NoneType"
  | .bl _ => some "bool"
  | .int _ => some "int"
  | .str _ => some "str"
  | .ref p => match H p with
    | some (.lst _) => some "list"
    | some (.tup _) => some "tuple"
    | _ => none
  | _ => none
noncomputable def subT (a b : String) : Bool := a == b || (a == "bool" && b == "int")
noncomputable def plainT (T : String) : Prop := T = "int" ∨ T = "bool" ∨ T = "tuple" ∨ T = "list" ∨ T = "str"
section
variable {X : Cx}
theorem call_isi : CallR X (.builtin "isinstance") (fun xs H Q => ∃ x T k, xs = [x, .ty T] ∧ plainT T ∧ kindV H x = some k ∧ Q (.bl (subT k T)) H) := by
  intro pins s σ H xs us Q I r h
  obtain ⟨x, T, k, rfl, hT, hk, q⟩ := h
  obtain ⟨u, w', rfl, rx, ry⟩ := vals2 r
  cases (show w' = Value.type T from ry)
  have fin : ∀ {b : Bool} {s' : Shared}, b = subT k T → Inv X pins σ H s' → EP X pins σ Q (.bool b) s' := fun {b s'} e J => ⟨.bl b, H, J, rfl, by rw [e]; exact q⟩
  cases x with
  | non =>
    cases (show u = Value.none from rx)
    cases hk
    rcases hT with rfl | rfl | rfl | rfl | rfl
    · exact IsiPair.NoneType_int (fin (by decide) (I.tok _))
    · exact IsiPair.NoneType_bool (fin (by decide) (I.tok _))
    · exact IsiPair.NoneType_tuple (fin (by decide) (I.tok _))
    · exact IsiPair.NoneType_list (fin (by decide) (I.tok _))
    · exact IsiPair.NoneType_str (fin (by decide) (I.tok _))
  | bl b =>
    cases (show u = Value.bool b from rx)
    cases hk
    rcases hT with rfl | rfl | rfl | rfl | rfl
    · exact IsiPair.bool_int (fin (by decide) I)
    · exact IsiPair.bool_bool (fin (by decide) I)
    · exact IsiPair.bool_tuple (fin (by decide) (I.tok _))
    · exact IsiPair.bool_list (fin (by decide) (I.tok _))
    · exact IsiPair.bool_str (fin (by decide) (I.tok _))
  | int i =>
    obtain ⟨t, rfl⟩ := (show ∃ t, u = Value.int i t from rx)
    cases hk
    rcases hT with rfl | rfl | rfl | rfl | rfl
    · exact IsiPair.int_int (fin (by decide) I)
    · exact IsiPair.int_bool (fin (by decide) (I.tok _))
    · exact IsiPair.int_tuple (fin (by decide) (I.tok _))
    · exact IsiPair.int_list (fin (by decide) (I.tok _))
    · exact IsiPair.int_str (fin (by decide) (I.tok _))
  | str z =>
    obtain ⟨t, rfl⟩ := (show ∃ t, u = Value.str z t from rx)
    cases hk
    rcases hT with rfl | rfl | rfl | rfl | rfl
    · exact IsiPair.str_int (fin (by decide) (I.tok _))
    · exact IsiPair.str_bool (fin (by decide) (I.tok _))
    · exact IsiPair.str_tuple (fin (by decide) (I.tok _))
    · exact IsiPair.str_list (fin (by decide) (I.tok _))
    · exact IsiPair.str_str (fin (by decide) I)
  | ref p =>
    cases (show u = Value.ref p from rx)
    cases e : H p with
    | none => simp [kindV, e] at hk
    | some o =>
      cases o with
      | lst ys =>
        have hk' : k = "list" := by simp [kindV, e] at hk; exact hk.symm
        subst hk'
        obtain ⟨its, n, rr, ho, hz⟩ := I.lst e
        rcases hT with rfl | rfl | rfl | rfl | rfl
        · exact IsiPair.list_int ho rfl (fin (by decide) (I.tok _))
        · exact IsiPair.list_bool ho rfl (fin (by decide) (I.tok _))
        · exact IsiPair.list_tuple ho rfl (fin (by decide) (I.tok _))
        · exact IsiPair.list_list ho rfl (fin (by decide) I)
        · exact IsiPair.list_str ho rfl (fin (by decide) (I.tok _))
      | tup ys =>
        have hk' : k = "tuple" := by simp [kindV, e] at hk; exact hk.symm
        subst hk'
        obtain ⟨its, rr, ⟨ob, ho, hc, _⟩, hz⟩ := I.tuple (xs := ys) (.inl (.inl e))
        rcases hT with rfl | rfl | rfl | rfl | rfl
        · exact IsiPair.tuple_int ho hc (fin (by decide) (I.tok _))
        · exact IsiPair.tuple_bool ho hc (fin (by decide) (I.tok _))
        · exact IsiPair.tuple_tuple ho hc (fin (by decide) I)
        · exact IsiPair.tuple_list ho hc (fin (by decide) (I.tok _))
        · exact IsiPair.tuple_str ho hc (fin (by decide) (I.tok _))
      | _ => simp [kindV, e] at hk
  | _ => cases hk
noncomputable def rBits : V → List V → Hp → VK → Prop := fun x xs H Q => ∃ i, x = .int i ∧ xs = [] ∧ Q (.int (Builtin.Int.intBits i : Nat)) H
theorem mt_bits : MtR X "int.bit_length" rBits := by
  intro pins s σ H x xs v us Q I rx rs h
  obtain ⟨i, rfl, rfl, q⟩ := h
  obtain ⟨t, rfl⟩ := rx
  cases rs
  exact call_gives F.slot_int_bit_length (typeIs_int s i t) F.entry_int_bit_length (F.args_int_bit_length_1 _) (AutoIntG2.int_bit_length_int_0 i t) ⟨.int (Builtin.Int.intBits i : Nat), H, I.tok _, ⟨_, rfl⟩, q⟩
noncomputable def CMulB (i j : Int) : Prop := Builtin.Int.intBits i + Builtin.Int.intBits j ≤ 134217728
theorem op_mulB : OpR X (binaryOp .Mult) (rI CMulB fun i j => .int (i * j)) := opI fun i j _ _ _ _ _ hc q => mul_int q (mulOk_of_bits (Nat.le_refl _) (Nat.le_refl _) hc)
noncomputable def CDivB (i j : Int) : Prop := 0 < j ∧ j.natAbs.log2 < 9000
theorem op_fdivB : OpR X (binaryOp .FloorDiv) (rI CDivB fun i j => .int (i / j)) := opI fun i j _ _ _ _ _ hc q => by
  have h1 : (0 : Int) < j := hc.1
  exact floordiv_int (by omega) (by rw [Int.fdiv_eq_ediv_of_nonneg i (by omega)]; exact q) (.inl (PyProof.noPylong_of_log2 hc.2))
noncomputable def CDivF (i j : Int) : Prop := j ≠ 0 ∧ j.natAbs.log2 < 9000
theorem op_fdivF : OpR X (binaryOp .FloorDiv) (rI CDivF fun i j => .int (i.fdiv j)) := opI fun i j _ _ _ _ _ hc q =>
  floordiv_int hc.1 q (.inl (PyProof.noPylong_of_log2 hc.2))
noncomputable def eqVs : List V → List V → Bool
  | [], [] => true
  | x :: xs, y :: ys => eqV x y && eqVs xs ys
  | _, _ => false
end
end L2
namespace L2
open PySem PySem.Spec PyProof.Rows
noncomputable def Fn0 (K : PySem.W.Frag) (mg : Str → Option Value) (x : Str) (st : Stmt) : Prop := ∃ f fd, Fun K x x st f fd ∧ mg x = some (.ref f)
theorem fn0_mk {K : PySem.W.Frag} {mg : Str → Option Value} {h : Heap} (X : K.In h) (G : h.Ns mainGlobals mg) {x : Str} {st : Stmt} {f : Addr} {oc : Value} {od an : Option Addr} {osl : Array (Option Value)} {kV doc pm cdv ct : Value}
    (a : PySem.W.nsIn K mainGlobals x = some (some (.ref f))) (l : K.lookup f = some ⟨oc, od, .func (PySem.W.fnOf x x (defArgs st) (defBody st) (defScope st) .none kV doc pm an cdv ct), osl⟩) (c : PySem.W.codeIn K cdv x = true) (k : PySem.W.keepIn K (.ref f) = true) : Fn0 K mg x st :=
  ⟨f, _, fun_mk l c k, PySem.W.mg_of X G a⟩
noncomputable def Cal (P : Program) (w : World) (K : PySem.W.Frag) (mg : Str → Option Value) (base : Heap) (x : Str) (ps : List Str) (k : Nat) (sp : Sp) : Prop :=
  ∃ f fd, mg x = some (.ref f) ∧ PySem.W.keepIn K (.ref f) = true ∧ Binds K fd ps [] ∧ FnOk P w K mg base CX0 k f fd ps sp
theorem cal_of {P : Program} {w : World} {K : PySem.W.Frag} {mg : Str → Option Value} {base : Heap} {x : Str} {st : Stmt} {N ps : List Str} {k : Nat} {sp : Sp} (F : Fn0 K mg x st) (S : FnScope N ps (defScope st))
    (hb : ∀ (kV doc pm : Value) (an : Option Addr) (cdv ct : Value) (us : List Value), us.length = ps.length → bindArgs (PySem.W.fnOf x x (defArgs st) (defBody st) (defScope st) .none kV doc pm an cdv ct) ⟨us, []⟩ = pure (ps.zip us))
    (len : ∀ vs H Q E, sp vs H Q E → vs.length = ps.length)
    (hbody : ∀ (f : Addr) (cdv : Value) (A : Around) (outer : List Env) (s : Shared) (H : Hp) (vs : List V) (Q : VK) (E : XK), Room k (A.deeper (envOfC x (defScope st) s.heap.objs.size f cdv)) → sp vs H Q E →
      ∃ t, PSs (cxOf CX0 P w K mg base N x (defScope st) f cdv A outer s H E).nox (defBody st) t ∧ t { nx := fun _ H' => Q .non H', rt := Q } (start N vs) H) : Cal P w K mg base x ps (k + 1) sp := by
  obtain ⟨f, fd, F, m⟩ := F
  exact ⟨f, fd, m, F.kp, F.binds hb, F.ok S len fun cdv A outer s H vs Q E => hbody f cdv A outer s H vs Q E⟩
section
variable {X : Cx} {x : Str} {ps : List Str} {k : Nat} {sp : Sp} {e : Expr} {es : List Expr} {t : TA} {p pos : Pos}
theorem pe_callC (C : Cal X.prog X.w X.K X.mg X.base x ps k sp) (hr : Room k X.A) (hg : Gl X x) (ha : PA X (e :: es) t) (hdb : (x == ("__debug__" : Str)) = false := by decide)
    (he : starEach (e :: es) X.env = (false, eval e X.env) :: starEach es X.env := by rfl) (hpl : (backTo pos (starEach es X.env)).any (·.1) = false := by rfl) : PE X (.Call (.Name x p) (e :: es) [] pos) (tCall sp [] E0 t) := by
  obtain ⟨f, fd, m, kp, b, F⟩ := C
  exact pe_call F hr hg m kp b .nil pass0 ha hdb he hpl
theorem pe_gint {i : Int} (hm : ∃ t, X.mg x = some (.int i t)) (hg : Gl X x) (hd : (x == ("__debug__" : Str)) = false := by decide) : PE X (.Name x pos) (tC (.int i)) := by
  obtain ⟨t, hm⟩ := hm
  exact pe_glob hg hm ⟨t, rfl⟩ hd
end
theorem mg_int {K : PySem.W.Frag} {mg : Str → Option Value} {h : Heap} (X : K.In h) (G : h.Ns mainGlobals mg) {x : Str} {i : Int} {t : Tok} (a : PySem.W.nsIn K mainGlobals x = some (some (.int i t))) : ∃ t, mg x = some (.int i t) := ⟨t, PySem.W.mg_of X G a⟩
theorem Same.upd {H H' : Hp} {a : Addr} {o : HO} (e : Same H H') (h : H a = none) : Same H (upd H' a o) := fun b o' q => by
  rw [upd_ne (ne_of_none q h)]
  exact e b o' q
theorem Same.new {H : Hp} {a : Addr} {o : HO} (h : H a = none) : Same H (L2.upd H a o) := (Same.refl H).upd h
end L2
set_option Elab.async false
set_option linter.all false
set_option maxRecDepth 100000
namespace L2
open PySem PySem.Spec PyProof.Rows
noncomputable def rIxTH : R2 := fun x y H Q => ∃ p xs i v, x = .ref p ∧ y = .int i ∧ H p = some (.tup xs) ∧ atI xs i = some v ∧ Q v H
noncomputable def rIxLH : R2 := fun x y H Q => ∃ p xs i v, x = .ref p ∧ y = .int i ∧ H p = some (.lst xs) ∧ atI xs i = some v ∧ Q v H
theorem ix_tupH {X : Cx} : IxR X rIxTH := by
  intro value slice pins s σ H x y v u Q I rx ry h hs
  obtain ⟨p, xs, i, z, e1, e2, hp, ha, q⟩ := h
  exact ix_tup value slice pins s σ H x y v u Q I rx ry ⟨p, xs, i, z, e1, e2, .inl (.inl hp), ha, q⟩ hs
theorem ix_listH {X : Cx} : IxR X rIxLH := by
  intro value slice pins s σ H x y v u Q I rx ry h hs
  obtain ⟨p, xs, i, z, e1, e2, hp, ha, q⟩ := h
  exact ix_list value slice pins s σ H x y v u Q I rx ry ⟨p, xs, i, z, e1, e2, .inl (.inl hp), ha, q⟩ hs
noncomputable def rEqTH : R2 := fun x y H Q => ∃ a b xs ys, x = .ref a ∧ y = .ref b ∧ H a = some (.tup xs) ∧ H b = some (.tup ys) ∧ xs.all flatV = true ∧ ys.all flatV = true ∧ Q (.bl (eqVs xs ys)) H
noncomputable def rLenH : List V → Hp → VK → Prop := fun xs H Q => ∃ p ys, xs = [V.ref p] ∧ (H p = some (.lst ys) ∨ H p = some (.tup ys)) ∧ Q (.int ys.length) H
theorem call_lenH {X : Cx} : CallR X (.builtin "len") rLenH := by
  intro pins s σ H xs us Q I r h
  obtain ⟨p, ys, e, hp, q⟩ := h
  exact call_len_seq pins s σ H xs us Q I r ⟨p, ys, e, hp.imp (fun z => .inl (.inl z)) (fun z => .inl (.inl z)), q⟩
theorem pe_bty {X : Cx} {x : Str} {n : String} {pos : Pos} (hg : Gl X x) (hm : X.mg x = none) (hv : bootBuiltins x = some (.type n)) (hn : x ≠ "__name__" := by decide) (hd : (x == ("__debug__" : Str)) = false := by decide) : PE X (.Name x pos) (tC (.ty n)) :=
  pe_bltn hg hm hv rfl hn hd
theorem atI_0 {α : Type} {x : α} {xs : List α} : atI (x :: xs) 0 = some x := by simp [atI, ixN]
theorem atI_1 {α : Type} {x y : α} {xs : List α} : atI (x :: y :: xs) 1 = some y := by
  have h : (1 : Int) < (xs.length : Int) + 1 + 1 := by omega
  simp [atI, ixN, h]
theorem atI_2 {α : Type} {x y z : α} {xs : List α} : atI (x :: y :: z :: xs) 2 = some z := by
  have h : (2 : Int) < (xs.length : Int) + 1 + 1 + 1 := by omega
  simp [atI, ixN, h]
theorem atI_nn {α : Type} {xs : List α} {i : Int} {v : α} (h0 : 0 ≤ i) (h : xs[i.toNat]? = some v) : atI xs i = some v := by
  have hl : i.toNat < xs.length := (List.getElem?_eq_some_iff.mp h).1
  have hl' : i < xs.length := by omega
  unfold atI ixN
  rw [if_pos h0, if_pos hl']
  exact h
theorem ixN_00 (n : Nat) : ixN (n + 1) 0 = some 0 := by
  have : (0 : Int) < (n : Int) + 1 := by omega
  simp [ixN, this]
theorem while_W {c : TT} {tb : TS} {D : Ends} {σ : St} {H : Hp} (Pv : St → Hp → Prop) (μ : St → Hp → Nat) (h0 : Pv σ H)
    (hs : ∀ σ H, Pv σ H → c σ H fun b H1 => if b = true then ∃ N : St → Hp → Prop, (∀ σ' H', N σ' H' → ∃ m', m' < μ σ H ∧ m' = μ σ' H' ∧ Pv σ' H') ∧ tb { D with nx := N, ct := N, bk := D.nx } σ H1 else D.nx σ H1) : tWhile c tb D σ H :=
  ⟨fun m σ H => m = μ σ H ∧ Pv σ H, ⟨_, rfl, h0⟩, by rintro m σ H ⟨rfl, p⟩; exact hs σ H p⟩
theorem N_ok {Pv : St → Hp → Prop} {μ : St → Hp → Nat} {k : Nat} : ∀ σ' H', (Pv σ' H' ∧ μ σ' H' < k) → ∃ m', m' < k ∧ m' = μ σ' H' ∧ Pv σ' H' := fun _ _ ⟨a, b⟩ => ⟨_, b, rfl, a⟩
noncomputable def ForGo (J : It) (g : TG) (tb : TS) (D : Ends) (σ : St) (H : Hp) : Prop := ∃ W : Nat → Nat → St → Hp → Prop, (∃ m, W 0 m σ H) ∧ ∀ i m σ H, W i m σ H →
  (J.stop i H ∧ D.nx σ H) ∨ (J.go i H ∧ ∃ N : St → Hp → Prop, (∀ σ' H', N σ' H' → ∃ m', m' < m ∧ W (i + 1) m' σ' H') ∧ ∀ x H', J.yld i H x H' → g x σ H' fun σ2 H2 => tb { D with nx := N, ct := N, bk := D.nx } σ2 H2)
theorem tFor_eq {wi : TI} {g : TG} {tb : TS} {D : Ends} {σ : St} {H : Hp} : tFor wi g tb D σ H = wi σ H fun J H1 => ForGo J g tb D σ H1 := rfl
theorem go_range {lo : Int} {n : Nat} {g : TG} {tb : TS} {D : Ends} {σ : St} {H : Hp} (Pv : Nat → St → Hp → Prop) (h0 : Pv 0 σ H)
    (hs : ∀ i σ H, i < n → Pv i σ H → g (.int (lo + i)) σ H fun σ2 H2 => tb { D with nx := Pv (i + 1), ct := Pv (i + 1), bk := D.nx } σ2 H2) (hd : ∀ σ H, Pv n σ H → D.nx σ H) : ForGo (Itr lo n) g tb D σ H := for_range Pv h0 hs hd
theorem go_list {K : PySem.W.Frag} {a : Addr} {xs : List V} {g : TG} {tb : TS} {D : Ends} {σ : St} {H : Hp} (Pv : Nat → St → Hp → Prop) (h0 : Pv 0 σ H) (hl : ∀ i σ H, i ≤ xs.length → Pv i σ H → SqL K H a xs)
    (hs : ∀ i x σ H, xs[i]? = some x → Pv i σ H → g x σ H fun σ2 H2 => tb { D with nx := Pv (i + 1), ct := Pv (i + 1), bk := D.nx } σ2 H2) (hd : ∀ σ H, Pv xs.length σ H → D.nx σ H) : ForGo (Itl K a) g tb D σ H := for_list Pv h0 hl hs hd
noncomputable def notStar : Expr → Bool
  | .Starred .. => false
  | _ => true
theorem starEach_plain {e : Expr} {es : List Expr} {env : Env} (h : notStar e = true) : starEach (e :: es) env = (false, eval e env) :: starEach es env := by
  cases e <;> first | rfl | exact absurd (show false = true from h) Bool.false_ne_true
noncomputable def plainArgs : List Expr → Bool
  | [] => true
  | e :: es => notStar e && plainArgs es
theorem backTo_plain {pos : Pos} {env : Env} : ∀ {es : List Expr}, plainArgs es = true → (backTo pos (starEach es env)).any (·.1) = false
  | [], _ => rfl
  | e :: es, h => by
    have h' : notStar e = true ∧ plainArgs es = true := by simpa [plainArgs] using h
    rw [starEach_plain h'.1]
    show (false || (backTo pos (starEach es env)).any (·.1)) = false
    rw [backTo_plain h'.2]
    rfl
noncomputable def isComp : Expr → Bool
  | .ListComp .. => true
  | .SetComp .. => true
  | .DictComp .. => true
  | _ => false
theorem swaps_plain {e : Expr} {t : Option Expr} {n : Nat} {env : Env} (h : isComp e = false) : swapsWith e t n env = pure false := by
  cases e <;> first | rfl | exact absurd (show true = false from h) Bool.noConfusion
section
variable {X : Cx} {x : Str} {ps : List Str} {k : Nat} {sp : Sp} {e : Expr} {es : List Expr} {te : TE} {t : TA} {p pos : Pos} {id : String} {r : List V → Hp → VK → Prop}
theorem pa_c (ha : PE X e te) (hr : PA X es t) (hs : notStar e = true := by rfl) : PA X (e :: es) (tCons te t) := pa_cons ha hr (starEach_plain hs)
theorem pe_callD (C : Cal X.prog X.w X.K X.mg X.base x ps k sp) (hr : Room k X.A) (hg : Gl X x) (ha : PA X (e :: es) t) (hs : plainArgs (e :: es) = true := by rfl) (hdb : (x == ("__debug__" : Str)) = false := by decide) :
    PE X (.Call (.Name x p) (e :: es) [] pos) (tCall sp [] E0 t) :=
  have h' : notStar e = true ∧ plainArgs es = true := by simpa [plainArgs] using hs
  pe_callC C hr hg ha hdb (starEach_plain h'.1) (backTo_plain h'.2)
theorem pe_callE (hc : CallR X (.builtin id) r) (hg : Gl X x) (hm : X.mg x = none) (hv : bootBuiltins x = some (.builtin id)) (ha : PA X (e :: es) t) (hs : plainArgs (e :: es) = true := by rfl) (hn : x ≠ "__name__" := by decide) (hdb : (x == ("__debug__" : Str)) = false := by decide) :
    PE X (.Call (.Name x p) (e :: es) [] pos) (tCB r t) :=
  have h' : notStar e = true ∧ plainArgs es = true := by simpa [plainArgs] using hs
  pe_callB hc hg hm hv ha hn hdb (starEach_plain h'.1) (backTo_plain h'.2)
theorem ps_set1 {i : Nat} {pos' : Pos} (hN : X.N.Nodup) (hi : X.N[i]? = some x) (hx : X.env.scope.names.lookup x = some .local) (he : PE X e te) (hs : isComp e = false := by rfl) : PS X (.Assign [.Name x pos'] e pos) (tAsg te (gName i)) :=
  ps_set hN hi (.inl hx) he (swaps_plain hs) (.inr hx)
theorem pg_name1 {i : Nat} (hN : X.N.Nodup) (hi : X.N[i]? = some x) (hx : X.env.scope.names.lookup x = some .local) : PG X (.Name x pos) (gName i) := pg_name hN hi (.inl hx) (.inr hx)
theorem ps_expr1 (he : PE X e te) (hs : isComp e = false := by rfl) : PS X (.Expr e pos) (tDrop te) := ps_expr he (swaps_plain hs)
theorem pv1 (i : Nat) (hN : X.N[i]? = some x := by rfl) (hv : X.env.scope.names.lookup x = some .local := by rfl) (hd : (x == ("__debug__" : Str)) = false := by decide) (hcd : (x == ("__classdict__" : Str)) = false := by decide) : PE X (.Name x pos) (tVar i) := pe_var hN (.inl hv) hd hcd
end
noncomputable def tCut (t : TS) : TS := fun D σ H => ∃ M : St → Hp → Prop, t { D with nx := M } σ H ∧ ∀ σ' H', M σ' H' → D.nx σ' H'
theorem ps_cut {X : Cx} {st : Stmt} {t : TS} (h : PS X st t) : PS X st (tCut t) := by
  intro pins s σ H D I hq
  obtain ⟨M, h1, h2⟩ := hq
  refine thn (h pins s σ H _ I h1) fun f s' q => ?_
  cases f with
  | next => obtain ⟨σ', H', I', m⟩ := q; exact ⟨σ', H', I', h2 _ _ m⟩
  | brk => exact q
  | cont => exact q
  | ret u => exact q
theorem bt_len : bootBuiltins "len" = some (.builtin "len") := by decide +kernel
theorem bt_abs : bootBuiltins "abs" = some (.builtin "abs") := by decide +kernel
theorem bt_max : bootBuiltins "max" = some (.builtin "max") := by decide +kernel
theorem bt_min : bootBuiltins "min" = some (.builtin "min") := by decide +kernel
theorem bt_isinstance : bootBuiltins "isinstance" = some (.builtin "isinstance") := by decide +kernel
theorem bt_int : bootBuiltins "int" = some (.type "int") := by decide +kernel
theorem bt_bool : bootBuiltins "bool" = some (.type "bool") := by decide +kernel
theorem bt_tuple : bootBuiltins "tuple" = some (.type "tuple") := by decide +kernel
theorem bt_list : bootBuiltins "list" = some (.type "list") := by decide +kernel
theorem bt_zip : bootBuiltins "zip" = some (.type "zip") := by decide +kernel
end L2
set_option Elab.async false
set_option linter.all false
set_option maxRecDepth 100000
set_option maxHeartbeats 1000000
namespace L2
open PySem PySem.Spec PyProof.Rows
noncomputable def clOf (cells : List (Str × Addr)) : List (Str × NameKind) → List (Str × Addr) → List (Str × Addr)
  | [], acc => acc
  | (n, k) :: r, acc => if k == .free then clOf cells r ((n, (cells.lookup n).getD 0) :: acc) else clOf cells r acc
theorem closure_go {env : Env} : ∀ (names : List (Str × NameKind)) (acc : List (Str × Addr)), (∀ p ∈ names, p.2 = .free → ∃ c, env.cells.lookup p.1 = some c) →
    (forIn (m := Sem) names acc fun x r => (match x with | (name, kind) => if (kind == NameKind.free) = true then do let a ← cellOf env name; pure (ForInStep.yield ((name, a) :: r)) else pure (ForInStep.yield r))) = pure (clOf env.cells names acc) := by
  intro names
  induction names with
  | nil => intro acc _; rfl
  | cons p r ih =>
    intro acc h
    obtain ⟨n, k⟩ := p
    rw [List.forIn_cons]
    by_cases hk : (k == NameKind.free) = true
    · obtain ⟨c, hc⟩ := h (n, k) List.mem_cons_self (by simpa using hk)
      have e1 : cellOf env n = pure c := by unfold cellOf; rw [hc]
      simp only [hk, if_true, e1]
      have := ih ((n, c) :: acc) fun p hp => h p (List.mem_cons_of_mem _ hp)
      show _ = pure (clOf env.cells ((n, k) :: r) acc)
      rw [clOf, if_pos hk, hc]
      exact this
    · simp only [hk]
      have := ih acc fun p hp => h p (List.mem_cons_of_mem _ hp)
      show _ = pure (clOf env.cells ((n, k) :: r) acc)
      rw [clOf, if_neg hk]
      exact this
theorem closure_is {scope : Scope} {env : Env} (h : ∀ p ∈ scope.names, p.2 = .free → ∃ c, env.cells.lookup p.1 = some c) : closureFor scope env = pure (clOf env.cells scope.names []) := by
  unfold closureFor
  exact Eq.trans (congrArg (fun z => z >>= fun s => pure s) (closure_go (env := env) scope.names [] h)) rfl
theorem clOf_mem {cells : List (Str × Addr)} : ∀ (names : List (Str × NameKind)) (acc : List (Str × Addr)), (∀ p ∈ names, p.2 = .free → ∃ c, cells.lookup p.1 = some c) → (∀ q ∈ acc, cells.lookup q.1 = some q.2) → ∀ q ∈ clOf cells names acc, cells.lookup q.1 = some q.2
  | [], acc, _, h => h
  | (n, k) :: r, acc, h1, h2 => by
    rw [clOf]
    by_cases hk : (k == NameKind.free) = true
    · rw [if_pos hk]
      refine clOf_mem r _ (fun p hp => h1 p (List.mem_cons_of_mem _ hp)) fun q hq => ?_
      rcases List.mem_cons.mp hq with rfl | hq
      · obtain ⟨c, hc⟩ := h1 (n, k) List.mem_cons_self (by simpa using hk)
        rw [hc]
        rfl
      · exact h2 q hq
    · rw [if_neg hk]
      exact clOf_mem r _ (fun p hp => h1 p (List.mem_cons_of_mem _ hp)) h2
theorem clOf_has {cells : List (Str × Addr)} {x : Str} : ∀ (names : List (Str × NameKind)) (acc : List (Str × Addr)), ((x, NameKind.free) ∈ names ∨ ∃ c, (x, c) ∈ acc) → ∃ c, (x, c) ∈ clOf cells names acc
  | [], acc, h => h.elim (fun z => absurd z (by simp)) id
  | (n, k) :: r, acc, h => by
    rw [clOf]
    by_cases hk : (k == NameKind.free) = true
    · rw [if_pos hk]
      refine clOf_has r _ ?_
      rcases h with h | ⟨c, hc⟩
      · rcases List.mem_cons.mp h with e | h
        · cases e
          exact .inr ⟨_, List.mem_cons_self⟩
        · exact .inl h
      · exact .inr ⟨c, List.mem_cons_of_mem _ hc⟩
    · rw [if_neg hk]
      refine clOf_has r _ ?_
      rcases h with h | h
      · rcases List.mem_cons.mp h with e | h
        · cases e
          exact absurd rfl hk
        · exact .inl h
      · exact .inr h
theorem lookup_some_of_mem {x : Str} {c : Addr} : ∀ {l : List (Str × Addr)}, (x, c) ∈ l → ∃ c', l.lookup x = some c'
  | (n, d) :: r, h => by
    rw [List.lookup_cons]
    cases e : x == n with
    | true => exact ⟨d, rfl⟩
    | false =>
      rcases List.mem_cons.mp h with z | h
      · cases z
        simp at e
      · exact lookup_some_of_mem h
theorem clOf_from {cells : List (Str × Addr)} {q : Str × Addr} : ∀ (names : List (Str × NameKind)) (acc : List (Str × Addr)), q ∈ clOf cells names acc → (q.1, NameKind.free) ∈ names ∨ q ∈ acc
  | [], acc, h => .inr h
  | (n, k) :: r, acc, h => by
    rw [clOf] at h
    by_cases hk : (k == NameKind.free) = true
    · rw [if_pos hk] at h
      have hk' : k = .free := by simpa using hk
      rcases clOf_from r _ h with h | h
      · exact .inl (List.mem_cons_of_mem _ h)
      · rcases List.mem_cons.mp h with rfl | h
        · exact .inl (by rw [hk']; exact List.mem_cons_self)
        · exact .inr h
    · rw [if_neg hk] at h
      exact (clOf_from r _ h).imp (List.mem_cons_of_mem _) id
theorem cellsFrom_spec {x : Str} {c : Addr} : ∀ (names : List (Str × NameKind)) (h : Heap) (acc : List (Str × Addr)), (x, c) ∈ cellsFrom h.objs.size names acc → (x, c) ∈ acc ∨ (h.objs.size ≤ c ∧ (pushCells h names).IsCell c none ∧ (x, NameKind.cell) ∈ names)
  | [], _, _, h => .inl h
  | (n, k) :: r, hp, acc, h => by
    unfold cellsFrom at h
    unfold pushCells
    by_cases hk : (k == NameKind.cell) = true
    · rw [if_pos hk] at h ⊢
      have hk' : k = .cell := by simpa using hk
      have h' : (x, c) ∈ cellsFrom (hp.push { cls := .type "cell", data := .cell none }).objs.size r ((n, hp.objs.size) :: acc) := by rw [Heap.size_push]; exact h
      rcases cellsFrom_spec r _ _ h' with h | ⟨h1, h2, h3⟩
      · rcases List.mem_cons.mp h with e | h
        · cases e
          exact .inr ⟨Nat.le_refl _, ⟨_, pushCells_keeps r _ _ _ (Heap.get?_push_size _ rfl), rfl⟩, by rw [hk']; exact List.mem_cons_self⟩
        · exact .inl h
      · rw [Heap.size_push] at h1
        exact .inr ⟨by (clear h3 h2 h' hk' hk h; omega), h2, List.mem_cons_of_mem _ h3⟩
    · rw [if_neg hk] at h ⊢
      exact (cellsFrom_spec r hp acc h).imp id fun ⟨h1, h2, h3⟩ => ⟨h1, h2, List.mem_cons_of_mem _ h3⟩
theorem cellsFrom_has {x : Str} : ∀ (names : List (Str × NameKind)) (n : Nat) (acc : List (Str × Addr)), ((x, NameKind.cell) ∈ names ∨ ∃ c, (x, c) ∈ acc) → ∃ c, (x, c) ∈ cellsFrom n names acc
  | [], _, acc, h => h.elim (fun z => absurd z (by simp)) id
  | (y, k) :: r, n, acc, h => by
    unfold cellsFrom
    by_cases hk : (k == NameKind.cell) = true
    · rw [if_pos hk]
      refine cellsFrom_has r _ _ ?_
      rcases h with h | ⟨c, hc⟩
      · rcases List.mem_cons.mp h with e | h
        · cases e
          exact .inr ⟨_, List.mem_cons_self⟩
        · exact .inl h
      · exact .inr ⟨c, List.mem_cons_of_mem _ hc⟩
    · rw [if_neg hk]
      refine cellsFrom_has r _ _ ?_
      rcases h with h | h
      · rcases List.mem_cons.mp h with e | h
        · cases e
          exact absurd rfl hk
        · exact .inl h
      · exact .inr h
theorem cellsFrom_inj {lo : Nat} : ∀ (names : List (Str × NameKind)) (n : Nat) (acc : List (Str × Addr)), (∀ x c, (x, c) ∈ acc → c < n) → (∀ x y c, lo ≤ c → (x, c) ∈ acc → (y, c) ∈ acc → x = y) → ∀ x y c, lo ≤ c → (x, c) ∈ cellsFrom n names acc → (y, c) ∈ cellsFrom n names acc → x = y
  | [], _, _, _, h => h
  | (z, k) :: r, n, acc, h1, h2 => by
    unfold cellsFrom
    by_cases hk : (k == NameKind.cell) = true
    · rw [if_pos hk]
      refine cellsFrom_inj r _ _ (fun x c hm => ?_) fun x y c hc hx hy => ?_
      · rcases List.mem_cons.mp hm with e | hm
        · cases e; exact Nat.lt_succ_self _
        · exact Nat.lt_succ_of_lt (h1 x c hm)
      · rcases List.mem_cons.mp hx with e | hx <;> rcases List.mem_cons.mp hy with e' | hy
        · cases e; cases e'; rfl
        · cases e; exact absurd (h1 _ _ hy) (Nat.lt_irrefl _)
        · cases e'; exact absurd (h1 _ _ hx) (Nat.lt_irrefl _)
        · exact h2 x y c hc hx hy
    · rw [if_neg hk]
      exact cellsFrom_inj r n acc h1 h2
noncomputable def blkCells (scope : Scope) (env : Env) (n : Nat) : List (Str × Addr) := cellsFrom (n + 1) scope.names (clOf env.cells scope.names [])
noncomputable def cxC (X : Cx) (N' : List Str) (scope : Scope) (s : Shared) (H : Hp) (ex : List Addr) : Cx :=
  { X with N := N', s₀ := s, H₀ := H, env := compEnvC scope (blkCells scope X.env s.heap.objs.size) s.heap.objs.size X.env, outer := X.stack, ex := ex, fn := fun x => decide ((x, NameKind.cell) ∈ scope.names), pn := [] }
noncomputable def pick (σ : St) (ix : List (Option Nat)) : St := ix.map fun o => match o with | some i => (match σ[i]? with | some v => v | none => none) | none => none
structure Scp (psc : Scope) (PN N' : List Str) (ix : List (Option Nat)) (scope : Scope) : Prop where
  kind : scope.kind = .function
  names : ∀ x ∈ scope.names, x.2 = .local → scope.names.lookup x.1 = some .local
  uni : ∀ x ∈ scope.names, x.2 = .free → scope.names.lookup x.1 = some .free
  apart : ∀ x ∈ scope.names, x.2 = .cell → (x.1, NameKind.free) ∉ scope.names
  free : ∀ x ∈ scope.names, x.2 = .free → psc.names.lookup x.1 = some .cell ∨ psc.names.lookup x.1 = some .free
  len : ix.length = N'.length
  at_ : ∀ (j i : Nat) (x : Str), N'[j]? = some x → ix[j]? = some (some i) → PN[i]? = some x ∧ (x, NameKind.free) ∈ scope.names
section
variable {X : Cx} {pins : List (Addr × Obj)} {σ : St} {H : Hp} {s : Shared} {N' : List Str} {ix : List (Option Nat)} {scope : Scope} {fp : List Addr}
theorem relabel_names_free {env : Env} : ∀ {names : List (Str × NameKind)} {x : Str}, names.lookup x = some .free →
    (names.map fun (n, k) => if (k == NameKind.free && env.scope.kind == .function && env.kindOf n == some .cell) then (n, NameKind.cell) else (n, k)).lookup x = some .cell ∨
    (names.map fun (n, k) => if (k == NameKind.free && env.scope.kind == .function && env.kindOf n == some .cell) then (n, NameKind.cell) else (n, k)).lookup x = some .free
  | [], _, h => by simp at h
  | (n, k) :: r, x, h => by
    have ih := @relabel_names_free env r x
    simp only [List.map_cons]
    cases hx : x == n with
    | true =>
      simp only [List.lookup_cons, hx] at h
      cases h
      by_cases hc : (NameKind.free == NameKind.free && env.scope.kind == .function && env.kindOf n == some .cell) = true
      · rw [if_pos hc]; simp [List.lookup_cons, hx]
      · rw [if_neg hc]; simp [List.lookup_cons, hx]
    | false =>
      simp only [List.lookup_cons, hx] at h
      by_cases hc : (k == NameKind.free && env.scope.kind == .function && env.kindOf n == some .cell) = true
      · rw [if_pos hc]; simp only [List.lookup_cons, hx]; exact ih h
      · rw [if_neg hc]; simp only [List.lookup_cons, hx]; exact ih h
theorem relabel_is_free {scope : Scope} {env : Env} {x : Str} (h : scope.names.lookup x = some .free) : (relabel scope env).names.lookup x = some .cell ∨ (relabel scope env).names.lookup x = some .free := relabel_names_free h
theorem relabel_kind {scope : Scope} {env : Env} {x : Str} (h : (relabel scope env).names.lookup x = some .cell ∨ (relabel scope env).names.lookup x = some .free) : (x, NameKind.cell) ∈ scope.names ∨ (x, NameKind.free) ∈ scope.names := by
  have : ∃ k, (x, k) ∈ (relabel scope env).names ∧ (k = .cell ∨ k = .free) := by
    rcases h with h | h
    · exact ⟨_, PySem.mem_of_lookup h, .inl rfl⟩
    · exact ⟨_, PySem.mem_of_lookup h, .inr rfl⟩
  obtain ⟨k, hm, hk⟩ := this
  obtain ⟨⟨n, k'⟩, hm', e⟩ := List.mem_map.mp hm
  dsimp only at e
  split at e
  · rename_i hc
    cases e
    have : k' = .free := by simp at hc; exact hc.1.1
    rw [this] at hm'
    exact .inr hm'
  · cases e
    rcases hk with rfl | rfl
    · exact .inl hm'
    · exact .inr hm'
theorem inv_comp (I : Inv X pins σ H s) (S : Scp X.env.scope X.N N' ix scope) (hf : ∀ b ∈ fp, FpOk X pins H b) (hfl : ∀ b ∈ fp, b < s.heap.objs.size) (t' : Nat) :
    Inv (cxC X N' scope s H fp) [] (pick σ ix) H { s with heap := pushCells (s.heap.push { cls := .type "dict", data := .dict #[] }) scope.names, toks := t' } := by
  have hn : (pushCells (s.heap.push { cls := .type "dict", data := .dict #[] }) scope.names).Ns s.heap.objs.size fun _ => none := (Heap.Ns.new s.heap (.type "dict")).keeps (pushCells_keeps _ _)
  have hk : ∀ b o, s.heap.get? b = some o → (pushCells (s.heap.push { cls := .type "dict", data := .dict #[] }) scope.names).get? b = some o := fun b o e => pushCells_keeps _ _ b o (Heap.get?_push_of_some _ e)
  have hfr : ∀ p ∈ scope.names, p.2 = NameKind.free → ∃ c, X.env.cells.lookup p.1 = some c := fun p hp e => I.ok.has p.1 (S.free p hp e)
  have clm : ∀ q ∈ clOf X.env.cells scope.names [], X.env.cells.lookup q.1 = some q.2 := clOf_mem scope.names [] hfr (by simp)
  have spec : ∀ x c, (blkCells scope X.env s.heap.objs.size).lookup x = some c → (X.env.cells.lookup x = some c ∧ (x, NameKind.free) ∈ scope.names) ∨
      (s.heap.objs.size < c ∧ (pushCells (s.heap.push { cls := .type "dict", data := .dict #[] }) scope.names).IsCell c none ∧ (x, NameKind.cell) ∈ scope.names) := fun x c e => by
    have hm : (x, c) ∈ cellsFrom (s.heap.push { cls := .type "dict", data := .dict #[] }).objs.size scope.names (clOf X.env.cells scope.names []) := by rw [Heap.size_push]; exact PySem.mem_of_lookup e
    rcases cellsFrom_spec scope.names _ _ hm with h | ⟨h1, h2, h3⟩
    · exact .inl ⟨clm _ h, (clOf_from scope.names [] h).elim id (fun z => absurd z (by simp))⟩
    · rw [Heap.size_push] at h1
      exact .inr ⟨h1, h2, h3⟩
  have hasC : ∀ x, ((relabel scope X.env).names.lookup x = some .cell ∨ (relabel scope X.env).names.lookup x = some .free) → ∃ c, (blkCells scope X.env s.heap.objs.size).lookup x = some c := fun x hx => by
    have : ∃ c, (x, c) ∈ blkCells scope X.env s.heap.objs.size := cellsFrom_has scope.names _ _ ((relabel_kind hx).imp id fun z => clOf_has scope.names [] (.inl z))
    obtain ⟨c, hc⟩ := this
    exact lookup_some_of_mem hc
  have cold : ∀ x c, X.env.cells.lookup x = some c → c < s.heap.objs.size := fun x c e => let ⟨v, q⟩ := I.cell x c e; q.lt
  refine ⟨⟨I.ok.mod, S.kind, I.ok.glob, I.ok.blt, Nat.le_refl _, fun x y c e1 e2 => ?_, hasC, fun x c z e => ?_, I.ok.hd, I.ok.frames, .inl rfl,
    fun b hb => ⟨Nat.ne_of_lt (hfl b hb), fun x c e => ?_⟩, I.bs, Nat.le_trans I.ok.bsz I.sz, fun b o e hb => ?_, fun b hb z => ?_, I.stack, I.stkFree⟩,
    rfl, I.bare, Un.kept hk, ⟨_, hn, fun j x v e1 e2 e3 => ?_⟩, fun x c e => ?_, I.hok.fresh (Nat.le_refl _), fun x c e => ?_, fun p hp => absurd (show p ∈ ([] : List (Addr × Obj)) from hp) (by simp), I.hok.kept hk, ?_⟩
  · by_cases hc : c < s.heap.objs.size + 1
    · rcases spec x c e1 with ⟨q1, _⟩ | ⟨q1, _⟩
      · rcases spec y c e2 with ⟨q2, _⟩ | ⟨q2, _⟩
        · exact I.ok.inj x y c q1 q2
        · exact absurd q2 (Nat.not_lt.mpr (Nat.le_of_lt_succ hc))
      · exact absurd q1 (Nat.not_lt.mpr (Nat.le_of_lt_succ hc))
    · exact cellsFrom_inj (lo := s.heap.objs.size + 1) scope.names _ _ (fun x c hm => Nat.lt_succ_of_lt (cold x c (clm _ hm))) (fun x y c hc hx _ => absurd (cold x c (clm _ hx)) (Nat.not_lt.mpr (Nat.le_trans (Nat.le_succ _) hc))) x y c (Nat.not_lt.mp hc) (PySem.mem_of_lookup e1) (PySem.mem_of_lookup e2)
  · have z' : (x, NameKind.cell) ∈ scope.names := of_decide_eq_true z
    rcases spec x c e with ⟨_, q⟩ | ⟨q, _⟩
    · exact absurd q (S.apart _ z' rfl)
    · exact Nat.le_of_lt q
  · rcases spec x c e with ⟨q, _⟩ | ⟨q, _⟩
    · exact (hf b hb).2.2.2.2.1 x c q
    · exact fun z => absurd (hfl b hb) (Nat.not_lt.mpr (z ▸ Nat.le_of_lt q))
  · exact (hf b hb).2.2.2.1.elim (fun z => I.ok.noex b o e z) fun z => absurd (Nat.lt_of_lt_of_le (Heap.lt_size e) I.ok.bsz) (Nat.not_lt.mpr z)
  · have hb2 := hf b hb
    rcases List.mem_cons.mp (I.stkSub b z) with q | q
    · exact hb2.2.1 q
    · exact hb2.2.2.1 q
  · have e4 : ∃ i, ix[j]? = some (some i) ∧ σ[i]? = some (some v) := by
      have e2' : (pick σ ix)[j]? = some (some v) := e2
      unfold pick at e2'
      rw [List.getElem?_map] at e2'
      cases q : ix[j]? with
      | none => rw [q] at e2'; cases e2'
      | some o =>
        rw [q] at e2'
        cases o with
        | none => cases e2'
        | some i =>
          refine ⟨i, rfl, ?_⟩
          cases z : σ[i]? with
          | none => simp [z] at e2'
          | some y => simp [z] at e2'; rw [e2']
    obtain ⟨i, e4, e5⟩ := e4
    obtain ⟨a1, a2⟩ := S.at_ j i x e1 e4
    have a3 := S.free _ a2 rfl
    obtain ⟨m0, hn0, hl0⟩ := I.loc
    obtain ⟨u, r, l⟩ := hl0 i x v a1 e5 (.inr a3)
    refine ⟨u, r, ?_⟩
    rcases l with ⟨k1, _⟩ | ⟨k1, c, hcl, hce⟩
    · have k1' : X.env.scope.names.lookup x = some .local := k1
      rcases a3 with z | z <;> (rw [k1'] at z; cases z)
    · -- the name is captured here
      have e3' : (relabel scope X.env).names.lookup x = some .local ∨ (relabel scope X.env).names.lookup x = some .cell ∨ (relabel scope X.env).names.lookup x = some .free := e3
      have k3 := relabel_is_free (env := X.env) (S.uni _ a2 rfl)
      obtain ⟨c', hc'⟩ := hasC x k3
      rcases spec x c' hc' with ⟨q, _⟩ | ⟨_, _, q⟩
      · rw [hcl] at q
        cases q
        exact .inr ⟨k3, c, hc', hce.keeps hk⟩
      · exact absurd a2 (S.apart _ q rfl)
  · rcases spec x c e with ⟨q, _⟩ | ⟨q, q2, _⟩
    · obtain ⟨v, q'⟩ := I.cell x c q
      exact ⟨v, q'.keeps hk⟩
    · exact ⟨none, q2⟩
  · rcases spec x c e with ⟨q, _⟩ | ⟨q, _⟩
    · exact I.freeC x c q
    · exact I.hok.fresh (Nat.le_of_lt q)
  · show (pick σ ix).length = N'.length
    unfold pick
    rw [List.length_map]
    exact S.len
end
section
variable {prog : Program} {w : World} {A : Around} {R : Result → Shared → Prop} {s : Shared}
noncomputable def testsOf (ifs : List Expr) (env : Env) : Sem Bool := forIn ifs true fun c r => if r = true then do let ok ← isTrue c env (eval c env); pure (ForInStep.yield ok) else pure (ForInStep.yield r)
theorem compLoop_any {elt target iter : Expr} {ifs : List Expr} {scope : Scope} {pos : Pos} {it acc : Value} {env : Env} (I : Nat → Shared → Prop)
    (turn : ∀ n s, I n s → wpAny (model prog w) A (pyNext it) (fun r s₁ => match r with
      | none => R (.ok .next) s₁
      | some v => wpAny (model prog w) A (letOwnedTupleGo target it v) (fun _ s₁' => wpAny (model prog w) A (assign target env v) (fun _ s₂ => wpAny (model prog w) A (testsOf ifs env) (fun ok s₃ =>
          if ok = true then wpAny (model prog w) A (eval elt env) (fun x s₄ => wpAny (model prog w) A (call (.builtin "list.append") [acc, x]) (fun _ s₅ => ∃ m, m < n ∧ I m s₅) (fun _ _ => False) s₄) (fun _ _ => False) s₃
          else ∃ m, m < n ∧ I m s₃) (fun _ _ => False) s₂) (fun _ _ => False) s₁') (fun _ _ => False) s₁) (fun _ _ => False) s)
    (n : Nat) (h : I n s) : codeAny (model prog w) A (.compLoop (.ListComp elt [⟨target, iter, ifs, 0⟩] scope pos) 0 it acc env) R s := by
  refine codeAny_loop rfl I (fun n s hI => ?_) n h
  show wpAny _ _ ((compTurn (.ListComp elt [⟨target, iter, ifs, 0⟩] scope pos) 0 it acc env).onRaise (fun x => do noteFrame x env; theTreesLotGoes x)) _ _ s
  refine wpAny_noted ?_
  rw [compTurn_list]
  refine wpAny_bind (wpAny_standAt (wpAny_bind (wpAny_mono (turn n s hI) (fun r s₁ h₁ => ?_) fun _ _ h' => h'.elim)))
  cases r with
  | none => exact wpAny_pure h₁
  | some v =>
    refine wpAny_bind (wpAny_mono h₁ (fun _ s₁' h₁' => ?_) fun _ _ h' => h'.elim)
    refine wpAny_bind (wpAny_mono h₁' (fun _ s₂ h₂ => wpAny_bind (wpAny_mono h₂ (fun ok s₃ h₃ => ?_) fun _ _ h' => h'.elim)) fun _ _ h' => h'.elim)
    cases ok with
    | false => exact wpAny_pure ⟨rfl, h₃⟩
    | true =>
      exact wpAny_bind (wpAny_bind (wpAny_mono h₃ (fun x s₄ h₄ => wpAny_bind (wpAny_mono h₄ (fun _ s₅ h₅ => wpAny_pure (wpAny_pure ⟨rfl, h₅⟩)) fun _ _ h' => h'.elim)) fun _ _ h' => h'.elim))
end
theorem newEnv_comp {M : Model} {A : Around} {E : Value → Shared → Prop} {s : Shared} {scope : Scope} {globals : Addr} {cl : List (Str × Addr)} {qual : Str} {env : Env} {Q : Env → Shared → Prop}
    (hQ : Q { scope := scope, locals := s.heap.objs.size, globals := globals, cells := cellsFrom (s.heap.objs.size + 1) scope.names cl, qual := qual, func := none, code := env.code, frame := env.frame, builtins := env.builtins } { s with heap := pushCells (s.heap.push { cls := .type "dict", data := .dict #[] }) scope.names }) :
    wpAny M A (newFunctionEnv scope globals cl [] qual none .none (some env)) Q E s := by
  simp only [newFunctionEnv, Option.isSome_some, if_true]
  refine wpAny_bind (wpAny_alloc ?_)
  refine wpAny_bind (wpAny_layCells _ (fun name kind cells => by cases hkc : kind == NameKind.cell <;> simp [hkc]) _ _ _ _ ?_)
  rw [show ({ s with heap := s.heap.push { cls := .type "dict", data := .dict #[] } } : Shared).heap.objs.size = s.heap.objs.size + 1 from Heap.size_push ..]
  exact wpAny_bind (wpAny_pure (wpAny_pure hQ))
noncomputable def PF (X : Cx) (ifs : List Expr) (t : TT) : Prop :=
  ∀ (pins : List (Addr × Obj)) (s : Shared) (σ : St) (H : Hp) (Q : Bool → Hp → Prop), Inv X pins σ H s → t σ H Q → wpAny (model X.prog X.w) X.A (testsOf ifs X.env) (TP X pins σ Q) X.xe s
noncomputable def tYes : TT := fun _ H Q => Q true H
theorem pf_nil {X : Cx} : PF X [] tYes := fun _ _ _ H _ I h => wpAny_tests_nil ⟨H, I, h⟩
theorem pf_one {X : Cx} {c : Expr} {t : TT} (h : PT X c t) : PF X [c] t := fun pins s σ H Q I q => wpAny_tests_one (h pins s σ H Q I q)
noncomputable def CompGo (J : It) (g : TG) (tt : TT) (te : TE) (σ : St) (H : Hp) (Q : VK) : Prop := ∀ D, H D = none → ∃ W : Nat → Nat → St → Hp → Prop, (∃ m, W 0 m σ (upd H D (.lst []))) ∧ ∀ i m σ H, W i m σ H →
  (J.stop i H ∧ Q (.ref D) H) ∨ (J.go i H ∧ ∃ N : St → Hp → Prop, (∀ σ' H', N σ' H' → ∃ m', m' < m ∧ W (i + 1) m' σ' H') ∧ ∀ x H', J.yld i H x H' → g x σ H' fun σ2 H2 => tt σ2 H2 fun b H3 =>
    if b = true then te σ2 H3 fun v H4 => ∃ xs, H4 D = some (.lst xs) ∧ xs.length < sizeLine ∧ N σ2 (upd H4 D (.lst (xs ++ [v]))) else N σ2 H3)
noncomputable def tComp (ix : List (Option Nat)) (wi : TI) (g : TG) (tt : TT) (te : TE) : TE := fun σ H Q => wi σ H fun J H1 => CompGo J g tt te (pick σ ix) H1 Q
section
variable {X : Cx} {N' : List Str} {ix : List (Option Nat)} {scope : Scope} {tg iter elt : Expr} {ifs : List Expr} {wi : TI} {g : TG} {tt : TT} {te : TE} {pos : Pos}
theorem comp_core (hc : X.calm = true) (hxe : X.xe = fun _ _ => False) (S : Scp X.env.scope X.N N' ix scope) (hi : PI X tg iter wi) (hg : ∀ s H ex, PG (cxC X N' scope s H ex) tg g) (ht : ∀ s H ex, PF (cxC X N' scope s H ex) ifs tt) (he : ∀ s H ex, PE (cxC X N' scope s H ex) elt te)
    {pins : List (Addr × Obj)} {s : Shared} {σ : St} {H : Hp} {Q : VK} (I : Inv X pins σ H s) (h : tComp ix wi g tt te σ H Q) {Post : Value → Addr → Result → Shared → Prop}
    (fin' : ∀ (D C : Addr) (H' : Hp) (s' : Shared), Inv X pins σ H' s' → FpOk X pins H' C → (∃ m, s'.heap.Ns C m) → Q (.ref D) H' → Post (.ref D) C (.ok .next) s') :
    wpAny (model X.prog X.w) X.A (eval iter X.env) (fun x s₁ => wpAny (model X.prog X.w) X.A (pyIter x) (fun it s₂ => wpAny (model X.prog X.w) X.A (newList []) (fun acc s₃ =>
      wpAny (model X.prog X.w) X.A (newFunctionEnv scope X.env.globals (clOf X.env.cells scope.names []) [] X.env.qual none .none (some X.env)) (fun cenv s₄ =>
        codeAny (model X.prog X.w) X.A (.compStart (.ListComp elt [⟨tg, iter, ifs, 0⟩] scope pos) 0 it acc { cenv with scope := relabel scope X.env }) (Post acc cenv.locals) s₄) X.xe s₃) X.xe s₂) X.xe s₁) X.xe s := by
  refine thn (hi pins s σ H _ I h) fun v s1 h1 => thn h1 fun itv s2 h2 => ?_
  obtain ⟨it, fp, tn, J, H2, e, I2, T, st2, f2, go⟩ := h2
  subst e
  refine wpAny_newObj_type ?_
  have hD : H2 s2.heap.objs.size = none := I2.hok.fresh (Nat.le_refl _)
  have I3 : Inv X pins σ (upd H2 s2.heap.objs.size (.lst [])) { s2 with heap := s2.heap.push { cls := .type "list", dict := none, data := .seq ([] : List Value).toArray } } :=
    I2.laid (t' := s2.toks) (fun b u e => Heap.get?_push_of_some _ e) (Nat.le_refl _) ⟨Nat.zero_le _, [], 0, .nil, Heap.get?_push_size _ rfl⟩
  obtain ⟨W, ⟨m0, w0⟩, turn⟩ := go s2.heap.objs.size hD
  have fpl : ∀ b ∈ fp, b < s2.heap.objs.size := fun b hb => let ⟨o, e, _⟩ := T.obj _ _ st2 b hb; Heap.lt_size e
  have tF : ∀ {α : Type} {t : Sem α} {Q' : α → Shared → Prop} {s' : Shared}, wpAny (model X.prog X.w) X.A t Q' X.xe s' → wpAny (model X.prog X.w) X.A t Q' (fun _ _ => False) s' := fun hw => hxe ▸ hw
  generalize hH3 : upd H2 s2.heap.objs.size (.lst []) = H3 at I3 w0
  generalize hs3 : ({ s2 with heap := s2.heap.push { cls := .type "list", dict := none, data := .seq ([] : List Value).toArray } } : Shared) = s3 at I3 ⊢
  have h23 : ∀ b o, s2.heap.get? b = some o → s3.heap.get? b = some o := fun b o e => by rw [← hs3]; exact Heap.get?_push_of_some _ e
  have sz3 : s2.heap.objs.size ≤ s3.heap.objs.size := by rw [← hs3]; show _ ≤ (s2.heap.push _).objs.size; rw [Heap.size_push]; exact Nat.le_succ _
  have fpl3 : ∀ b ∈ fp, b < s3.heap.objs.size := fun b hb => Nat.lt_of_lt_of_le (fpl b hb) sz3
  have f3 : ∀ b ∈ fp, FpOk X pins H3 b := fun b hb => ⟨by rw [← hH3, upd_ne (Nat.ne_of_lt (fpl b hb))]; exact (f2 b hb).1, (f2 b hb).2⟩
  refine newEnv_comp ?_
  generalize hh1 : pushCells (s3.heap.push { cls := .type "dict", data := .dict #[] }) scope.names = h1
  have hk : ∀ b o, s3.heap.get? b = some o → h1.get? b = some o := fun b o e => by rw [← hh1]; exact pushCells_keeps _ _ b o (Heap.get?_push_of_some _ e)
  have I4 : Inv (cxC X N' scope s3 H3 fp) [] (pick σ ix) H3 { s3 with heap := h1 } := by rw [← hh1]; exact inv_comp I3 S f3 fpl3 s3.toks
  have st4 : tn 0 h1 := T.keep _ _ _ st2 fun b hb o e => hk b o (h23 b o e)
  have fin : ∀ {σ' : St} {H' : Hp} {s' : Shared}, Inv (cxC X N' scope s3 H3 fp) [] σ' H' s' → Q (.ref s2.heap.objs.size) H' → Post (.ref s2.heap.objs.size) s3.heap.objs.size (.ok .next) s' := fun {σ' H' s'} J q => by
    obtain ⟨m, hn, _⟩ := J.loc
    have K1 : Inv X pins σ H' s' := I3.call' J.os J.base J.hok J.bare fun b hb => ⟨(f3 b hb).2.2.2.1, (f3 b hb).2.1, (f3 b hb).2.2.2.2.1, (f3 b hb).2.2.2.2.2⟩
    exact fin' _ _ H' s' K1 (I3.fpOk (b := s3.heap.objs.size) (Nat.le_refl _) (show H' s3.heap.objs.size = none from J.free)) ⟨m, hn⟩ q
  have loop : codeAny (model X.prog X.w) X.A (.compLoop (.ListComp elt [⟨tg, iter, ifs, 0⟩] scope pos) 0 (.ref it) (.ref s2.heap.objs.size) (compEnvC scope (blkCells scope X.env s3.heap.objs.size) s3.heap.objs.size X.env)) (Post (.ref s2.heap.objs.size) s3.heap.objs.size) { s3 with heap := h1 } := by
    refine compLoop_any (fun n s' => ∃ i σ' H', Inv (cxC X N' scope s3 H3 fp) [] σ' H' s' ∧ tn i s'.heap ∧ (∀ b ∈ fp, H' b = none) ∧ W i n σ' H') ?_ m0 ⟨0, _, H3, I4, st4, fun b hb => (f3 b hb).1, w0⟩
    rintro n s5 ⟨i, σ5, H5, I5, st5, fr5, w5⟩
    have stat : ∀ {H' : Hp}, (∀ b ∈ fp, H' b = none) → ∀ b ∈ fp, FpOk (cxC X N' scope s3 H3 fp) [] H' b := fun hn b hb => ⟨hn b hb, (I5.ok.exf b hb).1, I5.ok.exfs b hb, .inl hb, (I5.ok.exf b hb).2, fun p hp => absurd (show p ∈ ([] : List (Addr × Obj)) from hp) (by simp)⟩
    rcases turn i n σ5 H5 w5 with ⟨stop, qn⟩ | ⟨go, N, hN, step⟩
    · refine thn (tF (T.done (cxC X N' scope s3 H3 fp) rfl rfl rfl hc i [] s5 σ5 H5 X.xe I5 (stat fr5) st5 stop)) fun r s6 ⟨hr, I6⟩ => ?_
      subst hr
      exact fin I6 qn
    · refine thn (tF (T.item (cxC X N' scope s3 H3 fp) rfl rfl rfl hc i [] s5 σ5 H5 X.xe I5 (stat fr5) st5 go)) fun r s6 ⟨u, hr, h6⟩ => ?_
      subst hr
      refine thn (tF h6) fun _ s7 ⟨x, H7, I7, r7, y7, st7, fr7⟩ => ?_
      have I7' := I7.pinned (stat fr7) (T.obj _ _ st7)
      have again : ∀ {σ' : St} {H' : Hp} {s' : Shared}, Inv (cxC X N' scope s3 H3 fp) ([] ++ pinsAt fp s7.heap) σ' H' s' → N σ' H' → ∃ m, m < n ∧ ∃ i σ' H', Inv (cxC X N' scope s3 H3 fp) [] σ' H' s' ∧ tn i s'.heap ∧ (∀ b ∈ fp, H' b = none) ∧ W i m σ' H' := fun {σ' H' s'} J n10 => by
        obtain ⟨m', hm, w10⟩ := hN σ' H' n10
        refine ⟨m', hm, i + 1, σ', H', J.unpinned, T.keep _ _ _ st7 fun b hb o e => (J.pin (b, o) (List.mem_append_right _ (List.mem_append_right _ (mem_pinsAt hb e)))).1, fun b hb => ?_, w10⟩
        obtain ⟨o, e, d⟩ := T.obj _ _ st7 b hb
        exact (J.pin (b, o) (List.mem_append_right _ (List.mem_append_right _ (mem_pinsAt hb e)))).2.1
      refine thn (tF (hg s3 H3 fp _ s7 σ5 H7 x u _ I7' r7 (step x H7 y7))) fun _ s8 ⟨σ8, H8, I8, q8⟩ => ?_
      refine thn (tF (ht s3 H3 fp _ s8 σ8 H8 _ I8 q8)) fun ok s8' ⟨H8', I8', q8'⟩ => ?_
      cases ok with
      | false => exact again I8' (by simpa using q8')
      | true =>
        rw [if_pos rfl] at q8' ⊢
        refine thn (tF (he s3 H3 fp _ s8' σ8 H8' _ I8' q8')) fun v s9 ⟨y, H9, I9, r9, xs, hl9, hz9, n9⟩ => ?_
        exact thn (tF (mt_append (X := cxC X N' scope s3 H3 fp) _ s9 σ8 H9 (.ref s2.heap.objs.size) [y] (.ref s2.heap.objs.size) [v] (fun _ H' => N σ8 H') I9 rfl (.cons r9 .nil) ⟨s2.heap.objs.size, xs, y, rfl, rfl, hl9, hz9, n9⟩)) fun _ s10 ⟨_, H10, I10, _, n10⟩ => again I10 n10
  exact codeAny_compStart_list loop (T.self _ 0 _ _ _ st4 loop)
theorem pe_comp (hc : X.calm = true) (hxe : X.xe = fun _ _ => False) (S : Scp X.env.scope X.N N' ix scope) (hi : PI X tg iter wi) (hg : ∀ s H ex, PG (cxC X N' scope s H ex) tg g) (ht : ∀ s H ex, PF (cxC X N' scope s H ex) ifs tt) (he : ∀ s H ex, PE (cxC X N' scope s H ex) elt te)
    (hs : ∀ x, foldedSetIterable iter X.env x = pure x := by intro _; rfl) : PE X (.ListComp elt [⟨tg, iter, ifs, 0⟩] scope pos) (tComp ix wi g tt te) := by
  intro pins s σ H Q I h
  rw [eval_ListComp]
  refine wpAny_comprehension_free (use := none) rfl hs (closure_is fun p hp e => I.ok.has p.1 (S.free p hp e)) S.kind S.names (comp_core hc hxe S hi hg ht he I h fun D C H' s' K1 F ⟨m, hn⟩ q => ?_)
  refine ⟨m, hn, fun h' sb => ?_⟩
  obtain ⟨g0, g1, g2, g3, g4, g5⟩ := F
  exact ⟨.ref D, H', K1.turned (t' := s'.toks) (fun b o hb e => sb.extBut b o hb e) g0 g1 g3 g4 g5, rfl, q⟩
theorem ps_comp {i : Nat} {y : Str} {py spos : Pos} (hc : X.calm = true) (hxe : X.xe = fun _ _ => False) (hN : X.N.Nodup) (hy : X.N[i]? = some y) (hl : X.env.scope.names.lookup y = some .local)
    (hsw : swapsWith (.ListComp elt [⟨tg, iter, ifs, 0⟩] scope pos) (some (.Name y py)) spos.line X.env = pure true)
    (S : Scp X.env.scope X.N N' ix scope) (hi : PI X tg iter wi) (hg : ∀ s H ex, PG (cxC X N' scope s H ex) tg g) (ht : ∀ s H ex, PF (cxC X N' scope s H ex) ifs tt) (he : ∀ s H ex, PE (cxC X N' scope s H ex) elt te)
    (hs : ∀ x, foldedSetIterable iter X.env x = pure x := by intro _; rfl) : PS X (.Assign [.Name y py] (.ListComp elt [⟨tg, iter, ifs, 0⟩] scope pos) spos) (tAsg (tComp ix wi g tt te) (gName i)) := by
  intro pins s σ H D I h
  rw [exec_Assign_Name_used _ _ _ _ hsw]
  refine wpAny_bind (wpAny_standAt (wpAny_bind ?_))
  show wpAny _ X.A (do let _ ← comprehension (.ListComp elt [⟨tg, iter, ifs, 0⟩] scope pos) scope X.env _ (newList []) false (eval iter X.env) (some (assign (.Name y py) X.env))) _ _ s
  refine wpAny_bind (wpAny_mono (wpAny_comprehension_free (use := some (assign (.Name y py) X.env)) (Q := fun _ s' => SP X pins D .next s') rfl hs (closure_is fun p hp e => I.ok.has p.1 (S.free p hp e)) S.kind S.names
    (comp_core hc hxe S hi hg ht he I h fun L C H' s' K1 F ⟨m, hn⟩ q => ?_)) (fun _ s' hq => wpAny_pure (wpAny_pure hq)) fun _ _ e => e)
  show wpAny _ X.A (assign (.Name y py) X.env (.ref L)) _ _ _
  obtain ⟨g0, g1, g2, g3, g4, g5⟩ := F
  refine wpAny_assign_Name (store_ok2 K1 hN hy (.inl hl) (v := .ref L) rfl (fun s2 I2 ⟨a, sb, ha⟩ => ?_) (.inr hl))
  have hCa : C ≠ a := by
    rcases ha with rfl | ha
    · exact g1
    · exact fun z => g4 _ _ ha z.symm
  refine ⟨m, hn.sameBut sb hCa, fun h' sb' => ?_⟩
  exact ⟨_, H', I2.turned (t' := s2.toks) (fun b o hb e => sb'.extBut b o hb e) g0 g1 g3 g4 g5, q⟩
end
noncomputable def relS (scope psc : Scope) : Scope :=
  { scope with names := scope.names.map fun (n, k) => if (k == .free && psc.kind == .function && psc.names.lookup n == some .cell) then (n, .cell) else (n, k) }
noncomputable def scpB (psc : Scope) (PN N' : List Str) (ix : List (Option Nat)) (scope : Scope) : Bool :=
  scope.kind == .function &&
  scope.names.all (fun x => x.2 != .local || scope.names.lookup x.1 == some .local) &&
  scope.names.all (fun x => x.2 != .free || scope.names.lookup x.1 == some .free) &&
  scope.names.all (fun x => x.2 != .cell || !scope.names.contains (x.1, NameKind.free)) &&
  scope.names.all (fun x => x.2 != .free || (psc.names.lookup x.1 == some .cell || psc.names.lookup x.1 == some .free)) &&
  ix.length == N'.length &&
  (List.range N'.length).all (fun j => match ix[j]?, N'[j]? with | some (some i), some x => PN[i]? == some x && scope.names.contains (x, NameKind.free) | _, _ => true)
theorem scp_of {psc : Scope} {PN N' : List Str} {ix : List (Option Nat)} {scope : Scope} (h : scpB psc PN N' ix scope = true) : Scp psc PN N' ix scope := by
  unfold scpB at h
  simp only [Bool.and_eq_true, List.all_eq_true, beq_iff_eq, Bool.or_eq_true, bne_iff_ne, ne_eq, List.contains_iff_mem, Bool.not_eq_true', List.mem_range] at h
  obtain ⟨⟨⟨⟨⟨⟨h1, h2⟩, h3⟩, h4⟩, h5⟩, h6⟩, h7⟩ := h
  refine ⟨h1, fun x hx e => (h2 x hx).resolve_left fun z => z e, fun x hx e => (h3 x hx).resolve_left fun z => z e, fun x hx e hm => ?_, fun x hx e => (h5 x hx).resolve_left fun z => z e, h6, fun j i x e1 e2 => ?_⟩
  · have := (h4 x hx).resolve_left fun z => z e
    rw [List.contains_iff_mem.mpr hm] at this
    cases this
  · have hj : j < N'.length := (List.getElem?_eq_some_iff.mp e1).1
    have := h7 j hj
    rw [e1, e2] at this
    simp only [Bool.and_eq_true, beq_iff_eq, List.contains_iff_mem] at this
    exact this
section
variable {X : Cx} {x : Str} {pos : Pos} {i : Nat} {e : Expr} {te : TE}
theorem pvc (i : Nat) (hN : X.N[i]? = some x := by rfl) (hv : X.env.scope.names.lookup x = some .cell := by rfl) (hd : (x == ("__debug__" : Str)) = false := by decide) (hcd : (x == ("__classdict__" : Str)) = false := by decide) : PE X (.Name x pos) (tVar i) := pe_var hN (.inr (.inl hv)) hd hcd
theorem ps_setc {pos' : Pos} (hN : X.N.Nodup) (hi : X.N[i]? = some x) (hx : X.env.scope.names.lookup x = some .cell) (hf : X.fn x = true) (he : PE X e te) (hs : swapsWith e (some (.Name x pos')) pos.line X.env = pure false) : PS X (.Assign [.Name x pos'] e pos) (tAsg te (gName i)) :=
  ps_set hN hi (.inr hx) he hs (.inl hf)
theorem pg_namec (hN : X.N.Nodup) (hi : X.N[i]? = some x) (hx : X.env.scope.names.lookup x = some .cell) (hf : X.fn x = true) : PG X (.Name x pos) (gName i) := pg_name hN hi (.inr hx) (.inl hf)
end
end L2
set_option Elab.async false
set_option linter.all false
set_option maxRecDepth 100000
set_option maxHeartbeats 1000000
namespace L2
open PySem PySem.Spec PyProof.Rows
theorem pi_listK {X : Cx} {K : PySem.W.Frag} {tg l : Expr} {tl : TE} (hK : X.K = K) (hl : PE X l tl) : PI X tg l (iList K tl) := hK ▸ pi_list hl
theorem ix_listK {X : Cx} {K : PySem.W.Frag} (hK : X.K = K) : IxR X (rIxL K) := hK ▸ ix_list
inductive Dt where
  | non | bl (b : Bool) | int (i : Int) | str (x : Str) | tup (xs : List Dt) | lst (xs : List Dt)
mutual
noncomputable def Rep (H : Hp) : V → Dt → Prop
  | v, .non => v = .non
  | v, .bl b => v = .bl b
  | v, .int i => v = .int i
  | v, .str x => v = .str x
  | v, .tup ds => ∃ p xs, v = .ref p ∧ H p = some (.tup xs) ∧ Reps H xs ds
  | v, .lst ds => ∃ p xs, v = .ref p ∧ H p = some (.lst xs) ∧ Reps H xs ds
noncomputable def Reps (H : Hp) : List V → List Dt → Prop
  | xs, [] => xs = []
  | xs, d :: ds => ∃ x r, xs = x :: r ∧ Rep H x d ∧ Reps H r ds
end
mutual
theorem Rep.mono {H H' : Hp} (e : Same H H') : ∀ {v : V} (d : Dt), Rep H v d → Rep H' v d
  | v, .non, h => h
  | v, .bl b, h => h
  | v, .int i, h => h
  | v, .str x, h => h
  | v, .tup ds, ⟨p, xs, h1, h2, h3⟩ => ⟨p, xs, h1, e _ _ h2, Reps.mono e ds h3⟩
  | v, .lst ds, ⟨p, xs, h1, h2, h3⟩ => ⟨p, xs, h1, e _ _ h2, Reps.mono e ds h3⟩
theorem Reps.mono {H H' : Hp} (e : Same H H') : ∀ {xs : List V} (ds : List Dt), Reps H xs ds → Reps H' xs ds
  | xs, [], h => h
  | xs, d :: ds, ⟨x, r, h1, h2, h3⟩ => ⟨x, r, h1, Rep.mono e d h2, Reps.mono e ds h3⟩
end
mutual
theorem Rep.inj {H : Hp} : ∀ {v : V} (d e : Dt), Rep H v d → Rep H v e → d = e
  | v, .non, e, h, h' => by
    cases h
    cases e <;> first | rfl | (simp [Rep] at h')
  | v, .bl b, e, h, h' => by
    cases h
    cases e <;> simp [Rep] at h' <;> simp [h']
  | v, .int i, e, h, h' => by
    cases h
    cases e <;> simp [Rep] at h' <;> simp [h']
  | v, .str x, e, h, h' => by
    cases h
    cases e <;> simp [Rep] at h' <;> simp [h']
  | v, .tup ds, e, ⟨p, xs, h1, h2, h3⟩, h' => by
    subst h1
    cases e with
    | tup es =>
      obtain ⟨p', xs', g1, g2, g3⟩ := h'
      cases g1
      rw [h2] at g2
      cases g2
      rw [Reps.inj ds es h3 g3]
    | lst es =>
      obtain ⟨p', xs', g1, g2, g3⟩ := h'
      cases g1
      rw [h2] at g2
      cases g2
    | _ => simp [Rep] at h'
  | v, .lst ds, e, ⟨p, xs, h1, h2, h3⟩, h' => by
    subst h1
    cases e with
    | tup es =>
      obtain ⟨p', xs', g1, g2, g3⟩ := h'
      cases g1
      rw [h2] at g2
      cases g2
    | lst es =>
      obtain ⟨p', xs', g1, g2, g3⟩ := h'
      cases g1
      rw [h2] at g2
      cases g2
      rw [Reps.inj ds es h3 g3]
    | _ => simp [Rep] at h'
theorem Reps.inj {H : Hp} : ∀ {xs : List V} (ds es : List Dt), Reps H xs ds → Reps H xs es → ds = es
  | xs, [], es, h, h' => by
    cases h
    cases es with
    | nil => rfl
    | cons e es => obtain ⟨x, r, g, _⟩ := h'; cases g
  | xs, d :: ds, es, ⟨x, r, h1, h2, h3⟩, h' => by
    subst h1
    cases es with
    | nil => cases h'
    | cons e es =>
      obtain ⟨x', r', g1, g2, g3⟩ := h'
      cases g1
      rw [Rep.inj d e h2 g2, Reps.inj ds es h3 g3]
end
theorem Reps.length {H : Hp} : ∀ {xs : List V} {ds : List Dt}, Reps H xs ds → xs.length = ds.length
  | xs, [], h => by cases h; rfl
  | xs, d :: ds, ⟨x, r, h1, h2, h3⟩ => by subst h1; simp [Reps.length h3]
theorem Reps.get {H : Hp} : ∀ {xs : List V} {ds : List Dt} {i : Nat} {d : Dt}, Reps H xs ds → ds[i]? = some d → ∃ x, xs[i]? = some x ∧ Rep H x d
  | xs, [], i, d, h, e => by simp at e
  | xs, d' :: ds, 0, d, ⟨x, r, h1, h2, h3⟩, e => by
    subst h1
    simp at e
    subst e
    exact ⟨x, rfl, h2⟩
  | xs, d' :: ds, i + 1, d, ⟨x, r, h1, h2, h3⟩, e => by
    subst h1
    obtain ⟨y, hy, hr⟩ := Reps.get (i := i) (d := d) h3 (by simpa using e)
    exact ⟨y, by simpa using hy, hr⟩
theorem Reps.append {H : Hp} : ∀ {xs : List V} {ds : List Dt} {ys : List V} {es : List Dt}, Reps H xs ds → Reps H ys es → Reps H (xs ++ ys) (ds ++ es)
  | xs, [], ys, es, h, g => by cases h; exact g
  | xs, d :: ds, ys, es, ⟨x, r, h1, h2, h3⟩, g => by subst h1; exact ⟨x, r ++ ys, rfl, h2, Reps.append h3 g⟩
mutual
noncomputable def deq : Dt → Dt → Option Bool
  | .non, .non => some true
  | .bl a, .bl b => some (a == b)
  | .int a, .int b => some (a == b)
  | .str a, .str b => some (a == b)
  | .tup xs, .tup ys => deqs xs ys
  | .lst xs, .lst ys => if xs.length = ys.length then deqs xs ys else some false
  | _, _ => none
noncomputable def deqs : List Dt → List Dt → Option Bool
  | [], [] => some true
  | x :: xs, y :: ys => match deq x y, deqs xs ys with
    | some a, some b => some (a && b)
    | _, _ => none
  | _, _ => some false
end
mutual
noncomputable def dep : Dt → Nat
  | .tup ds => deps ds + 1
  | .lst ds => deps ds + 1
  | _ => 0
noncomputable def deps : List Dt → Nat
  | [] => 0
  | d :: ds => max (dep d) (deps ds)
end
noncomputable def eAt (ds es : List Dt) (j : Nat) : Bool := match ds[j]?, es[j]? with
  | some d, some e => (deq d e).getD false
  | _, _ => false
theorem deqs_range : ∀ (ds es : List Dt) (b : Bool), deqs ds es = some b → ((List.range (min ds.length es.length)).all (eAt ds es) && ds.length == es.length) = b
  | [], [], b, h => by cases h; rfl
  | [], _ :: _, b, h => by cases h; simp
  | _ :: _, [], b, h => by cases h; simp
  | d :: ds, e :: es, b, h => by
    rw [deqs] at h
    cases h1 : deq d e with
    | none => rw [h1] at h; cases h
    | some a =>
      cases h2 : deqs ds es with
      | none => rw [h1, h2] at h; cases h
      | some c =>
        rw [h1, h2] at h
        cases h
        rw [← deqs_range ds es c h2]
        simp only [List.length_cons, Nat.succ_min_succ, List.range_succ_eq_map, List.all_cons, List.all_map, Bool.and_assoc]
        congr 1
        · simp [eAt, h1]
        · congr 1
          simp
mutual
theorem deq_self : ∀ (d : Dt) (b : Bool), deq d d = some b → b = true
  | .non, b, h => by cases h; rfl
  | .bl a, b, h => by simp [deq] at h; exact h
  | .int a, b, h => by simp [deq] at h; exact h
  | .str a, b, h => by simp [deq] at h; exact h
  | .tup xs, b, h => deqs_self xs b h
  | .lst xs, b, h => by
    rw [deq, if_pos rfl] at h
    exact deqs_self xs b h
theorem deqs_self : ∀ (ds : List Dt) (b : Bool), deqs ds ds = some b → b = true
  | [], b, h => by cases h; rfl
  | d :: ds, b, h => by
    rw [deqs] at h
    cases h1 : deq d d with
    | none => rw [h1] at h; cases h
    | some a =>
      cases h2 : deqs ds ds with
      | none => rw [h1, h2] at h; cases h
      | some c =>
        rw [h1, h2] at h
        cases h
        rw [deq_self d a h1, deqs_self ds c h2]
        rfl
end
section
variable {X : Cx} {pins : List (Addr × Obj)} {σ : St} {H : Hp} {s : Shared}
mutual
theorem eqAt_D (I : Inv X pins σ H s) : ∀ (d e : Dt) {A : Around} {x y : V} {u v : Value} {b : Bool}, Rep H x d → Rep H y e → RelV x u → RelV y v → deq d e = some b → A.units + dep d < cLine → SeqAt.EqAt A s u v b
  | .non, e, A, x, y, u, v, b, hx, hy, rx, ry, hb, hu => by
    cases e <;> first | (cases hb; cases hx; cases hy; cases rx; cases ry; exact SeqAt.EqAt.same _) | (simp [deq] at hb)
  | .bl a, e, A, x, y, u, v, b, hx, hy, rx, ry, hb, hu => by
    cases e <;> first | (cases hb; cases hx; cases hy; cases rx; cases ry; exact SeqAt.EqAt.bool_bool _ _) | (simp [deq] at hb)
  | .int a, e, A, x, y, u, v, b, hx, hy, rx, ry, hb, hu => by
    cases e <;> first | (cases hb; cases hx; cases hy; obtain ⟨t, rfl⟩ := rx; obtain ⟨t', rfl⟩ := ry; exact SeqAt.EqAt.int_int _ _ _ _) | (simp [deq] at hb)
  | .str a, e, A, x, y, u, v, b, hx, hy, rx, ry, hb, hu => by
    cases e <;> first | (cases hb; cases hx; cases hy; obtain ⟨t, rfl⟩ := rx; obtain ⟨t', rfl⟩ := ry; exact SeqAt.EqAt.str_str _ _ _ _) | (simp [deq] at hb)
  | .tup ds, e, A, x, y, u, v, b, hx, hy, rx, ry, hb, hu => by
    cases e with
    | tup es =>
      obtain ⟨p, xs, e1, hp, hr⟩ := id hx
      obtain ⟨q, ys, e2, hq, hs⟩ := id hy
      subst e1 e2
      cases rx
      cases ry
      by_cases hpq : p = q
      · subst hpq
        have := Rep.inj _ _ hx hy
        cases this
        rw [deq_self _ b hb]
        exact SeqAt.EqAt.same _
      · obtain ⟨its, r1, pl1, _⟩ := I.tuple (xs := xs) (.inl (.inl hp))
        obtain ⟨its', r2, pl2, _⟩ := I.tuple (xs := ys) (.inl (.inl hq))
        have l1 := r1.length
        have l2 := r2.length
        have g1 := hr.length
        have g2 := hs.length
        have hu' : A.in1.units + deps ds < cLine := by
          have : A.units + (deps ds + 1) < cLine := hu
          rw [PySem.Around.in1_units]; omega
        have hb' : deqs ds es = some b := hb
        rw [← deqs_range ds es b hb']
        have := SeqAt.RcAt.tuples (e := eAt ds es) (A := A) (s := s) pl1 pl2 (Nat.lt_of_le_of_lt (Nat.le_add_right _ _) hu) (fun j h1 h2 => by
          have := eqAt_Ds I ds es hr hs r1 r2 hb' hu' j (by simpa using h1) (by simpa using h2)
          simpa using this)
        simp only [List.size_toArray, ← l1, ← l2, g1, g2] at this
        exact SeqAt.EqAt.of_refs hpq this
    | _ => simp [deq] at hb
  | .lst ds, e, A, x, y, u, v, b, hx, hy, rx, ry, hb, hu => by
    cases e with
    | lst es =>
      obtain ⟨p, xs, e1, hp, hr⟩ := id hx
      obtain ⟨q, ys, e2, hq, hs⟩ := id hy
      subst e1 e2
      cases rx
      cases ry
      by_cases hpq : p = q
      · subst hpq
        have := Rep.inj _ _ hx hy
        cases this
        rw [deq_self _ b hb]
        exact SeqAt.EqAt.same _
      · obtain ⟨its, r1, pl1, _⟩ := I.list (xs := xs) (.inl (.inl hp))
        obtain ⟨its', r2, pl2, _⟩ := I.list (xs := ys) (.inl (.inl hq))
        have l1 := r1.length
        have l2 := r2.length
        have g1 := hr.length
        have g2 := hs.length
        have hu0 : A.units < cLine := Nat.lt_of_le_of_lt (Nat.le_add_right _ _) hu
        have hu' : A.in1.units + deps ds < cLine := by
          have : A.units + (deps ds + 1) < cLine := hu
          rw [PySem.Around.in1_units]; omega
        rw [deq] at hb
        by_cases hl : ds.length = es.length
        · rw [if_pos hl] at hb
          rw [← deqs_range ds es b hb]
          have := SeqAt.RcAt.lists (e := eAt ds es) (A := A) (s := s) pl1.isList pl2.isList (by simp only [List.size_toArray]; omega) hu0 (fun j h1 h2 => by
            have := eqAt_Ds I ds es hr hs r1 r2 hb hu' j (by simpa using h1) (by simpa using h2)
            simpa using this)
          simp only [List.size_toArray, ← l1, g1] at this
          refine SeqAt.EqAt.of_refs hpq ?_
          have e3 : min ds.length es.length = ds.length := by omega
          rw [e3, hl]
          simpa [hl] using this
        · rw [if_neg hl] at hb
          cases hb
          exact SeqAt.EqAt.of_refs hpq (SeqAt.RcAt.lists_lengths pl1.isList pl2.isList (by simp only [List.size_toArray, bne_iff_ne, ne_eq]; omega) hu0)
    | _ => simp [deq] at hb
theorem eqAt_Ds (I : Inv X pins σ H s) : ∀ (ds es : List Dt) {A : Around} {xs ys : List V} {us vs : List Value} {b : Bool}, Reps H xs ds → Reps H ys es → Vals xs us → Vals ys vs → deqs ds es = some b → A.units + deps ds < cLine →
    ∀ (j : Nat) (h1 : j < us.length) (h2 : j < vs.length), SeqAt.EqAt A s us[j] vs[j] (eAt ds es j)
  | [], es, A, xs, ys, us, vs, b, hx, hy, rx, ry, hb, hu, j, h1, h2 => by
    cases hx
    cases rx
    exact absurd h1 (Nat.not_lt_zero _)
  | d :: ds, es, A, xs, ys, us, vs, b, ⟨x, r, e1, hd, hr⟩, hy, rx, ry, hb, hu, j, h1, h2 => by
    subst e1
    cases es with
    | nil =>
      cases hy
      cases ry
      exact absurd h2 (Nat.not_lt_zero _)
    | cons e es =>
      obtain ⟨y, r', e2, he, hs⟩ := hy
      subst e2
      cases rx with
      | cons rx rxs =>
        cases ry with
        | cons ry rys =>
          rw [deqs] at hb
          cases g1 : deq d e with
          | none => rw [g1] at hb; cases hb
          | some a =>
            cases g2 : deqs ds es with
            | none => rw [g1, g2] at hb; cases hb
            | some c =>
              have hm : A.units + max (dep d) (deps ds) < cLine := hu
              cases j with
              | zero =>
                have := eqAt_D I d e (A := A) hd he rx ry g1 (by omega)
                simpa [eAt, g1] using this
              | succ j =>
                have := eqAt_Ds I ds es (A := A) hr hs rxs rys g2 (by omega) j (by simpa using h1) (by simpa using h2)
                simpa [eAt] using this
end
noncomputable def rEqD : R2 := fun x y H Q => ∃ p q d e b, x = .ref p ∧ y = .ref q ∧ Rep H x d ∧ Rep H y e ∧ deq d e = some b ∧ dep d ≤ 60 ∧ Q (.bl b) H
theorem op_eqD (hu : X.A.units + 64 < cLine) : OpR X (compareOp .Eq) rEqD := by
  intro pins s σ H x y v u Q I rx ry h
  obtain ⟨p, q, d, e, b, e1, e2, hx, hy, hb, hd, k⟩ := h
  subst e1 e2
  cases rx
  cases ry
  have fin : EP X pins σ Q (.bool b) s := ⟨.bl b, H, I, rfl, k⟩
  cases d with
  | tup ds =>
    cases e with
    | tup es =>
      obtain ⟨_, xs, z, hp, hr⟩ := hx
      cases z
      obtain ⟨_, ys, z, hq, hs⟩ := hy
      cases z
      obtain ⟨its, r1, pl1, _⟩ := I.tuple (xs := xs) (.inl (.inl hp))
      obtain ⟨its', r2, pl2, _⟩ := I.tuple (xs := ys) (.inl (.inl hq))
      have l1 := r1.length
      have l2 := r2.length
      have g1 := hr.length
      have g2 := hs.length
      have hd' : deps ds + 1 ≤ 60 := hd
      have hu' : X.A.in1.units + deps ds < cLine := by rw [PySem.Around.in1_units]; omega
      have hb' : deqs ds es = some b := hb
      refine SeqAt.eq_tupleAt (e := eAt ds es) pl1 pl2 (by omega) (fun j h1 h2 => by
        have := eqAt_Ds I ds es hr hs r1 r2 hb' hu' j (by simpa using h1) (by simpa using h2)
        simpa using this) ?_
      simp only [List.size_toArray, ← l1, ← l2, g1, g2]
      rw [deqs_range ds es b hb']
      exact fin
    | _ => simp [deq] at hb
  | lst ds =>
    cases e with
    | lst es =>
      obtain ⟨_, xs, z, hp, hr⟩ := hx
      cases z
      obtain ⟨_, ys, z, hq, hs⟩ := hy
      cases z
      obtain ⟨its, r1, pl1, _⟩ := I.list (xs := xs) (.inl (.inl hp))
      obtain ⟨its', r2, pl2, _⟩ := I.list (xs := ys) (.inl (.inl hq))
      have l1 := r1.length
      have l2 := r2.length
      have g1 := hr.length
      have g2 := hs.length
      have hd' : deps ds + 1 ≤ 60 := hd
      have hu' : X.A.in1.units + deps ds < cLine := by rw [PySem.Around.in1_units]; omega
      rw [deq] at hb
      by_cases hl : ds.length = es.length
      · rw [if_pos hl] at hb
        refine SeqAt.eq_listAt (e := eAt ds es) pl1.isList pl2.isList (by simp only [List.size_toArray]; omega) (by omega) (fun j h1 h2 => by
          have := eqAt_Ds I ds es hr hs r1 r2 hb hu' j (by simpa using h1) (by simpa using h2)
          simpa using this) ?_
        have e3 := deqs_range ds es b hb
        have e4 : min ds.length es.length = ds.length := by omega
        rw [e4, hl] at e3
        simp only [beq_self_eq_true, Bool.and_true] at e3
        simp only [List.size_toArray, ← l1, g1, hl, e3]
        exact fin
      · rw [if_neg hl] at hb
        cases hb
        exact SeqAt.eq_list_lengthsAt pl1.isList pl2.isList (by simp only [List.size_toArray, bne_iff_ne, ne_eq]; omega) (by omega) fin
    | _ => simp [deq] at hb
  | _ => simp [Rep] at hx
noncomputable def rNeD : R2 := fun x y H Q => ∃ p q d e b, x = .ref p ∧ y = .ref q ∧ Rep H x d ∧ Rep H y e ∧ deq d e = some b ∧ dep d ≤ 60 ∧ Q (.bl (!b)) H
theorem op_neD (hu : X.A.units + 64 < cLine) : OpR X (compareOp .NotEq) rNeD := by
  intro pins s σ H x y v u Q I rx ry h
  obtain ⟨p, q, d, e, b, e1, e2, hx, hy, hb, hd, k⟩ := h
  subst e1 e2
  cases rx
  cases ry
  have fin : EP X pins σ Q (.bool (!b)) s := ⟨.bl (!b), H, I, rfl, k⟩
  cases d with
  | tup ds =>
    cases e with
    | tup es =>
      obtain ⟨_, xs, z, hp, hr⟩ := hx
      cases z
      obtain ⟨_, ys, z, hq, hs⟩ := hy
      cases z
      obtain ⟨its, r1, pl1, _⟩ := I.tuple (xs := xs) (.inl (.inl hp))
      obtain ⟨its', r2, pl2, _⟩ := I.tuple (xs := ys) (.inl (.inl hq))
      have l1 := r1.length
      have l2 := r2.length
      have g1 := hr.length
      have g2 := hs.length
      have hd' : deps ds + 1 ≤ 60 := hd
      have hu' : X.A.in1.units + deps ds < cLine := by rw [PySem.Around.in1_units]; omega
      have hb' : deqs ds es = some b := hb
      refine SeqAt.RcNeAt.tuples (e := eAt ds es) pl1 pl2 (by omega) (fun j h1 h2 => by
        have := eqAt_Ds I ds es hr hs r1 r2 hb' hu' j (by simpa using h1) (by simpa using h2)
        simpa using this) _ _ _ _ ?_
      simp only [List.size_toArray, ← l1, ← l2, g1, g2]
      rw [deqs_range ds es b hb']
      exact fin
    | _ => simp [deq] at hb
  | lst ds =>
    cases e with
    | lst es =>
      obtain ⟨_, xs, z, hp, hr⟩ := hx
      cases z
      obtain ⟨_, ys, z, hq, hs⟩ := hy
      cases z
      obtain ⟨its, r1, pl1, _⟩ := I.list (xs := xs) (.inl (.inl hp))
      obtain ⟨its', r2, pl2, _⟩ := I.list (xs := ys) (.inl (.inl hq))
      have l1 := r1.length
      have l2 := r2.length
      have g1 := hr.length
      have g2 := hs.length
      have hd' : deps ds + 1 ≤ 60 := hd
      have hu' : X.A.in1.units + deps ds < cLine := by rw [PySem.Around.in1_units]; omega
      rw [deq] at hb
      by_cases hl : ds.length = es.length
      · rw [if_pos hl] at hb
        refine SeqAt.RcNeAt.lists (e := eAt ds es) pl1.isList pl2.isList (by simp only [List.size_toArray]; omega) (by omega) (fun j h1 h2 => by
          have := eqAt_Ds I ds es hr hs r1 r2 hb hu' j (by simpa using h1) (by simpa using h2)
          simpa using this) _ _ _ _ ?_
        have e3 := deqs_range ds es b hb
        have e4 : min ds.length es.length = ds.length := by omega
        rw [e4, hl] at e3
        simp only [beq_self_eq_true, Bool.and_true] at e3
        simp only [List.size_toArray, ← l1, g1, hl, e3]
        exact fin
      · rw [if_neg hl] at hb
        cases hb
        exact SeqAt.RcNeAt.lists_lengths pl1.isList pl2.isList (by simp only [List.size_toArray, bne_iff_ne, ne_eq]; omega) (by omega) _ _ _ _ fin
    | _ => simp [deq] at hb
  | _ => simp [Rep] at hx
end
end L2
set_option Elab.async false
set_option linter.all false
set_option maxRecDepth 100000
set_option maxHeartbeats 1000000
namespace L2
open PySem PySem.Spec PyProof.Rows
section
variable {X : Cx} {pins : List (Addr × Obj)} {σ : St} {H : Hp} {s : Shared} {h' : Heap}
theorem Inv.turnedL {t' : Nat} {ch : List Addr} (I : Inv X pins σ H s) (k : ∀ b o, b ∉ ch → s.heap.get? b = some o → h'.get? b = some o) (hf : ∀ b ∈ ch, FpOk X pins H b) : Inv X pins σ H { s with heap := h', toks := t' } := by
  have nit : ∀ b u, H b = some u → b ∉ ch := fun b u e z => by rw [(hf b z).1] at e; cases e
  refine I.step (g' := s.gens) (d' := s.drawn) (ch := ch) (fun b hb => ?_) (fun b o _ _ hc e _ => k b o hc e) (fun b o _ _ hc e _ => ⟨o.slots, k b o hc e⟩) (fun _ _ _ _ n => n)
    (fun b o hc e => ⟨o, k b o hc e⟩) (fun _ _ e => e) (fun _ _ _ e => e) (fun b ps e => ⟨#[], by rw [e]; simp⟩) (fun m hm => ?_) (fun b u e => ?_) I.bare
  · obtain ⟨g0, g1, g2, g3, g4, g5⟩ := hf b hb
    exact ⟨g3, g1, g4, g5⟩
  · obtain ⟨o, es, ep, ho, r⟩ := hm
    exact ⟨o, es, ep, k _ o (fun z => (hf _ z).2.1 rfl) ho, r⟩
  · refine (I.hok b u e).stay (fun c v hc q => k c v ?_ q) (fun _ q => q) fun _ _ q => q
    rcases hc with z | z
    · rw [z]; exact nit b u e
    · exact nit c _ z
end
noncomputable def Itz (K : PySem.W.Frag) (a b : Addr) : It :=
  ⟨fun i H => ∃ xs ys x y, SqL K H a xs ∧ SqL K H b ys ∧ xs[i]? = some x ∧ ys[i]? = some y,
   fun i H v H' => ∃ T x y, v = .ref T ∧ H T = none ∧ H' = upd H T (.tup [x, y]) ∧ (∀ xs, SqL K H a xs → xs[i]? = some x) ∧ (∀ ys, SqL K H b ys → ys[i]? = some y),
   fun i H => ∃ xs ys, SqL K H a xs ∧ SqL K H b ys ∧ (xs.length ≤ i ∨ ys.length ≤ i)⟩
noncomputable def ZipAt (z TI TO i1 i2 l1 l2 : Addr) (i : Nat) (h : Heap) : Prop := IsZip h z TI TO .none ∧ IsPair h TI (.ref i1) (.ref i2) ∧ (∃ a b, IsPair h TO a b) ∧ h.IsListIter i1 l1 i ∧ h.IsListIter i2 l2 i
theorem turn_zip {P : Program} {w : World} {K : PySem.W.Frag} {elts : List Expr} {kt : Nat} {tpos : Pos} {z TI TO i1 i2 l1 l2 : Addr} (D : ZipApart z TI TO i1 i2 l1 l2) :
    Turn P w K (.Tuple elts kt tpos) (Itz K l1 l2) [z, TI, TO, i1, i2] z (ZipAt z TI TO i1 i2 l1 l2) where
  mem := by simp
  obj := fun i h st b hb => by
    obtain ⟨s1, s2, ⟨a, c, s3⟩, ⟨o4, s4, c4, d4⟩, ⟨o5, s5, c5, d5⟩⟩ := st
    simp only [List.mem_cons, List.not_mem_nil, or_false] at hb
    rcases hb with rfl | rfl | rfl | rfl | rfl
    · exact ⟨_, s1, fun v e => by cases (show Data.fields _ = Data.cell v from e)⟩
    · exact ⟨_, s2, fun v e => by cases (show Data.seq _ _ = Data.cell v from e)⟩
    · exact ⟨_, s3, fun v e => by cases (show Data.seq _ _ = Data.cell v from e)⟩
    · exact ⟨o4, s4, fun v e => by rw [d4] at e; cases e⟩
    · exact ⟨o5, s5, fun v e => by rw [d5] at e; cases e⟩
  keep := fun i h h' st k => by
    obtain ⟨s1, s2, ⟨a, c, s3⟩, s4, s5⟩ := st
    exact ⟨k z (by simp) _ s1, k TI (by simp) _ s2, ⟨a, c, k TO (by simp) _ s3⟩, s4.at fun o e => k i1 (by simp) o e, s5.at fun o e => k i2 (by simp) o e⟩
  item := by
    intro X hP hw hK hc i pins s σ H E I hf st hg
    subst hP hw hK
    obtain ⟨xs, ys, x, y, hq1, hq2, hx, hy⟩ := hg
    obtain ⟨its1, rv1, p1, z1⟩ := I.list hq1
    obtain ⟨its2, rv2, p2, z2⟩ := I.list hq2
    obtain ⟨u1, hu1, ru1⟩ := rv1.get hx
    obtain ⟨u2, hu2, ru2⟩ := rv2.get hy
    obtain ⟨s1, s2, ⟨a, c, s3⟩, s4, s5⟩ := id st
    refine wpAny_pyNext_zip_item D s1 s2 s3 s4 s5 p1.isList p2.isList (x := u1) (y := u2) (by simpa using hu1) (by simpa using hu2) fun h' g1 g2 g3 g4 g5 g6 g7 => ?_
    refine ⟨_, rfl, wpAny_letOwnedTupleGo_zip g1 fun h'' k1 k2 => ?_⟩
    have lt : ∀ b ∈ [z, TI, TO, i1, i2], b < s.heap.objs.size := fun b hb => by
      simp only [List.mem_cons, List.not_mem_nil, or_false] at hb
      rcases hb with rfl | rfl | rfl | rfl | rfl
      · exact Heap.lt_size s1
      · exact Heap.lt_size s2
      · exact Heap.lt_size s3
      · obtain ⟨o, e, _⟩ := s4; exact Heap.lt_size e
      · obtain ⟨o, e, _⟩ := s5; exact Heap.lt_size e
    have hT : H s.heap.objs.size = none := I.hok.fresh (Nat.le_refl _)
    have I1 : Inv X pins σ (upd H s.heap.objs.size (.tup [x, y])) { s with heap := s.heap.push { cls := .type "tuple", data := .seq #[u1, u2] } } :=
      I.laid (t' := s.toks) (fun b u e => Heap.get?_push_of_some _ e) (Nat.le_refl _) ⟨by show 2 ≤ sizeLine; decide, [u1, u2], .cons ru1 (.cons ru2 .nil), ⟨_, Heap.get?_push_size _ rfl, rfl, _, rfl⟩⟩
    have f1 : ∀ b ∈ [z, TI, TO, i1, i2], FpOk X pins (upd H s.heap.objs.size (.tup [x, y])) b := fun b hb => ⟨by rw [upd_ne (Nat.ne_of_lt (lt b hb))]; exact (hf b hb).1, (hf b hb).2⟩
    have I2 : Inv X pins σ (upd H s.heap.objs.size (.tup [x, y])) { s with heap := h'' } := by
      refine Inv.turnedL (s := { s with heap := s.heap.push { cls := .type "tuple", data := .seq #[u1, u2] } }) (ch := [z, TI, TO, i1, i2]) (t' := s.toks) I1 (fun b o hb e => ?_) f1
      simp only [List.mem_cons, List.not_mem_nil, or_false, not_or] at hb
      refine k2.extBut b o hb.1 ?_
      by_cases hbT : b = s.heap.objs.size
      · subst hbT
        have e' : (s.heap.push { cls := .type "tuple", data := .seq #[u1, u2] }).get? s.heap.objs.size = some o := e
        rw [Heap.get?_push_size _ rfl] at e'
        cases e'
        exact g5
      · have hb2 : s.heap.get? b = some o := by
          have e' : (s.heap.push { cls := .type "tuple", data := .seq #[u1, u2] }).get? b = some o := e
          exact (Heap.get?_push_ne _ _ _ hbT).symm.trans e'
        exact g7 b o hb.1 hb.2.2.1 hb.2.2.2.1 hb.2.2.2.2 hb2
    refine ⟨.ref s.heap.objs.size, _, I2, rfl, ⟨_, x, y, rfl, hT, rfl, fun xs' h' => by rw [I.list_inj h' hq1]; exact hx, fun ys' h' => by rw [I.list_inj h' hq2]; exact hy⟩, ?_, fun b hb => (f1 b hb).1⟩
    refine ⟨k1, ?_, ?_, ?_, ?_⟩
    · exact k2.extBut _ _ D.TIz (g7 _ _ D.TIz D.TITO D.TIi1 D.TIi2 s2)
    · exact ⟨u1, u2, k2.extBut _ _ D.TOz g2⟩
    · exact g3.at fun o e => k2.extBut _ _ D.i1z e
    · exact g4.at fun o e => k2.extBut _ _ D.i2z e
  done := by
    intro X hP hw hK hc i pins s σ H E I hf st hg
    subst hP hw hK
    obtain ⟨xs, ys, hq1, hq2, he⟩ := hg
    obtain ⟨its1, rv1, p1, z1⟩ := I.list hq1
    obtain ⟨its2, rv2, p2, z2⟩ := I.list hq2
    obtain ⟨s1, s2, ⟨a, c, s3⟩, s4, s5⟩ := id st
    have l1 := rv1.length
    have l2 := rv2.length
    refine wpAny_pyNext_zip_end (I.ok.hd hc) D s1 s2 s3 s4 s5 p1.isList p2.isList (by
      rcases he with he | he
      · exact .inl (by simp; (clear l2 s5 s4 s3 s2 s1 z2 p2 rv2 z1 p1 rv1 hq2 hq1 st hf I hc D; omega))
      · exact .inr (by simp; (clear l1 s5 s4 s3 s2 s1 z2 p2 rv2 z1 p1 rv1 hq2 hq1 st hf I hc D; omega))) fun h' k => ⟨rfl, ?_⟩
    refine Inv.turnedL (ch := [z, TI, TO, i1, i2]) (t' := s.toks) I (fun b o hb e => ?_) hf
    simp only [List.mem_cons, List.not_mem_nil, or_false, not_or] at hb
    exact k b o hb.1 hb.2.2.1 hb.2.2.2.1 hb.2.2.2.2 e
  self := fun _ _ _ _ _ st h => wpAny_pyIter_zip st.1 h
noncomputable def iZip (K : PySem.W.Frag) (ta : TA) : TI := fun σ H R => ta σ H fun vs H1 => ∃ a b, vs = [.ref a, .ref b] ∧ (∃ xs, SqL K H1 a xs) ∧ (∃ ys, SqL K H1 b ys) ∧ R (Itz K a b) H1
section
variable {X : Cx} {elts : List Expr} {kt : Nat} {tpos : Pos}
theorem pi_zip {K : PySem.W.Frag} {a b : Expr} {ta : TA} {p pos : Pos} (hK : X.K = K) (hg : Gl X "zip") (hm : X.mg "zip" = none) (ha : PA X [a, b] ta) (hs : plainArgs [a, b] = true := by rfl) : PI X (.Tuple elts kt tpos) (.Call (.Name "zip" p) [a, b] [] pos) (iZip K ta) := by
  subst hK
  intro pins s σ H R I h
  have h' : notStar a = true ∧ plainArgs [b] = true := by simpa [plainArgs] using hs
  refine Call_ (ld_blt I hg hm bt_zip (PyProof.Rows.callWith_type1 (thn (ha pos pins s σ H _ I h) fun us s1 ⟨vs, H1, I1, r1, q1⟩ => ?_) (starEach_plain h'.1) (backTo_plain h'.2)))
  obtain ⟨l1, l2, e, ⟨xs, hx⟩, ⟨ys, hy⟩, q⟩ := q1
  subst e
  obtain ⟨u1, u2, rfl, e1, e2⟩ := vals2 r1
  cases e1
  cases e2
  obtain ⟨its1, rv1, p1, z1⟩ := I1.list hx
  obtain ⟨its2, rv2, p2, z2⟩ := I1.list hy
  have hl1 : l1 < s1.heap.objs.size := by obtain ⟨o, e, _⟩ := p1.isList; exact Heap.lt_size e
  have hl2 : l2 < s1.heap.objs.size := by obtain ⟨o, e, _⟩ := p2.isList; exact Heap.lt_size e
  refine call_zip_2 p1.isList p2.isList fun h' g1 g2 g3 g4 g5 g6 g7 => ?_
  have I2 : Inv X pins σ H1 { s1 with heap := h' } := I1.kept (t' := s1.toks) g7
  refine wpAny_pyIter_zip g1 ⟨_, [s1.heap.objs.size + 4, s1.heap.objs.size + 2, s1.heap.objs.size + 3, s1.heap.objs.size, s1.heap.objs.size + 1], _, Itz X.K l1 l2, H1, rfl, I2, turn_zip (zipApart_new hl1 hl2), ⟨g1, g2, ⟨_, _, g3⟩, g4, g5⟩, fun b hb => ?_, q⟩
  have hb' : s1.heap.objs.size ≤ b := by
    simp only [List.mem_cons, List.not_mem_nil, or_false] at hb
    rcases hb with rfl | rfl | rfl | rfl | rfl <;> first | exact Nat.le_add_right _ _ | exact Nat.le_refl _
  exact I1.fpOk hb' (I1.hok.fresh hb')
end
noncomputable def rSum (K : PySem.W.Frag) : List V → Hp → VK → Prop := fun xs H Q => ∃ (p : Addr) (ns : List Int), xs = [V.ref p] ∧ SqL K H p (ns.map V.int) ∧ Q (.int ns.sum) H
noncomputable def rListH : List V → Hp → VK → Prop := fun xs H Q => ∃ p ys, xs = [V.ref p] ∧ (H p = some (.lst ys) ∨ H p = some (.tup ys)) ∧ ∀ l, H l = none → Q (.ref l) (upd H l (.lst ys))
theorem call_listH {X : Cx} : CallR X (.type "list") rListH := by
  intro pins s σ H xs us Q I r h
  obtain ⟨p, ys, e, hp, q⟩ := h
  exact call_list_of pins s σ H xs us Q I r ⟨p, ys, e, hp.imp (fun z => .inl (.inl z)) (fun z => .inl (.inl z)), q⟩
theorem pe_callT {X : Cx} {x : Str} {e : Expr} {es : List Expr} {t : TA} {p pos : Pos} {n : String} {r : List V → Hp → VK → Prop} (hc : CallR X (.type n) r) (hg : Gl X x) (hm : X.mg x = none) (hv : bootBuiltins x = some (.type n)) (ha : PA X (e :: es) t) (hs : plainArgs (e :: es) = true := by rfl) (hn : x ≠ "__name__" := by decide) (hdb : (x == ("__debug__" : Str)) = false := by decide) :
    PE X (.Call (.Name x p) (e :: es) [] pos) (tCB r t) :=
  have h' : notStar e = true ∧ plainArgs es = true := by simpa [plainArgs] using hs
  pe_callTy hc hg hm hv ha hn hdb (starEach_plain h'.1) (backTo_plain h'.2)
end L2
set_option linter.all false
namespace RimM
noncomputable def nf (t b : Int) : Int × Int := if b < 0 then (t / -(Int.gcd t b : Int), b / -(Int.gcd t b : Int)) else (t / (Int.gcd t b : Int), b / (Int.gcd t b : Int))
theorem gpos {t b : Int} (hb : b ≠ 0) : 0 < (Int.gcd t b : Int) := by
  have := Int.gcd_pos_of_ne_zero_right t hb
  omega
theorem nf_neg {t b : Int} (h : b < 0) : nf t b = nf (-t) (-b) := by
  have e : Int.gcd (-t) (-b) = Int.gcd t b := by rw [Int.gcd_neg, Int.neg_gcd]
  unfold nf
  rw [if_pos h, if_neg (by omega), e, Int.ediv_neg, Int.ediv_neg, Int.neg_ediv_of_dvd (Int.gcd_dvd_left ..), Int.neg_ediv_of_dvd (Int.gcd_dvd_right ..)]
theorem nf_pos {t b : Int} (h : 0 < b) : nf t b = (t / (Int.gcd t b : Int), b / (Int.gcd t b : Int)) := by
  unfold nf
  rw [if_neg (by omega)]
structure Low (p : Int × Int) : Prop where
  pos : 0 < p.2
  co : Int.gcd p.1 p.2 = 1
theorem nf_low {t b : Int} (hb : b ≠ 0) : Low (nf t b) ∧ t * (nf t b).2 = (nf t b).1 * b := by
  have key : ∀ {t b : Int}, 0 < b → Low (nf t b) ∧ t * (nf t b).2 = (nf t b).1 * b := fun {t b} h => by
    have g := gpos (t := t) (b := b) (by omega)
    rw [nf_pos h]
    refine ⟨⟨Int.ediv_pos_of_pos_of_dvd h (Int.le_of_lt g) (Int.gcd_dvd_right ..), Int.gcd_ediv_gcd_ediv_gcd (by omega)⟩, ?_⟩
    show t * (b / (Int.gcd t b : Int)) = t / (Int.gcd t b : Int) * b
    obtain ⟨x, hx⟩ := Int.gcd_dvd_left (a := t) (b := b)
    obtain ⟨y, hy⟩ := Int.gcd_dvd_right (a := t) (b := b)
    have e1 : t / (Int.gcd t b : Int) = x := by
      conv => lhs; arg 1; rw [hx]
      exact Int.mul_ediv_cancel_left _ (by (clear hy hx h hb; omega))
    have e2 : b / (Int.gcd t b : Int) = y := by
      conv => lhs; arg 1; rw [hy]
      exact Int.mul_ediv_cancel_left _ (by (clear e1 hy hx h hb; omega))
    rw [e1, e2]
    conv => lhs; arg 1; rw [hx]
    conv => rhs; arg 2; rw [hy]
    rw [Int.mul_assoc, Int.mul_left_comm]
  rcases Int.lt_or_lt_of_ne hb with h | h
  · rw [nf_neg h]
    obtain ⟨a, e⟩ := key (t := -t) (b := -b) (by omega)
    refine ⟨a, ?_⟩
    rw [Int.neg_mul, Int.mul_neg] at e
    (clear a h key hb; omega)
  · exact key h
theorem dvd_co {k n m : Int} (h : k ∣ n * m) (g : Int.gcd k n = 1) : k ∣ m := by
  have := Int.dvd_gcd_mul_iff_dvd_mul.mpr h
  rw [g] at this
  simpa using this
theorem low_eq {p q : Int × Int} (hp : Low p) (hq : Low q) (h : p.1 * q.2 = q.1 * p.2) : p = q := by
  have d1 : p.2 ∣ q.2 := by
    have : p.2 ∣ p.1 * q.2 := ⟨q.1, by rw [h, Int.mul_comm]⟩
    exact dvd_co this (by rw [Int.gcd_comm]; exact hp.co)
  have d2 : q.2 ∣ p.2 := by
    have : q.2 ∣ q.1 * p.2 := ⟨p.1, by rw [← h, Int.mul_comm]⟩
    exact dvd_co this (by rw [Int.gcd_comm]; exact hq.co)
  have e : p.2 = q.2 := Int.dvd_antisymm (Int.le_of_lt hp.pos) (Int.le_of_lt hq.pos) d1 d2
  have e1 : p.1 = q.1 := by
    rw [e] at h
    exact Int.eq_of_mul_eq_mul_right (by have := hq.pos; (clear e d2 d1 h hq hp; omega)) h
  exact Prod.ext e1 e
theorem nf_eq {t b t' b' : Int} (hb : b ≠ 0) (hb' : b' ≠ 0) (h : t * b' = t' * b) : nf t b = nf t' b' := by
  obtain ⟨l, e⟩ := nf_low (t := t) hb
  obtain ⟨l', e'⟩ := nf_low (t := t') hb'
  refine low_eq l l' ?_
  have : ((nf t b).1 * (nf t' b').2) * (b * b') = ((nf t' b').1 * (nf t b).2) * (b * b') := by
    calc ((nf t b).1 * (nf t' b').2) * (b * b') = ((nf t b).1 * b) * ((nf t' b').2 * b') := by ac_rfl
      _ = (t * (nf t b).2) * ((nf t' b').2 * b') := by rw [e]
      _ = (t * b') * ((nf t b).2 * (nf t' b').2) := by ac_rfl
      _ = (t' * b) * ((nf t b).2 * (nf t' b').2) := by rw [h]
      _ = (t' * (nf t' b').2) * ((nf t b).2 * b) := by ac_rfl
      _ = ((nf t' b').1 * b') * ((nf t b).2 * b) := by rw [e']
      _ = ((nf t' b').1 * (nf t b).2) * (b * b') := by ac_rfl
  exact Int.eq_of_mul_eq_mul_right (Int.mul_ne_zero hb hb') this
theorem nf_of_low {p : Int × Int} (h : Low p) : nf p.1 p.2 = p := by
  rw [nf_pos h.pos, h.co]
  simp
end RimM
set_option Elab.async false
set_option linter.all false
set_option maxRecDepth 100000
set_option maxHeartbeats 1000000
namespace L2
open PySem PySem.Spec PyProof.Rows
noncomputable def newH (B H : Hp) : Hp := fun b => match B b with | some _ => none | none => H b
noncomputable def cutH (B : Hp) (D : Addr) (H : Hp) : Hp := fun b => if b = D then none else newH B H b
theorem newH_of {B H : Hp} {b : Addr} {o : HO} (h : newH B H b = some o) : B b = none ∧ H b = some o := by
  unfold newH at h
  cases e : B b with
  | some z => rw [e] at h; cases h
  | none => rw [e] at h; exact ⟨rfl, h⟩
theorem newH_at {B H : Hp} {b : Addr} (h : B b = none) : newH B H b = H b := by
  unfold newH
  rw [h]
theorem cutH_of {B H : Hp} {D b : Addr} {o : HO} (h : cutH B D H b = some o) : b ≠ D ∧ B b = none ∧ H b = some o := by
  unfold cutH at h
  by_cases e : b = D
  · rw [if_pos e] at h; cases h
  · rw [if_neg e] at h; exact ⟨e, newH_of h⟩
theorem cutH_at {B H : Hp} {D b : Addr} (e : b ≠ D) (h : B b = none) : cutH B D H b = H b := by
  unfold cutH
  rw [if_neg e, newH_at h]
theorem newH_same {B H : Hp} : Same (newH B H) H := fun b o h => (newH_of h).2
theorem cutH_same {B H : Hp} {D : Addr} : Same (cutH B D H) H := fun b o h => (cutH_of h).2.2
theorem cutH_new {B H : Hp} {D : Addr} : Same (cutH B D H) (newH B H) := fun b o h => by
  obtain ⟨h1, h2, h3⟩ := cutH_of h
  rw [newH_at h2]; exact h3
theorem cutH_mono {B H H' : Hp} {D : Addr} (e : Same H H') : Same (cutH B D H) (cutH B D H') := fun b o h => by
  obtain ⟨h1, h2, h3⟩ := cutH_of h
  rw [cutH_at h1 h2]; exact e _ _ h3
theorem newH_mono {B H H' : Hp} (e : Same H H') : Same (newH B H) (newH B H') := fun b o h => by
  obtain ⟨h1, h2⟩ := newH_of h
  rw [newH_at h1]; exact e _ _ h2
theorem newH_less {B B' H : Hp} (e : Same B B') : Same (newH B' H) (newH B H) := fun b o h => by
  obtain ⟨h1, h2⟩ := newH_of h
  rw [newH_at (e.free h1)]; exact h2
theorem cutH_upd {B H : Hp} {D : Addr} {o : HO} : cutH B D (upd H D o) = cutH B D H := by
  funext b
  unfold cutH newH
  by_cases e : b = D
  · rw [if_pos e, if_pos e]
  · rw [if_neg e, if_neg e, upd_ne e]
theorem new_cut {B H H3 : Hp} {D : Addr} (hB : Same B H) (hD : ∃ o, H D = some o) : Same (newH H H3) (cutH B D H3) := fun b o h => by
  obtain ⟨h1, h2⟩ := newH_of h
  obtain ⟨z, hz⟩ := hD
  rw [cutH_at (ne_of_none hz h1).symm (hB.free h1)]
  exact h2
theorem old_cut {H H3 : Hp} {D : Addr} (hs : Same H H3) (hD : H D = none) : Same H (cutH (fun _ => none) D H3) := fun b o h => by
  rw [cutH_at (ne_of_none h hD) rfl]
  exact hs _ _ h
theorem comp_any {J : It} {g : TG} {te : TE} {σ : St} {H : Hp} {Q : VK} (n : Nat) (B : Hp) (Pσ : St → Prop) (ds : List Dt) (hB : Same B H) (h0 : Pσ σ) (hlen : ds.length = n) (hz : n ≤ 1000)
    (hgo : ∀ i H', i < n → Same H H' → J.go i H') (hst : ∀ H', Same H H' → J.stop n H')
    (hs : ∀ D i x d σ' H' H'', H D = none → (∃ o, H' D = some o) → Same H H' → i < n → ds[i]? = some d → J.yld i H' x H'' → Pσ σ' → ∀ R : St → V → Hp → Prop,
      (∀ σ2 v H3, Pσ σ2 → Same H' H3 → Rep (cutH B D H3) v d → R σ2 v H3) → g x σ' H'' fun σ2 H2 => te σ2 H2 fun v H3 => R σ2 v H3)
    (hd : ∀ D H', H D = none → Same H H' → Rep (newH B H') (.ref D) (.lst ds) → Q (.ref D) H') : CompGo J g tYes te σ H Q := by
  intro D hD
  have hBD : B D = none := hB.free hD
  refine ⟨fun i m σ' H' => m = n - i ∧ i ≤ n ∧ Pσ σ' ∧ Same H H' ∧ ∃ ys, H' D = some (.lst ys) ∧ Reps (cutH B D H') ys (ds.take i) ∧ ys.length = i, ⟨n, by simp, Nat.zero_le _, h0, Same.new hD, [], upd_same, rfl, rfl⟩, ?_⟩
  rintro i m σ' H' ⟨rfl, hi, hp, hs', ys, hys, hr, hl⟩
  by_cases hlt : i < n
  · refine .inr ⟨hgo i H' hlt hs', fun σ2 H2 => Pσ σ2 ∧ Same H H2 ∧ ∃ ys, H2 D = some (.lst ys) ∧ Reps (cutH B D H2) ys (ds.take (i + 1)) ∧ ys.length = i + 1, fun σ2 H2 ⟨a, b, c⟩ => ⟨n - (i + 1), by (clear c b a hr hys hs' hp hi hBD hD hd hs hst hgo hz hlen h0 hB; omega), rfl, hlt, a, b, c⟩, fun x H'' hy => ?_⟩
    have hdi : ds[i]? = some ds[i] := by simp [hlen, hlt]
    simp only [tYes, if_true]
    refine hs D i x ds[i] σ' H' H'' hD ⟨_, hys⟩ hs' hlt hdi hy hp _ fun σ2 v H3 hp2 s3 hv => ?_
    refine ⟨ys, s3 _ _ hys, by rw [hl]; exact small1000 (by (clear hv s3 hp2 hdi hy hr hys hs' hp hi hBD hD hd hs hst hgo h0 hB; omega)), hp2, (hs'.trans s3).upd hD, ys ++ [v], upd_same, ?_, by simp [hl]⟩
    rw [cutH_upd]
    have e : ds.take (i + 1) = ds.take i ++ [ds[i]] := by rw [List.take_succ, hdi]; rfl
    rw [e]
    exact (Reps.mono (cutH_mono s3) _ hr).append ⟨v, [], rfl, hv, rfl⟩
  · have e : i = n := by (clear hr hys hs' hp hBD hD hd hs hst hgo hz hlen h0 hB; omega)
    subst e
    refine .inl ⟨hst H' hs', hd D H' hD hs' ⟨D, ys, rfl, ?_, ?_⟩⟩
    · rw [newH_at hBD]; exact hys
    · rw [List.take_of_length_le (by (clear hlt hi hs hst hgo hz hl hr hys hs' hp hBD hD hd h0 hB; omega))] at hr
      exact Reps.mono cutH_new _ hr
theorem Reps.of_get {H : Hp} {xs : List V} {ds : List Dt} {i : Nat} {x : V} (h : Reps H xs ds) (e : xs[i]? = some x) : ∃ d, ds[i]? = some d ∧ Rep H x d := by
  have hi : i < xs.length := (List.getElem?_eq_some_iff.mp e).1
  have hi' : i < ds.length := by rw [← h.length]; exact hi
  obtain ⟨y, hy, hr⟩ := h.get (i := i) (d := ds[i]) (by simp [hi'])
  rw [e] at hy
  cases hy
  exact ⟨ds[i], by simp [hi'], hr⟩
theorem pg_tupK {X : Cx} {K : PySem.W.Frag} {es : List Expr} {k : Nat} {t : TGs} {n : Nat} {pos : Pos} (hK : X.K = K) (hc : X.calm = true) (h : PGs X es t)
    (hn : (assignEach es X.env).length = n := by rfl) (hst : (assignEach es X.env).findIdx? (·.1) = none := by rfl) : PG X (.Tuple es k pos) (gTup K n t) := hK ▸ pg_tup hc h hn hst
noncomputable def onlyH (D : Addr) (o : HO) : Hp := fun b => if b = D then some o else none
theorem only_same {H : Hp} {D : Addr} {o : HO} (h : H D = some o) : Same (onlyH D o) H := fun b z e => by
  unfold onlyH at e
  by_cases q : b = D
  · rw [if_pos q] at e; cases e; rw [q]; exact h
  · rw [if_neg q] at e; cases e
theorem new_only {H : Hp} {D : Addr} {o : HO} : Same (newH (onlyH D o) H) (cutH (fun _ => none) D H) := fun b z e => by
  obtain ⟨h1, h2⟩ := newH_of e
  have hb : b ≠ D := fun q => by
    unfold onlyH at h1
    rw [if_pos q] at h1; cases h1
  rw [cutH_at hb rfl]; exact h2
theorem old_only {H H3 : Hp} {D D2 : Addr} {o : HO} (hs : Same H H3) (h1 : H D = none) (h2 : H D2 = none) : Same H (cutH (onlyH D o) D2 H3) := fun b z e => by
  rw [cutH_at (ne_of_none e h2) (by unfold onlyH; rw [if_neg (ne_of_none e h1)])]
  exact hs _ _ e
end L2
set_option Elab.async false
set_option linter.all false
set_option maxRecDepth 100000
namespace L2
open PySem PySem.Spec PyProof.Rows
noncomputable def CXR (P : Program) (w : World) : CXT := fun outer H s E e s' =>
  ∃ (ea : Addr) (C a0 : Value) (B : Heap) (H' : Hp), e = .ref ea ∧ s'.os = s.os ∧ AllBare s'.gens ∧ Un (frs outer) [] H H' s.heap s'.heap ∧ HOk P w H' s'.heap ∧
    Heap.FlyingW B outer ea C a0 s'.heap ∧ s.heap.get? ea = none ∧ (∀ b o, s.heap.get? b = some o → b ∉ frs outer → ∃ u, B.get? b = some u) ∧ (∀ b o, H' b = some o → ∃ u, B.get? b = some u) ∧ E C none H'
theorem ObjOk.obj {P : Program} {w : World} {H : Hp} {h : Heap} {a : Addr} {o : HO} (x : ObjOk P w H h a o) : ∃ u, h.get? a = some u := by
  cases o with
  | lst xs => obtain ⟨_, _, _, _, e⟩ := x; exact ⟨_, e⟩
  | tup xs => obtain ⟨_, _, _, ob, e, _⟩ := x; exact ⟨_, e⟩
  | dK kvs => obtain ⟨_, _, _, _, o, _, _, e, _⟩ := x; exact ⟨_, e⟩
  | dT kvs => obtain ⟨_, _, _, _, o, _, _, e, _⟩ := x; exact ⟨_, e⟩
  | set S n => obtain ⟨o, _, _, _, e, _⟩ := x; exact ⟨_, e⟩
  | ins C dx fs => obtain ⟨_, _, _, e, _⟩ := x; exact ⟨_, e⟩
  | own y => exact x
  | xd fs => obtain ⟨_, ⟨_, _, _, e, _⟩, _⟩ := x; exact ⟨_, e⟩
  | rng lo hi => obtain ⟨_, _, _, e⟩ := x; exact ⟨_, e⟩
  | frz ob u => obtain ⟨e, _⟩ := x; exact ⟨_, e⟩
  | tbl ps => exact ⟨_, show h.get? a = some _ from x⟩
  | met f y => exact ⟨_, show h.get? a = some _ from x⟩
  | ext φ => obtain ⟨_, e, _⟩ := x; exact e
theorem un_moved {P : Program} {w : World} {l : List Env} {H H' : Hp} {h h1 h2 B : Heap} (u : Un (frs l) [] H H' h h1) (hok : HOk P w H' h1) (s1 : B.StaysIn h1) (s2 : B.StaysIn h2) (ff : h1.FunFrames B l) (sm : h1.UpToSlots h2)
    (b1 : ∀ b o, h.get? b = some o → b ∉ frs l → ∃ u, B.get? b = some u) (b2 : ∀ b o, H' b = some o → ∃ u, B.get? b = some u) : Un (frs l) [] H H' h h2 ∧ HOk P w H' h2 := by
  have same : ∀ {b o}, (∃ v, B.get? b = some v) → h1.get? b = some o → h2.get? b = some o := fun {b o} ⟨v, e⟩ q => by
    have := s1 b v e
    rw [q] at this
    cases this
    exact s2 b _ e
  refine ⟨⟨fun b o q n hb hx => same (b1 b o q hb) (u.keep b o q n hb hx), fun b o q n hb hx => ?_, u.free, fun b o q hx => ?_, u.tups, u.frzs, u.tbls⟩, fun a o e => ?_⟩
  · obtain ⟨sl, e⟩ := u.slot b o q n hb hx
    obtain ⟨_, ob, e2, nf⟩ := ff.mem hb
    rw [e] at e2
    cases e2
    obtain ⟨sl', e3⟩ := sm b _ e nf
    exact ⟨sl', e3⟩
  · by_cases hb : b ∈ frs l
    · obtain ⟨_, ob, e2, nf⟩ := ff.mem hb
      obtain ⟨sl', e3⟩ := sm b _ e2 nf
      exact ⟨_, e3⟩
    · obtain ⟨v, e⟩ := b1 b o q hb
      exact ⟨v, s2 b v e⟩
  · refine (hok a o e).stay (fun b v hb q => same ?_ q) (fun _ q => q) fun _ _ q => q
    rcases hb with rfl | hb
    · exact b2 _ _ e
    · exact b2 _ _ hb
structure ExC (K : PySem.W.Frag) (C : Addr) : Prop where
  obj : ∀ {h : Heap}, K.In h → ∃ bm N nm q bs hdct sn sub ab col dd k0 k1 k2 k3 k5 mN, h.get? C = some (excClassObj nm q C N bs bm hdct sn sub ab col dd k0 k1 k2 k3 k5 "ValueError.__new__") ∧ h.Ns N mN ∧ mN "__init__" = none ∧
    OwnTail h [.type "ValueError", .type "Exception", .type "BaseException", .type "object"] bm
theorem exC_of {K : PySem.W.Frag} {C : Addr} (q : PySem.W.excIn K C [.type "ValueError", .type "Exception", .type "BaseException", .type "object"] "ValueError.__new__" = true) : ExC K C := by
  refine ⟨fun {h} XI => ?_⟩
  unfold PySem.W.excIn at q
  split at q
  · rename_i dd cd sl ho
    split at q
    · rename_i C' bm k0 k1 k2 k3 n k5 hm hs
      simp only [Bool.and_eq_true, beq_iff_eq, Bool.not_eq_true'] at q
      obtain ⟨⟨⟨⟨⟨q1, q2⟩, q3⟩, q4⟩, q5⟩, q6⟩ := q
      subst q1 q2
      obtain ⟨nm, bs, mro, ns, qn, hd, sn, sub, ab, col, del⟩ := cd
      dsimp only at hm q3 q5 q6
      subst hm q3
      have hsl : sl = #[k0, k1, k2, k3, some (.builtin "ValueError.__new__"), k5] := by
        obtain ⟨l⟩ := sl
        exact congrArg Array.mk hs
      subst hsl
      exact ⟨bm, ns, nm, qn, bs, hd, sn, sub, ab, col, dd, k0, k1, k2, k3, k5, _, XI _ _ ho, .of_isNs (PySem.W.isNs_of_in XI q5), PySem.W.nsMap_none_of_in XI q5 q6, PySem.W.tail_of_in XI q4⟩
    · cases q
  · cases q
theorem evalArgs_of {M : Model} {A : Around} {EE : Value → Shared → Prop} {s : Shared} {env : Env} {fv : Value} {e₀ : Expr} {rest : List Expr} {cpos : Pos} {Q : Args → Shared → Prop} (he : starEach (e₀ :: rest) env = (false, eval e₀ env) :: starEach rest env)
    (h : wpAny M A (spliced (backTo cpos (starEach (e₀ :: rest) env))) (fun vs s' => Q ⟨vs, []⟩ s') EE s) : wpAny M A (evalArgs fv true (backTo cpos (starEach (e₀ :: rest) env)) []) Q EE s := by
  rw [he] at h ⊢
  exact Calls.evalArgs_plain h
noncomputable def tRaise (C : Addr) (E : XK) (ta : TA) : TS := fun _ σ H => ta σ H fun vs H1 => vs.length ≤ sizeLine ∧ E (.ref C) none H1
section
variable {P : Program} {w : World} {K : PySem.W.Frag} {mg : Str → Option Value} {base : Heap} {N : List Str} {qual : Str} {scope : Scope} {f : Addr} {cd : Value} {A : Around} {outer : List Env} {s₀ : Shared} {H₀ : Hp} {E : XK}
theorem ps_raise {x : Str} {C : Addr} {np cpos pos : Pos} {e₀ : Expr} {rest : List Expr} {ta : TA} (OC : ExC K C) (hm : mg x = some (.ref C)) (hh : A.handled = none) (hg : Gl (cxOf (CXR P w) P w K mg base N qual scope f cd A outer s₀ H₀ E) x)
    (ha : PA (cxOf (CXR P w) P w K mg base N qual scope f cd A outer s₀ H₀ E) (e₀ :: rest) ta) (hd : (x == ("__debug__" : Str)) = false := by decide)
    (he : starEach (e₀ :: rest) (envOfC qual scope s₀.heap.objs.size f cd) = (false, eval e₀ (envOfC qual scope s₀.heap.objs.size f cd)) :: starEach rest (envOfC qual scope s₀.heap.objs.size f cd) := by rfl)
    (hpl : (backTo cpos (starEach rest (envOfC qual scope s₀.heap.objs.size f cd))).any (·.1) = false := by rfl) :
    PS (cxOf (CXR P w) P w K mg base N qual scope f cd A outer s₀ H₀ E) (.Raise (some (.Call (.Name x np) (e₀ :: rest) [] cpos)) none pos) (tRaise C E ta) := by
  intro pins s σ H D I h
  obtain ⟨bm, Nn, nm, q, bs, hdct, sn, sub, ab, col, dd, k0, k1, k2, k3, k5, mN, hC, hN, hni, TL⟩ := OC.obj I.mod.kin
  refine wpAny_Raise_call_subT (C := C) (nm := nm) (q := q) (N := Nn) (bs := bs) (bm := bm) (hdct := hdct) (sn := sn) (sub := sub) (ab := ab) (col := col) (dd := dd) (k0 := k0) (k1 := k1) (k2 := k2) (k3 := k3) (k5 := k5)
    F.excBase_ValueError (mN := mN) (TL.hasType F.excBase_ValueError.hasBase) hh ?_ hni (ld_glob I hg hm ⟨rfl, ?_⟩ hd)
  · show (backTo cpos (starEach (e₀ :: rest) (envOfC qual scope s₀.heap.objs.size f cd))).any (·.1) = false
    rw [he]
    exact hpl
  have z := ha cpos pins s σ H _ I h
  refine evalArgs_of he (thn z fun us s2 ⟨vs, H1, I1, r, hz, hE⟩ => ⟨rfl, by rw [← r.length]; exact hz, I1.bk _ _ hC, hN.keeps I1.bk, TL.keeps I1.bk, fun h' e hx => ?_⟩)
  have hin : ∀ env ∈ (envOfC qual scope s₀.heap.objs.size f cd :: outer), ∀ b, env.frame = some b → b ∈ frs (envOfC qual scope s₀.heap.objs.size f cd :: outer) := fun env he b hb => List.mem_filterMap.mpr ⟨env, he, hb⟩
  have stk : s2.heap.FunFrames base (envOfC qual scope s₀.heap.objs.size f cd :: outer) := I1.stack
  have hl := PySem.W.funFrames_hide stk hin
  refine wpAny_leaves_madeW (base := PySem.W.hideAll s2.heap (frs (envOfC qual scope s₀.heap.objs.size f cd :: outer))) I1.ok.frames rfl (fun b o q => PySem.W.of_hideAll _ q) hl hx fun h'' t x1 x2 x3 x4 => ?_
  have b2 : ∀ b o, H1 b = some o → ∃ u, (PySem.W.hideAll s2.heap (frs (envOfC qual scope s₀.heap.objs.size f cd :: outer))).get? b = some u := fun b o e => by
    obtain ⟨u, hu⟩ := (I1.hok b o e).obj
    refine ⟨u, PySem.W.hideAll_get _ hu fun z => ?_⟩
    rw [I1.stkFree b z] at e
    cases e
  have b1 : ∀ b o, s₀.heap.get? b = some o → b ∉ frs outer → ∃ u, (PySem.W.hideAll s2.heap (frs (envOfC qual scope s₀.heap.objs.size f cd :: outer))).get? b = some u := fun b o e nb => by
    obtain ⟨u, hu⟩ := I1.base.there b o e (fun z => nomatch z)
    refine ⟨u, PySem.W.hideAll_get _ hu fun z => ?_⟩
    rcases List.mem_cons.mp (I1.stkSub b z) with z | z
    · exact absurd z (Nat.ne_of_lt (Nat.lt_of_lt_of_le (Heap.lt_size e) I1.ok.above))
    · exact nb z
  obtain ⟨un, ok⟩ := un_moved (l := outer) I1.base I1.hok (fun b o q => PySem.W.of_hideAll _ q) x1.1 hl.2.2 ((Heap.UpToSlots.of_keeps hx.keeps).trans x4) b1 b2
  refine ⟨e, .ref C, .ref t, _, H1, rfl, I1.os, I1.bare, un, ok, x1, ?_, b1, b2, hE⟩
  cases q : s₀.heap.get? e with
  | none => rfl
  | some o =>
    obtain ⟨u, hu⟩ := I1.base.there e o q (fun z => nomatch z)
    rw [hx.new] at hu
    cases hu
end
noncomputable def CalR (P : Program) (w : World) (K : PySem.W.Frag) (mg : Str → Option Value) (base : Heap) (x : Str) (ps : List Str) (k : Nat) (sp : Sp) : Prop :=
  ∃ f fd, mg x = some (.ref f) ∧ PySem.W.keepIn K (.ref f) = true ∧ Binds K fd ps [] ∧ FnOk P w K mg base (CXR P w) k f fd ps sp
theorem calR_of {P : Program} {w : World} {K : PySem.W.Frag} {mg : Str → Option Value} {base : Heap} {x : Str} {st : Stmt} {N ps : List Str} {k : Nat} {sp : Sp} (F : Fn0 K mg x st) (S : FnScope N ps (defScope st))
    (hb : ∀ (kV doc pm : Value) (an : Option Addr) (cdv ct : Value) (us : List Value), us.length = ps.length → bindArgs (PySem.W.fnOf x x (defArgs st) (defBody st) (defScope st) .none kV doc pm an cdv ct) ⟨us, []⟩ = pure (ps.zip us))
    (len : ∀ vs H Q E, sp vs H Q E → vs.length = ps.length)
    (hbody : ∀ (f : Addr) (cdv : Value) (A : Around) (outer : List Env) (s : Shared) (H : Hp) (vs : List V) (Q : VK) (E : XK), Room k (A.deeper (envOfC x (defScope st) s.heap.objs.size f cdv)) → sp vs H Q E →
      ∃ t, PSs (cxOf (CXR P w) P w K mg base N x (defScope st) f cdv A outer s H E) (defBody st) t ∧ t { nx := fun _ H' => Q .non H', rt := Q } (start N vs) H) : CalR P w K mg base x ps (k + 1) sp := by
  obtain ⟨f, fd, F, m⟩ := F
  refine ⟨f, fd, m, F.kp, F.binds hb, ?_⟩
  obtain ⟨oc, od, kV, doc, pm, an, cdv, ct, osl, rfl, lk, hcd⟩ := F.ex
  exact fn_of lk hcd S len fun A outer s H vs Q E hr hsp => hbody f cdv A outer s H vs Q E hr hsp
noncomputable abbrev Cx.suite (X : Cx) (e : Value) : Cx := { X with A := X.A.mark (some e), calm := false, xe := fun _ _ => False }
section
variable {X : Cx} {pins : List (Addr × Obj)} {σ : List (Option V)} {H : Hp} {s : Shared}
theorem Inv.suite (I : Inv X pins σ H s) (e : Value) : Inv (X.suite e) pins σ H s :=
  ⟨⟨I.ok.mod, I.ok.kind, I.ok.glob, I.ok.blt, I.ok.above, I.ok.inj, I.ok.has, I.ok.cab, (fun z => nomatch z), I.ok.frames, I.ok.stk, I.ok.exf, I.ok.bs, I.ok.bsz, I.ok.noex, I.ok.exfs, I.ok.funs, I.ok.frf⟩, I.os, I.bare, I.base, I.loc, I.cell, I.free, I.freeC, I.pin, I.hok, I.len⟩
theorem Inv.unsuite {e : Value} (J : Inv (X.suite e) pins σ H s) (ok : X.Ok) : Inv X pins σ H s := ⟨ok, J.os, J.bare, J.base, J.loc, J.cell, J.free, J.freeC, J.pin, J.hok, J.len⟩
noncomputable def exO (C : Value) (a : Addr) : HO := .ext fun h => ∃ o, h.get? a = some o ∧ o.cls = C
theorem un_exc {P : Program} {w : World} {fs : List Addr} {H H' : Hp} {h h2 : Heap} {ea : Addr} {C : Value} (u : Un fs [] H H' h h2) (hok : HOk P w H' h2) (new : h.get? ea = none) (hn : H' ea = none) (hob : ∃ o, h2.get? ea = some o ∧ o.cls = C) :
    Un fs [] H (upd H' ea (exO C ea)) h h2 ∧ HOk P w (upd H' ea (exO C ea)) h2 := by
  have ne : ∀ {b o}, H' b = some o → b ≠ ea := fun {b o} q z => by rw [z, hn] at q; cases q
  have ne' : ∀ {b o}, h.get? b = some o → b ≠ ea := fun {b o} q z => by rw [z, new] at q; cases q
  refine ⟨⟨u.keep, u.slot, fun b o q n hx => ?_, u.there, fun b xs q => ?_, fun b o v q => ?_, fun b ps q => ?_⟩, fun b o q => ?_⟩
  · rw [upd_ne (ne' q)]; exact u.free b o q n hx
  · have z := u.tups b xs q
    rw [upd_ne (ne z)]; exact z
  · have z := u.frzs b o v q
    rw [upd_ne (ne z)]; exact z
  · obtain ⟨m, z⟩ := u.tbls b ps q
    exact ⟨m, by rw [upd_ne (ne z)]; exact z⟩
  · by_cases e : b = ea
    · subst e
      rw [upd_same] at q
      cases q
      obtain ⟨ob, e1, e2⟩ := hob
      exact ⟨⟨ob, e1, e2⟩, ⟨ob, e1⟩, fun h1 h2 ⟨o, a, c⟩ k => ⟨o, k o a, c⟩⟩
    · rw [upd_ne e] at q
      exact (hok b o q).stay (fun _ _ _ z => z) (fun c z => by rw [upd_ne (ne z)]; exact z) fun c xs z => by rw [upd_ne (ne z)]; exact z
theorem goes_ok {M : Model} {A : Around} {EE : Value → Shared → Prop} {n : Str} {pos : Pos} {i : Nat} {Q : Unit → Shared → Prop} (I : Inv X pins σ H s) (hN : X.N.Nodup) (hi : X.N[i]? = some n) (hk : X.env.scope.names.lookup n = some .local)
    (h : ∀ s', Inv X pins (σ.set i none) H s' → Q () s') : wpAny M A (do bindName X.env n .none; unbindBehindTheSuite X.env n pos) Q EE s := by
  obtain ⟨m, hn, hl⟩ := id I.loc
  have hcls : (X.env.scope.kind == .class || (X.env.scope.kind == .module && X.env.locals != X.env.globals)) = false := by rw [I.ok.kind]; rfl
  have hiσ : i < σ.length := by rw [I.len]; exact (List.getElem?_eq_some_iff.mp hi).1
  have cne := I.cne
  refine wpAny_nameGoes_keeps hk hn hcls fun h' v hn' hs => ?_
  obtain ⟨oL, _, _, hoL, _⟩ := id hn
  have old : ∀ {b o}, X.s₀.heap.get? b = some o → h'.get? b = s.heap.get? b := fun {b o} e => hs.2 b (Nat.ne_of_lt (Nat.lt_of_lt_of_le (Heap.lt_size e) I.ok.above))
  refine h _ ⟨I.ok, I.os, I.bare, ⟨fun b o e n hb hx => (old e).trans (I.base.keep b o e n hb hx), fun b o e n hb hx => ?_, I.base.free, fun b o e hx => ?_, I.base.tups, I.base.frzs, I.base.tbls⟩, ⟨_, hn', fun j y v' e1 e2 e3 => ?_⟩, fun y c e => ?_, I.free, I.freeC, fun p hp => ?_, fun b ob e => ?_, by simpa using I.len⟩
  · obtain ⟨sl, e1⟩ := I.base.slot b o e n hb hx
    exact ⟨sl, (old e).trans e1⟩
  · obtain ⟨o', e1⟩ := I.base.there b o e hx
    exact ⟨o', (old e).trans e1⟩
  · by_cases hj : j = i
    · subst hj
      rw [List.getElem?_set_self hiσ] at e2
      cases e2
    · rw [List.getElem?_set_ne (Ne.symm hj)] at e2
      obtain ⟨u', r', q⟩ := hl j y v' e1 e2 e3
      refine ⟨u', r', ?_⟩
      rcases q with ⟨k, e⟩ | ⟨k, c, e, z⟩
      · refine .inl ⟨k, ?_⟩
        have : y ≠ n := fun e => hj (nodup_ix hN e1 (e ▸ hi))
        simp [this, e]
      · exact .inr ⟨k, c, e, z.sameBut hs (cne y c e)⟩
  · obtain ⟨w', z⟩ := I.cell y c e
    exact ⟨w', z.sameBut hs (cne y c e)⟩
  · obtain ⟨e, n, ne, nf, d⟩ := I.pin p hp
    exact ⟨(hs.2 p.1 ne).trans e, n, ne, nf, d⟩
  · refine (I.hok b ob e).stay (fun c w' hc q => (hs.2 c ?_).trans q) (fun _ q => q) fun _ _ q => q
    intro z
    have z2 := I.free
    rw [← z] at z2
    rcases hc with hc | hc
    · rw [hc, e] at z2; cases z2
    · rw [hc] at z2; cases z2
end
structure HnC (K : PySem.W.Frag) (C : Addr) : Prop where
  ty : PySem.W.typeIn K (.ref C) = some (.type "type")
  cl : (PySem.W.clsIn K C).isSome = true
  ex : PySem.W.mroIn K C (.type "BaseException") = some true
theorem looks_isType {K : PySem.W.Frag} {M : Model} {h : Heap} {C : Addr} (X : K.In h) (e : (PySem.W.clsIn K C).isSome = true) : PySem.W.Looks M h (isType (.ref C)) true := by
  unfold PySem.W.clsIn at e
  split at e
  · rename_i ho
    intro A' Q' E' s' k q
    unfold isType loadHead
    exact wpAny_bind (wpAny_loadPart (k _ _ (X _ _ ho)) (wpAny_pure q))
  · cases e
theorem exc_matches {K : PySem.W.Frag} {prog : Program} {w : World} {A : Around} {EE : Value → Shared → Prop} {s : Shared} {ea C Py : Addr} {Q : Bool → Shared → Prop} (X : K.In s.heap) (HC : HnC K Py) (hsub : PySem.W.mroIn K C (.ref Py) = some true)
    (ho : ∃ o, s.heap.get? ea = some o ∧ o.cls = .ref C) (h : Q true s) : wpAny (model prog w) A (excMatches (.ref ea) (.ref Py)) Q EE s := by
  obtain ⟨hh, g, d, t, os⟩ := s
  obtain ⟨ob, ho, hc⟩ := ho
  have L1 := PySem.W.looks_typeIn (M := model prog w) X HC.ty
  have L2 := looks_isType (M := model prog w) X HC.cl
  have L3 := PySem.W.looks_mroIn (M := model prog w) X HC.ex
  have L4 : PySem.W.Looks (model prog w) hh (typeOf (.ref ea)) (.ref C) := hc ▸ (PySem.W.Looks.ld ho).andThen .now
  have L5 := PySem.W.looks_mroIn (M := model prog w) X hsub
  have L6 : PySem.W.Looks (model prog w) hh (isSubtype (.type "type") (.type "tuple")) false := PySem.W.Looks.of_pure tc_notTuple
  unfold excMatches isInstance isExcClass
  repeat lk
  exact h
noncomputable def Ends.unb (D : Ends) (i : Nat) : Ends := { nx := fun σ H => D.nx (σ.set i none) H, rt := D.rt, bk := fun σ H => D.bk (σ.set i none) H, ct := fun σ H => D.ct (σ.set i none) H }
noncomputable def tTry (K : PySem.W.Frag) (Py : Addr) (sp : Sp) (ta : TA) (i : Nat) (ts : TS) : TS := fun D σ H => ta σ H fun vs H1 => sp vs H1 (fun _ _ => False) fun c _ H2 =>
  ∃ C, c = .ref C ∧ PySem.W.mroIn K C (.ref Py) = some true ∧ ∀ ea, H2 ea = none → ts (D.unb i) (σ.set i (some (.ref ea))) (upd H2 ea (exO (.ref C) ea))
theorem run_raises {X : Cx} {x : Str} {ps : List Str} {k : Nat} {sp : Sp} {E : XK} {e₀ : Expr} {es : List Expr} {ta : TA} {p cpos : Pos} {pins : List (Addr × Obj)} {σ : St} {H : Hp} {s : Shared} {EE : Value → Shared → Prop} {Q : Value → Shared → Prop}
    (C : CalR X.prog X.w X.K X.mg X.base x ps k sp) (hr : Room k X.A) (hg : Gl X x) (ha : PA (X.wish EE) (e₀ :: es) ta) (I : Inv X pins σ H s) (h : ta σ H fun vs H1 => sp vs H1 (fun _ _ => False) E)
    (hE : ∀ H1 s1 e s', Inv X pins σ H1 s1 → CXR X.prog X.w X.stack H1 s1 E e s' → EE e s') (hdb : (x == ("__debug__" : Str)) = false) (he : starEach (e₀ :: es) X.env = (false, eval e₀ X.env) :: starEach es X.env) (hpl : (backTo cpos (starEach es X.env)).any (·.1) = false) :
    wpAny (model X.prog X.w) X.A (eval (.Call (.Name x p) (e₀ :: es) [] cpos) X.env) Q EE s := by
  obtain ⟨f, fd, hm, hkp, hb, F⟩ := C
  refine wpAny_Call_Name_kw (ld_glob I hg hm ?_ hdb)
  refine PySem.W.callWith_K (h₀ := X.base) I.ok.mod.kin hkp ?_ he hpl
  have z := ha cpos pins s σ H _ (I.wish EE) h
  refine thn z fun us s1 z1 => ?_
  obtain ⟨vs, H1, I1, r, q⟩ := z1
  refine ⟨I1.kIn, ?_⟩
  replace I1 : Inv X pins σ H1 s1 := I1.unwish
  have r2 : Vals (vs ++ []) (us ++ []) := r.append .nil
  have q2 : sp (vs ++ []) H1 (fun _ _ => False) E := by rw [List.append_nil]; exact q
  have hl : (us ++ []).length = ps.length := by rw [← r2.length]; exact F.len _ _ _ _ q2
  refine wpAny_call (codeAny_mono (F.run X.A X.stack s1 H1 ⟨us, []⟩ (us ++ []) (vs ++ []) _ _ hr I1.env0 (hb s1 us I1.kIn hl) r2 q2) fun res s' hq => ?_)
  cases res with
  | ok fl =>
    cases fl with
    | ret u => obtain ⟨_, _, _, _, _, _, _, z⟩ := hq; exact z.elim
    | next => exact False.elim hq
    | brk => exact False.elim hq
    | cont => exact False.elim hq
  | error e => exact hE H1 s1 e s' I1 hq
noncomputable abbrev calmed (A : Around) : Around := { A with handled := none }
structure FnOkH (P : Program) (w : World) (K : PySem.W.Frag) (mg : Str → Option Value) (base : Heap) (k : Nat) (f : Addr) (fd : FuncData) (ps : List Str) (sp : Sp) : Prop where
  len : ∀ vs H Q E, sp vs H Q E → vs.length = ps.length
  run : ∀ (A : Around) (outer : List Env) (s : Shared) (H : Hp) (args : Args) (us : List Value) (vs : List V) (Q : VK) (E : XK), Room k (calmed A) → Env0 P w K mg base A outer s H → BindsTo s fd args (ps.zip us) → Vals vs us → sp vs H Q E →
    codeAny (model P w) A (.call (.ref f) args) (CR CX0 outer P w H s Q E) s
end L2
set_option Elab.async false
set_option linter.all false
set_option maxRecDepth 100000
namespace L2
open PySem PySem.Spec PyProof.Rows
theorem bt_ValueError : bootBuiltins "ValueError" = some (.type "ValueError") := by decide +kernel
theorem Room.suite {k : Nat} {A : Around} {h : Option Value} (r : Room k A) : Room k (calmed (A.mark h)) := ⟨rfl, r.dp, r.un⟩
section
variable {X : Cx} {x : Str} {ps : List Str} {k : Nat} {sp : Sp} {e : Expr} {es : List Expr} {t : TA} {p pos : Pos} {E : XK}
end
structure KitE (K : PySem.W.Frag) (C : Addr) : Prop where
  cl : (PySem.W.clsIn K C).isSome = true
  ga : PySem.W.findIn K (.ref C) "__getattribute__" = some (some (.builtin "BaseException.__getattribute__"))
  gh : PySem.W.findIn K (.ref C) "__getattr__" = some none
  at_ : PySem.W.findIn K (.ref C) "__class__" = some (some (.builtin "object.__class__"))
  get : PySem.W.specialIn K (.builtin "object.__class__") "__get__" = some (some (.builtin "getset_descriptor.__get__"))
  set : PySem.W.takesIn K (.builtin "object.__class__") = some true
  obj : PySem.W.mroIn K C (.type "object") = some true
  exc : PySem.W.mroIn K C (.type "BaseException") = some true
noncomputable def ObjC (x : Addr) (D : Value) (h : Heap) : Prop := ∃ o, h.get? x = some o ∧ o.cls = D
theorem ObjC.ty {x : Addr} {D : Value} {M : Model} {h : Heap} (p : ObjC x D h) : PySem.W.Looks M h (typeOf (.ref x)) D := by
  obtain ⟨o, h1, h2⟩ := p
  exact h2 ▸ (PySem.W.Looks.ld h1).andThen .now
theorem gs_class {K : PySem.W.Frag} {prog : Program} {w : World} {A : Around} {R : Result → Shared → Prop} {s : Shared} {x D : Addr} {tp : Value} (KE : KitE K D) (X : K.In s.heap) (p : ObjC x (.ref D) s.heap) (h : R (.ok (.ret (.ref D))) s) :
    codeAny (model prog w) A (.call (.builtin "getset_descriptor.__get__") ⟨[.builtin "object.__class__", .ref x, tp], []⟩) R s := by
  obtain ⟨hp, gs, dr, tks, oss⟩ := s
  have T0 := p.ty (M := model prog w)
  have T6 := PySem.W.looks_mroIn (M := model prog w) X KE.obj
  refine codeAny_call_builtin PySem.W.KF.slot_gs.plain PySem.W.KF.entry_gs (PySem.W.KF.slot_gs.check _ _ _ _ _ _ _ _ PySem.W.KF.type_class (PySem.W.KF.args_gs _ _ _) ?_)
  unfold Builtin.«getset_descriptor.__get__» Builtin.Getset_descriptor.descrGet
  rw [PySem.W.dga_obj]
  refine wpAny_bind (wpAny_pure ?_)
  unfold Builtin.Getset_descriptor.descrGetter Builtin.Getset_descriptor.descrCheckInstance Builtin.Getset_descriptor.descrNameAndClass isInstance
  simp only [PySem.W.KF.owner_class]
  repeat lk
  refine ⟨Code.quiet_builtin _ (by decide +kernel), codeAny_builtin PySem.W.KF.entry_class ?_⟩
  unfold Builtin.«object.__class__»
  unfold shownTypeOf
  repeat lk
  exact h
theorem ga_class {K : PySem.W.Frag} {prog : Program} {w : World} {A : Around} {R : Result → Shared → Prop} {s : Shared} {x D : Addr} {tk : Tok} (KE : KitE K D) (X : K.In s.heap) (p : ObjC x (.ref D) s.heap) (h : R (.ok (.ret (.ref D))) s) :
    codeAny (model prog w) A (.call (.builtin "BaseException.__getattribute__") ⟨[.ref x, .str "__class__" tk], []⟩) R s := by
  obtain ⟨hp, gs, dr, tks, oss⟩ := s
  have T0 := p.ty (M := model prog w)
  have T3 := PySem.W.looks_findIn (M := model prog w) X KE.at_
  have T4 := PySem.W.looks_specialIn (M := model prog w) X KE.get
  have T5 := PySem.W.looks_takesIn (M := model prog w) X KE.set
  have T7 := PySem.W.looks_mroIn (M := model prog w) X KE.exc
  have kd : builtinKind "BaseException.__getattribute__" = some .slot := by decide +kernel
  have spl : splitId "BaseException.__getattribute__" = some ("BaseException", "__getattribute__") := by decide +kernel
  have ha := F.args_bexc_ga (.ref x) (.str "__class__" tk)
  refine codeAny_call_builtin F.excAttr_ValueError.ga.plain F.entry_bexc_ga ?_
  simp only [checkBuiltinCall, kd, spl]
  unfold isInstance
  repeat (first | with_reducible refine wpAny_call (gs_class KE X p ?_) | lk)
  exact h
theorem exc_class {K : PySem.W.Frag} {prog : Program} {w : World} {A : Around} {EE : Value → Shared → Prop} {s : Shared} {x D : Addr} {Q : Option Value → Shared → Prop} (KE : KitE K D) (X : K.In s.heap) (p : ObjC x (.ref D) s.heap) (h : Q (some (.ref D)) { s with toks := s.toks + 1 }) :
    wpAny (model prog w) A (getAttr? (.ref x) "__class__") Q EE s := by
  obtain ⟨hp, gs, dr, tks, oss⟩ := s
  have T0 := p.ty (M := model prog w)
  have T1 := PySem.W.looks_findIn (M := model prog w) X KE.ga
  have T2 := PySem.W.looks_findIn (M := model prog w) X KE.gh
  have f3 := F.excAttr_ValueError.ga.bind (.ref x)
  have f5 : (Value.builtin "BaseException.__getattribute__" == Value.builtin "object.__getattribute__") = false := by decide +kernel
  have f4 : ¬ (onTheHeap (Value.ref D) && Value.builtin "BaseException.__getattribute__" == Value.builtin "object.__getattribute__") = true := by rw [f5, Bool.and_false]; exact Bool.false_ne_true
  unfold getAttr? getAttrBy? getAttrBy
  refine wpAny_bind (wpAny_mkText (wpAny_bind (wpAny_attempt ?_)))
  refine wpAny_holding (wpAny_bind (T0.at (wpAny_bind (T1.at ?_))))
  dsimp only
  rw [if_neg f4]
  unfold getAttrByItsOwn
  refine wpAny_bind ?_
  show wpAny _ _ (typeLookup (Value.ref D) "__getattr__") _ _ _
  refine T2.at ?_
  refine wpAny_bind (wpAny_attempt (wpAny_holding ?_))
  show wpAny _ _ (boundAndCalled _ _ _) _ _ _
  unfold boundAndCalled
  rw [f3]
  refine wpAny_bind (wpAny_pure ?_)
  refine wpAny_call (ga_class KE X p ?_)
  refine wpAny_pure ?_
  exact wpAny_pure h
theorem kitx_exc {K : PySem.W.Frag} {x D : Addr} (KE : KitE K D) : PySem.W.KitX K (.ref x) (.ref D) (ObjC x (.ref D)) where
  ty := fun _ _ _ p => p.ty
  it := fun _ _ X _ => looks_isType X KE.cl
  ne := fun h tp dd its n sl X htp => by
    refine Bool.eq_false_iff.mpr fun q => ?_
    have e : D = tp := Value.ref.inj (beq_iff_eq.mp q)
    subst e
    have c := KE.cl
    unfold PySem.W.clsIn at c
    split at c
    · rename_i ho
      have z := (X _ _ ho).symm.trans htp
      cases z
    · cases c
  ca := fun X p k => exc_class KE X p k
noncomputable def rIsiX (K : PySem.W.Frag) : List V → Hp → VK → Prop := fun xs H Q => ∃ (ea C : Addr) (c : V) (b : Bool), xs = [.ref ea, c] ∧ H ea = some (exO (.ref C) ea) ∧ KitE K C ∧
  ((∃ T, c = .ty T ∧ PySem.W.kitOne K (.ref C) (.type T) = some b) ∨ (∃ D, c = .ref D ∧ PySem.W.kitOne K (.ref C) (.ref D) = some b) ∨ ∃ (tp : Addr) (ys : List Addr), c = .ref tp ∧ H tp = some (.tup (ys.map V.ref)) ∧ PySem.W.kitAny K (.ref C) (ys.map Value.ref) = some b) ∧ Q (.bl b) H
theorem vals_refs : ∀ {ys : List Addr} {us : List Value}, Vals (ys.map V.ref) us → us = ys.map Value.ref
  | [], _, .nil => rfl
  | y :: ys, _, .cons r q => by
    cases (show _ = Value.ref y from r)
    rw [vals_refs q]
    rfl
theorem call_isiX {X : Cx} {K : PySem.W.Frag} (hK : X.K = K) : CallR X (.builtin "isinstance") (rIsiX K) := by
  subst hK
  intro pins s σ H xs us Q I r h
  obtain ⟨ea, C, c, b, rfl, he, KE, hc, q⟩ := h
  obtain ⟨u, w', rfl, rx, ry⟩ := vals2 r
  cases (show u = Value.ref ea from rx)
  have ob : ObjC ea (.ref C) s.heap := (I.hok ea _ he).1
  have fin : ∀ tk, EP X pins σ Q (.bool b) { s with toks := tk } := fun tk => ⟨.bl b, H, I.tok tk, rfl, q⟩
  rcases hc with ⟨T, rfl, e⟩ | ⟨D, rfl, e⟩ | ⟨tp, ys, rfl, ht, e⟩
  · cases (show w' = Value.type T from ry)
    exact PySem.W.kia_one (kitx_exc KE) I.kIn ob e (by intro z; cases z) fin
  · cases (show w' = Value.ref D from ry)
    exact PySem.W.kia_one (kitx_exc KE) I.kIn ob e (by intro z; cases z) fin
  · cases (show w' = Value.ref tp from ry)
    obtain ⟨its, rr, ⟨⟨c0, dd, dt, sl⟩, ho, hc, n, hd⟩, hz⟩ := I.tuple (xs := ys.map V.ref) (.inl (.inl ht))
    dsimp only at hc hd
    subst hc hd
    rw [vals_refs rr] at ho
    exact PySem.W.kia_tup (kitx_exc KE) I.kIn ob ho e (by intro z; cases z) fin
noncomputable def tPar3 (i j k : Nat) (ta : TA) : TS := fun D σ H => ta σ H fun vs H1 => ∃ v w y, vs = [v, w, y] ∧ D.nx (((σ.set i (some v)).set j (some w)).set k (some y)) H1
end L2
set_option Elab.async false
set_option linter.all false
set_option maxRecDepth 100000
namespace L2
open PySem PySem.Spec PyProof.Rows
noncomputable def Itd (hi : Int) (n : Nat) : It := ⟨fun i _ => i < n, fun i H x H' => H' = H ∧ x = .int (hi - i), fun i _ => n ≤ i⟩
theorem turn_rangeD {P : Program} {w : World} {K : PySem.W.Frag} {tg : Expr} (it : Addr) (hi : Int) (n : Nat) : Turn P w K tg (Itd hi n) [it] it (fun i h => IsRangeIter h it (hi + (i : Nat) * (-1)) ((n : Int) - (i : Nat)) (-1)) where
  mem := by simp
  obj := fun i h st b hb => by
    have e : b = it := by simpa using hb
    subst e
    exact ⟨_, st, fun v z => by
      have z' : Data.fields _ = Data.cell v := z
      cases z'⟩
  keep := fun i h h' st k => k it (by simp) _ st
  item := by
    intro X hP hw hK hc i pins s σ H E I hf st hg
    subst hP hw hK
    obtain ⟨f0, f1, f2, f3, f4, f5⟩ := hf it (by simp)
    have W := Walks.range (prog := X.prog) (w := X.w) (I.ok.hd hc) it hi (-1) n
    refine W.item i s _ _ hg st fun v h' tk hv st' kk => ?_
    obtain ⟨t, rfl⟩ := hv
    have I1 : Inv X pins σ H { s with heap := h', toks := tk } := I.turned (fun b o hb e => kk b o (by simpa using hb) e) f0 f1 f3 f4 f5
    refine ⟨_, rfl, go_of (s := { s with heap := h', toks := tk }) (n := "range_iterator") st' rfl rfl (by decide) ⟨.int (hi - i), H, I1, ⟨t, ?_⟩, ⟨rfl, rfl⟩, st', fun b hb => (hf b hb).1⟩⟩
    rw [Int.mul_neg, Int.mul_one, Int.sub_eq_add_neg]
  done := by
    intro X hP hw hK hc i pins s σ H E I hf st hg
    subst hP hw hK
    obtain ⟨f0, f1, f2, f3, f4, f5⟩ := hf it (by simp)
    exact wpAny_pyNext_range_end (I.ok.hd hc) st (by have : n ≤ i := hg; (clear f5 f4 f3 f2 f1 f0 hg st hf I hc; omega)) fun h' eb => ⟨rfl, I.turned (t' := s.toks) (fun b o hb e => eb b o hb e) f0 f1 f3 f4 f5⟩
  self := fun _ _ _ _ _ st h => wpAny_pyIter_rangeiter st h
noncomputable def iRngD (ta : TA) : TI := fun σ H R => ta σ H fun vs H1 => ∃ i j : Int, vs = [.int i, .int j, .int (-1)] ∧ (0 ≤ j ∧ j ≤ i ∧ i < 2 ^ 30) ∧ R (Itd i (i - j).toNat) H1
theorem sizeD {i j : Int} (h : j ≤ i) : Builtin.Range.rangeSize i j (-1) = i - j := by
  unfold Builtin.Range.rangeSize
  rw [if_neg (by decide), show -(-1 : Int) = 1 by decide, Int.ediv_one]
  split <;> omega
theorem smallD {i j : Int} (h0 : 0 ≤ j) (h : j ≤ i) (h1 : i < 2 ^ 30) : Builtin.Range.small i j (-1) = true := by
  unfold Builtin.Range.small
  rw [sizeD h]
  simp only [Builtin.Range.rangeFitsLong, Bool.and_eq_true, Bool.or_eq_true, decide_eq_true_eq, beq_iff_eq, show ¬ (-1 : Int) > 0 by decide, if_false]
  omega
theorem pi_rangeD {X : Cx} {tg a b c : Expr} {ta : TA} {p pos : Pos} (hg : Gl X "range") (hm : X.mg "range" = none) (ha : PA X [a, b, c] ta) (hs : plainArgs [a, b, c] = true := by rfl) :
    PI X tg (.Call (.Name "range" p) [a, b, c] [] pos) (iRngD ta) := by
  have h' : notStar a = true ∧ plainArgs [b, c] = true := by simpa [plainArgs] using hs
  intro pins s σ H R I h
  refine Call_ (ld_blt I hg hm boot_range (PyProof.Rows.callWith_type1 (thn (ha pos pins s σ H _ I h) fun us s1 ⟨vs, H1, I1, r1, q1⟩ => ?_) (starEach_plain h'.1) (backTo_plain h'.2)))
  obtain ⟨i, j, e, ⟨q1, q2, q3⟩, q⟩ := q1
  subst e
  cases r1 with
  | cons r rr =>
    cases rr with
    | cons r' rr =>
      cases rr with
      | cons r'' rr =>
        cases rr
        obtain ⟨t, rfl⟩ := r
        obtain ⟨t', rfl⟩ := r'
        obtain ⟨t'', rfl⟩ := r''
        refine call_range_3 (by decide) ?_ (Or.inl (PyProof.noPylong_of_log2 (by decide +kernel)))
        refine wpAny_pyIter_range (IsRange.new ..) (smallD q1 q2 q3) ?_
        have I2 : Inv X pins σ H1 { s1 with heap := s1.heap.push { cls := .type "range", data := .fields #[.int i t, .int j t', .int (-1) t''] }, toks := s1.toks } := I1.kept fun b o e => Heap.get?_push_of_some _ e
        refine ⟨(s1.heap.push { cls := .type "range", data := .fields #[.int i t, .int j t', .int (-1) t''] }).objs.size, [(s1.heap.push { cls := .type "range", data := .fields #[.int i t, .int j t', .int (-1) t''] }).objs.size], _, _, H1, rfl,
          I2.kept (t' := s1.toks) fun b o e => Heap.get?_push_of_some _ e, turn_rangeD _ i (i - j).toNat, ?_, fun b hb => ?_, q⟩
        · have e1 : i + ((0 : Nat) : Int) * (-1) = i := by simp
          have e2 : (((i - j).toNat : Nat) : Int) - ((0 : Nat) : Int) = Builtin.Range.rangeSize i j (-1) := by rw [sizeD q2]; (clear e1 I2 q3 q1 q I1 h I h' hs ha hm hg; omega)
          show IsRangeIter _ _ (i + ((0 : Nat) : Int) * (-1)) ((((i - j).toNat : Nat) : Int) - ((0 : Nat) : Int)) (-1)
          rw [e1, e2]
          exact Heap.get?_push_size _ rfl
        · have e : b = (s1.heap.push { cls := .type "range", data := .fields #[.int i t, .int j t', .int (-1) t''] }).objs.size := by simpa using hb
          subst e
          exact I2.fpOk (Nat.le_refl _) (I2.hok.fresh (Nat.le_refl _))
theorem go_down {hi : Int} {n : Nat} {g : TG} {tb : TS} {D : Ends} {σ : St} {H : Hp} (Pv : Nat → St → Hp → Prop) (h0 : Pv 0 σ H)
    (hs : ∀ i σ H, i < n → Pv i σ H → g (.int (hi - i)) σ H fun σ2 H2 => tb { D with nx := Pv (i + 1), ct := Pv (i + 1), bk := D.nx } σ2 H2) (hd : ∀ σ H, Pv n σ H → D.nx σ H) : ForGo (Itd hi n) g tb D σ H := by
  refine ⟨fun i m σ H => i ≤ n ∧ m = n - i ∧ Pv i σ H, ⟨n, Nat.zero_le _, by (clear hd hs h0; omega), h0⟩, ?_⟩
  rintro i m σ H ⟨h1, rfl, p⟩
  by_cases e : i = n
  · subst e
    exact .inl ⟨Nat.le_refl _, hd _ _ p⟩
  · refine .inr ⟨show i < n by (clear p hd hs h0; omega), Pv (i + 1), fun σ' H' q => ⟨n - (i + 1), by (clear q p hd hs h0; omega), by (clear q p hd hs h0; omega), rfl, q⟩, ?_⟩
    rintro x H' ⟨rfl, rfl⟩
    exact hs i σ _ (by (clear p hd hs h0; omega)) p
noncomputable def rSlH : V → Option Int → Option Int → Hp → VK → Prop := fun x lo hi H Q => ∃ a xs, x = .ref a ∧ H a = some (.lst xs) ∧ ∀ p, H p = none → Q (.ref p) (upd H p (.lst (cutV xs lo hi)))
theorem sl_listH {X : Cx} : SlR X rSlH := by
  intro pins s σ H x v vl vu lo hi sl Q I rx hs pl pu h
  obtain ⟨a, xs, e, hx, q⟩ := h
  exact sl_list pins s σ H x v vl vu lo hi sl Q I rx hs pl pu ⟨a, xs, e, .inl (.inl hx), q⟩
theorem cut_from (xs : List V) (k : Nat) (h : k ≤ xs.length) : cutV xs (some (k : Int)) none = xs.drop k := by
  unfold cutV
  rw [HT.sIx_nat, HT.sIx_none, Nat.min_eq_left h]
  exact List.take_of_length_le (by simp)
theorem cut_mid (xs : List V) (j k : Nat) (h1 : j ≤ k) (h : k ≤ xs.length) : cutV xs (some (j : Int)) (some (k : Int)) = (xs.drop j).take (k - j) := by
  unfold cutV
  rw [HT.sIx_nat, HT.sIx_nat, Nat.min_eq_left h, Nat.min_eq_left (by omega)]
end L2
set_option linter.all false
namespace RimD
noncomputable def su : Nat → (Nat → Int) → Int
  | 0, _ => 0
  | n + 1, f => su n f + f n
theorem su_congr : ∀ {n : Nat} {f g : Nat → Int}, (∀ k, k < n → f k = g k) → su n f = su n g
  | 0, _, _, _ => rfl
  | n + 1, f, g, h => by
    show su n f + f n = su n g + g n
    rw [su_congr fun k hk => h k (by omega), h n (by omega)]
theorem su_add : ∀ (n : Nat) (f g : Nat → Int), su n (fun k => f k + g k) = su n f + su n g
  | 0, _, _ => rfl
  | n + 1, f, g => by
    show su n _ + (f n + g n) = su n f + f n + (su n g + g n)
    rw [su_add n f g]
    omega
theorem su_mul : ∀ (n : Nat) (c : Int) (f : Nat → Int), su n (fun k => c * f k) = c * su n f
  | 0, c, _ => (Int.mul_zero c).symm
  | n + 1, c, f => by
    show su n _ + c * f n = c * (su n f + f n)
    rw [su_mul n c f, Int.mul_add]
theorem su_zero : ∀ {n : Nat} {f : Nat → Int}, (∀ k, k < n → f k = 0) → su n f = 0
  | 0, _, _ => rfl
  | n + 1, f, h => by
    show su n f + f n = 0
    rw [su_zero fun k hk => h k (by omega), h n (by omega)]
    rfl
theorem su_front : ∀ (n : Nat) (f : Nat → Int), su (n + 1) f = f 0 + su n (fun k => f (k + 1))
  | 0, f => by show 0 + f 0 = f 0 + 0; omega
  | n + 1, f => by
    show su (n + 1) f + f (n + 1) = f 0 + (su n (fun k => f (k + 1)) + f (n + 1))
    rw [su_front n f]
    omega
theorem su_pairs (f : Nat → Nat → Int) : ∀ n : Nat, su (n + 1) (fun k => su n (f k)) = su (n + 1) (fun k => su k fun l => f k l + f l (k - 1))
  | 0 => rfl
  | n + 1 => by
    have ih := su_pairs f n
    show su (n + 1) (fun k => su n (f k) + f k n) + (su n (f (n + 1)) + f (n + 1) n) = su (n + 1) (fun k => su k fun l => f k l + f l (k - 1)) + su (n + 1) (fun l => f (n + 1) l + f l n)
    rw [su_add, ih, su_add (n + 1) (f (n + 1)) fun l => f l n]
    show _ + _ + (su n (f (n + 1)) + f (n + 1) n) = _ + (su n (f (n + 1)) + f (n + 1) n + _)
    omega
noncomputable def sg (k : Nat) : Int := if k % 2 = 0 then 1 else -1
theorem sg_succ (k : Nat) : sg (k + 1) = -sg k := by
  unfold sg
  by_cases h : k % 2 = 0
  · rw [if_pos h, if_neg (by omega)]
  · rw [if_neg h, if_pos (by omega)]; rfl
noncomputable def sk (k j : Nat) : Nat := if j < k then j else j + 1
noncomputable abbrev Mat := Nat → Nat → Int
noncomputable def mi (A : Mat) (k : Nat) : Mat := fun i j => A (i + 1) (sk k j)
noncomputable def D : Nat → Mat → Int
  | 0, _ => 1
  | n + 1, A => su (n + 1) fun k => sg k * A 0 k * D n (mi A k)
theorem D_succ (n : Nat) (A : Mat) : D (n + 1) A = su (n + 1) fun k => sg k * A 0 k * D n (mi A k) := rfl
theorem D_congr : ∀ {n : Nat} {A B : Mat}, (∀ i j, i < n → j < n → A i j = B i j) → D n A = D n B
  | 0, _, _, _ => rfl
  | n + 1, A, B, h => su_congr fun k hk => by
    have e : D n (mi A k) = D n (mi B k) := D_congr fun i j hi hj => h (i + 1) (sk k j) (by (clear hj hk h; omega)) (by unfold sk; split <;> (clear hi hk h; omega))
    show sg k * A 0 k * D n (mi A k) = _
    rw [h 0 k (by (clear e hk h; omega)) hk, e]
theorem D_lin : ∀ {n i : Nat} {A B C : Mat} {p q : Int}, i < n → (∀ r c, r ≠ i → A r c = B r c ∧ A r c = C r c) → (∀ c, A i c = p * B i c + q * C i c) → D n A = p * D n B + q * D n C
  | 0, _, _, _, _, _, _, h, _, _ => absurd h (by omega)
  | n + 1, 0, A, B, C, p, q, _, h1, h2 => by
    rw [D_succ, D_succ, D_succ, ← su_mul, ← su_mul, ← su_add]
    refine su_congr fun k hk => ?_
    have e1 : D n (mi A k) = D n (mi B k) := D_congr fun i j _ _ => (h1 (i + 1) (sk k j) (by (clear hk h2 h1; omega))).1
    have e2 : D n (mi A k) = D n (mi C k) := D_congr fun i j _ _ => (h1 (i + 1) (sk k j) (by (clear e1 hk h2 h1; omega))).2
    rw [h2 k, ← e1, ← e2]
    generalize D n (mi A k) = d
    generalize sg k = s
    grind
  | n + 1, i + 1, A, B, C, p, q, hi, h1, h2 => by
    rw [D_succ, D_succ, D_succ, ← su_mul, ← su_mul, ← su_add]
    refine su_congr fun k hk => ?_
    have e : D n (mi A k) = p * D n (mi B k) + q * D n (mi C k) := D_lin (i := i) (by (clear hk h2 h1; omega)) (fun r c hr => h1 (r + 1) (sk k c) (by (clear hk h2 h1 hi; omega))) fun c => h2 (sk k c)
    have z := h1 0 k (by (clear e hk h2 h1 hi; omega))
    rw [e, ← z.1, ← z.2]
    generalize D n (mi B k) = d
    generalize D n (mi C k) = d'
    generalize sg k = s
    grind
theorem D_two (n : Nat) (A : Mat) : D (n + 2) A = su (n + 2) fun k => su k fun l => sg k * sg l * (A 0 k * A 1 l - A 0 l * A 1 k) * D n fun i j => A (i + 2) (sk k (sk l j)) := by
  have e : D (n + 2) A = su (n + 2) fun k => su (n + 1) fun l => sg k * A 0 k * (sg l * A 1 (sk k l) * D n (mi (mi A k) l)) := by
    rw [D_succ]
    exact su_congr fun k hk => by rw [D_succ, ← su_mul]; rfl
  rw [e, su_pairs fun k l => sg k * A 0 k * (sg l * A 1 (sk k l) * D n (mi (mi A k) l))]
  refine su_congr fun k hk => su_congr fun l hl => ?_
  have s1 : sk k l = l := by unfold sk; rw [if_pos hl]
  have s2 : sk l (k - 1) = k := by unfold sk; rw [if_neg (by omega)]; omega
  have s3 : sg (k - 1) = -sg k := by
    have z := sg_succ (k - 1)
    rw [show k - 1 + 1 = k by (clear z hk e; omega)] at z
    (clear s2 s1 hl hk e; omega)
  have s4 : ∀ j, sk l (sk (k - 1) j) = sk k (sk l j) := fun j => by unfold sk; grind
  have d1 : D n (mi (mi A k) l) = D n fun i j => A (i + 2) (sk k (sk l j)) := rfl
  have d2 : D n (mi (mi A l) (k - 1)) = D n fun i j => A (i + 2) (sk k (sk l j)) := D_congr fun i j _ _ => by
    show A (i + 2) (sk l (sk (k - 1) j)) = _
    rw [s4]
  rw [s1, s2, s3, d1, d2]
  generalize (D n fun i j => A (i + 2) (sk k (sk l j))) = d
  generalize sg k = s
  generalize sg l = s'
  grind
theorem D_sw01 (n : Nat) (A B : Mat) (h0 : ∀ c, B 0 c = A 1 c) (h1 : ∀ c, B 1 c = A 0 c) (h : ∀ r c, 1 < r → B r c = A r c) : D (n + 2) B = -D (n + 2) A := by
  rw [D_two, D_two, show -(su (n + 2) fun k => su k fun l => sg k * sg l * (A 0 k * A 1 l - A 0 l * A 1 k) * D n fun i j => A (i + 2) (sk k (sk l j))) = -1 * (su (n + 2) fun k => su k fun l => sg k * sg l * (A 0 k * A 1 l - A 0 l * A 1 k) * D n fun i j => A (i + 2) (sk k (sk l j))) by (clear h h1 h0; omega), ← su_mul]
  refine su_congr fun k hk => ?_
  rw [← su_mul]
  refine su_congr fun l hl => ?_
  have d : (D n fun i j => B (i + 2) (sk k (sk l j))) = D n fun i j => A (i + 2) (sk k (sk l j)) := D_congr fun i j _ _ => h _ _ (by (clear hl hk h h1 h0; omega))
  rw [h0, h1, h0, h1, d]
  generalize (D n fun i j => A (i + 2) (sk k (sk l j))) = d
  grind
theorem D_eq0 : ∀ {n i j : Nat} {A : Mat}, i < j → j < n → (∀ c, A i c = A j c) → D n A = 0
  | 0, _, _, _, _, h, _ => absurd h (by omega)
  | n + 1, i + 1, j, A, h1, h2, h => by
    rw [D_succ]
    refine su_zero fun k hk => ?_
    obtain ⟨j, rfl⟩ : ∃ j', j = j' + 1 := ⟨j - 1, by (clear hk h h2; omega)⟩
    rw [D_eq0 (n := n) (i := i) (j := j) (by (clear h h2 hk; omega)) (by (clear h h1 hk; omega)) fun c => h (sk k c), Int.mul_zero]
  | n + 1, 0, j, A, h1, h2, h => by
    obtain ⟨n, rfl⟩ : ∃ m, n = m + 1 := ⟨n - 1, by omega⟩
    by_cases hj : j = 1
    · subst hj
      rw [D_two]
      refine su_zero fun k hk => su_zero fun l hl => ?_
      rw [h k, h l, show A 1 k * A 1 l - A 1 l * A 1 k = 0 by rw [Int.mul_comm (A 1 l)]; (clear hl hk h2 h h1; omega), Int.mul_zero, Int.zero_mul]
    · have e := D_sw01 n A (fun r c => if r = 0 then A 1 c else if r = 1 then A 0 c else A r c) (fun c => rfl) (fun c => rfl) fun r c hr => by
        show (if r = 0 then A 1 c else if r = 1 then A 0 c else A r c) = A r c
        rw [if_neg (by (clear hj h2 h h1; omega)), if_neg (by (clear hj h2 h h1; omega))]
      have z : D (n + 2) (fun r c => if r = 0 then A 1 c else if r = 1 then A 0 c else A r c) = 0 := by
        rw [D_succ]
        refine su_zero fun k hk => ?_
        obtain ⟨j, rfl⟩ : ∃ j', j = j' + 1 := ⟨j - 1, by (clear hk e hj h2 h; omega)⟩
        rw [D_eq0 (n := n + 1) (i := 0) (j := j) (by (clear h2 h hk e; omega)) (by (clear hj h h1 hk e; omega)) fun c => ?_, Int.mul_zero]
        show (if 0 + 1 = 0 then A 1 (sk k c) else if 0 + 1 = 1 then A 0 (sk k c) else A (0 + 1) (sk k c)) = if j + 1 = 0 then A 1 (sk k c) else if j + 1 = 1 then A 0 (sk k c) else A (j + 1) (sk k c)
        rw [if_neg (by (clear hj h2 h h1 hk e; omega)), if_pos (by (clear hj h2 h h1 hk e; omega)), if_neg (by (clear hj h2 h hk e; omega)), if_neg (by (clear h2 h h1 hk e; omega))]
        exact h _
      show D (n + 2) A = 0
      rw [z] at e
      (clear z hj h2 h h1; omega)
  termination_by n i => (n, i)
theorem D_row {n i : Nat} {A B : Mat} {p : Int} (hi : i < n) (h1 : ∀ r c, r ≠ i → A r c = B r c) (h2 : ∀ c, A i c = p * B i c) : D n A = p * D n B := by
  have e := D_lin (p := p) (q := 0) (C := B) hi (fun r c hr => ⟨h1 r c hr, h1 r c hr⟩) fun c => by rw [h2 c]; (clear h2 h1 hi; omega)
  rw [e]; (clear e h2 h1 hi; omega)
noncomputable def pr : Nat → (Nat → Int) → Int
  | 0, _ => 1
  | n + 1, e => pr n e * e n
theorem D_rows (e : Nat → Int) (A : Mat) : ∀ {n m : Nat}, m ≤ n → D n (fun i j => if i < m then e i * A i j else A i j) = pr m e * D n A
  | n, 0, _ => by
    rw [show pr 0 e = 1 from rfl, Int.one_mul]
    exact D_congr fun i j _ _ => by rw [if_neg (by omega)]
  | n, m + 1, h => by
    have z := D_row (n := n) (i := m) (p := e m) (A := fun i j => if i < m + 1 then e i * A i j else A i j) (B := fun i j => if i < m then e i * A i j else A i j) (by omega)
      (fun r c hr => by
        by_cases q : r < m
        · rw [if_pos q, if_pos (by omega)]
        · rw [if_neg q, if_neg (by omega)]) fun c => by rw [if_pos (by omega), if_neg (by omega)]
    rw [z, D_rows e A (by omega)]
    show _ = pr m e * e m * _
    rw [Int.mul_comm (pr m e) (e m), Int.mul_assoc]
theorem D_scale {n : Nat} (e : Nat → Int) (A : Mat) : D n (fun i j => e i * A i j) = pr n e * D n A := by
  rw [← D_rows e A (Nat.le_refl n)]
  exact D_congr fun i j hi _ => by rw [if_pos hi]
theorem pr_const (c : Int) : ∀ n : Nat, pr n (fun _ => c) = c ^ n
  | 0 => (Int.pow_zero c).symm
  | n + 1 => by show pr n (fun _ => c) * c = c ^ (n + 1); rw [pr_const c n, Int.pow_succ]
theorem D_off (p : Int) (e : Nat → Int) (A : Mat) : ∀ {n m : Nat}, m ≤ n → D (n + 1) (fun i j => if 0 < i ∧ i ≤ m then p * A i j - e i * A 0 j else A i j) = p ^ m * D (n + 1) A
  | n, 0, _ => by
    rw [Int.pow_zero, Int.one_mul]
    exact D_congr fun i j _ _ => by rw [if_neg (by omega)]
  | n, m + 1, h => by
    have z := D_lin (n := n + 1) (i := m + 1) (p := p) (q := -e (m + 1)) (A := fun i j => if 0 < i ∧ i ≤ m + 1 then p * A i j - e i * A 0 j else A i j) (B := fun i j => if 0 < i ∧ i ≤ m then p * A i j - e i * A 0 j else A i j)
      (C := fun i j => if i = m + 1 then A 0 j else if 0 < i ∧ i ≤ m then p * A i j - e i * A 0 j else A i j) (by omega)
      (fun r c hr => by
        have q : (0 < r ∧ r ≤ m + 1) = (0 < r ∧ r ≤ m) := by apply propext; omega
        simp only [q, if_neg hr, and_self]) fun c => by
        rw [if_pos (by omega), if_neg (by omega), if_pos rfl, Int.neg_mul, Int.sub_eq_add_neg]
    have y : D (n + 1) (fun i j => if i = m + 1 then A 0 j else if 0 < i ∧ i ≤ m then p * A i j - e i * A 0 j else A i j) = 0 := D_eq0 (i := 0) (j := m + 1) (by omega) (by omega) fun c => by
      rw [if_neg (by omega), if_neg (by omega), if_pos rfl]
    rw [z, y, D_off p e A (by omega), Int.mul_zero, Int.add_zero, Int.pow_succ, Int.mul_comm (p ^ m) p, Int.mul_assoc]
theorem D_zero : ∀ {n : Nat} {A : Mat}, (∀ i, i < n + 1 → A i 0 = 0) → D (n + 1) A = 0 := by
    intro n
    induction n with
    | zero => intro A h; show 0 + sg 0 * A 0 0 * 1 = 0; rw [h 0 (by omega)]; omega
    | succ n ih =>
      intro A h
      rw [D_succ]
      refine su_zero fun k hk => ?_
      cases k with
      | zero => rw [h 0 (by omega)]; (clear hk h ih; omega)
      | succ k =>
        rw [ih fun i hi => ?_, Int.mul_zero]
        show A (i + 1) (sk (k + 1) 0) = 0
        rw [show sk (k + 1) 0 = 0 from rfl]
        exact h _ (by (clear hk h ih; omega))
theorem D_col {n : Nat} {A : Mat} (h : ∀ i, 0 < i → i < n + 1 → A i 0 = 0) : D (n + 1) A = A 0 0 * D n (fun i j => A (i + 1) (j + 1)) := by
  rw [D_succ, su_front]
  rw [su_zero fun k hk => ?_]
  · show sg 0 * A 0 0 * D n (mi A 0) + 0 = _
    rw [show sg 0 = 1 from rfl, Int.one_mul, Int.add_zero]
    rfl
  · obtain ⟨n, rfl⟩ : ∃ m, n = m + 1 := ⟨n - 1, by omega⟩
    rw [D_zero fun i hi => ?_, Int.mul_zero]
    show A (i + 1) (sk (k + 1) 0) = 0
    exact h _ (by (clear hi hk h; omega)) (by omega)
theorem D_step {n : Nat} {A : Mat} (h : A 0 0 ≠ 0) : A 0 0 ^ n * D (n + 2) A = D (n + 1) fun i j => A 0 0 * A (i + 1) (j + 1) - A (i + 1) 0 * A 0 (j + 1) := by
  have e := D_off (A 0 0) (fun i => A i 0) A (n := n + 1) (Nat.le_refl _)
  rw [D_col fun i h1 h2 => by rw [if_pos (by omega), Int.mul_comm]; (clear h2 h1 e h; omega)] at e
  simp only [Nat.lt_irrefl, false_and, if_false] at e
  rw [D_congr (B := fun i j => A 0 0 * A (i + 1) (j + 1) - A (i + 1) 0 * A 0 (j + 1)) fun i j hi _ => by rw [if_pos (by omega)]] at e
  rw [Int.pow_succ, Int.mul_comm _ (A 0 0), Int.mul_assoc] at e
  exact (Int.eq_of_mul_eq_mul_left h e).symm
theorem D_swap {n k : Nat} {A B : Mat} (hk : 0 < k) (hn : k < n) (h0 : ∀ c, B 0 c = -A k c) (h1 : ∀ c, B k c = A 0 c) (h : ∀ r c, r ≠ 0 → r ≠ k → B r c = A r c) : D n B = D n A := by
  -- rows (0, k): u, v are A's; f x y has x at 0 and y at k
  have f : ∀ (x y : Nat → Int), ∃ M : Mat, (∀ c, M 0 c = x c) ∧ (∀ c, M k c = y c) ∧ ∀ r c, r ≠ 0 → r ≠ k → M r c = A r c := fun x y =>
    ⟨fun r c => if r = 0 then x c else if r = k then y c else A r c, fun c => by simp, fun c => by simp [show k ≠ 0 by (clear h h1 h0 hn; omega)], fun r c a b => by simp [a, b]⟩
  obtain ⟨Mww, a0, a1, a2⟩ := f (fun c => A 0 c + A k c) (fun c => A 0 c + A k c)
  obtain ⟨Muw, b0, b1, b2⟩ := f (A 0) (fun c => A 0 c + A k c)
  obtain ⟨Mvw, c0, c1, c2⟩ := f (A k) (fun c => A 0 c + A k c)
  obtain ⟨Muu, d0, d1, d2⟩ := f (A 0) (A 0)
  obtain ⟨Mvv, e0, e1, e2⟩ := f (A k) (A k)
  obtain ⟨Mvu, g0, g1, g2⟩ := f (A k) (A 0)
  have off : ∀ {M N : Mat} {r c : Nat}, (∀ c, M k c = N k c) → (∀ r c, r ≠ 0 → r ≠ k → M r c = A r c) → (∀ r c, r ≠ 0 → r ≠ k → N r c = A r c) → r ≠ 0 → M r c = N r c := fun {M N r c} x y z hr => by
    by_cases q : r = k
    · rw [q]; exact x c
    · rw [y r c hr q, z r c hr q]
  have off' : ∀ {M N : Mat} {r c : Nat}, (∀ c, M 0 c = N 0 c) → (∀ r c, r ≠ 0 → r ≠ k → M r c = A r c) → (∀ r c, r ≠ 0 → r ≠ k → N r c = A r c) → r ≠ k → M r c = N r c := fun {M N r c} x y z hr => by
    by_cases q : r = 0
    · rw [q]; exact x c
    · rw [y r c q hr, z r c q hr]
  have s1 := D_lin (n := n) (i := 0) (p := 1) (q := 1) (A := Mww) (B := Muw) (C := Mvw) (by (clear off' off g2 g1 g0 e2 e1 e0 d2 d1 d0 c2 c1 c0 b2 b1 b0 a2 a1 a0 f h h1 h0; omega)) (fun r c hr => ⟨off (fun c => by rw [a1, b1]) a2 b2 hr, off (fun c => by rw [a1, c1]) a2 c2 hr⟩) fun c => by rw [a0, b0, c0]; (clear off' off g2 g1 g0 e2 e1 e0 d2 d1 d0 c2 c1 c0 b2 b1 b0 a2 a1 a0 f h h1 h0 hn hk; omega)
  have s2 := D_lin (n := n) (i := k) (p := 1) (q := 1) (A := Muw) (B := Muu) (C := A) hn (fun r c hr => ⟨off' (fun c => by rw [b0, d0]) b2 d2 hr, off' (fun c => by rw [b0]) b2 (fun _ _ _ _ => rfl) hr⟩) fun c => by rw [b1, d1]; (clear s1 off' off g2 g1 g0 e2 e1 e0 d2 d1 d0 c2 c1 c0 b2 b1 b0 a2 a1 a0 f h h1 h0 hn hk; omega)
  have s3 := D_lin (n := n) (i := k) (p := 1) (q := 1) (A := Mvw) (B := Mvu) (C := Mvv) hn (fun r c hr => ⟨off' (fun c => by rw [c0, g0]) c2 g2 hr, off' (fun c => by rw [c0, e0]) c2 e2 hr⟩) fun c => by rw [c1, g1, e1]; (clear s2 s1 off' off g2 g1 g0 e2 e1 e0 d2 d1 d0 c2 c1 c0 b2 b1 b0 a2 a1 a0 f h h1 h0 hn hk; omega)
  have z1 : D n Mww = 0 := D_eq0 hk hn fun c => by rw [a0, a1]
  have z2 : D n Muu = 0 := D_eq0 hk hn fun c => by rw [d0, d1]
  have z3 : D n Mvv = 0 := D_eq0 hk hn fun c => by rw [e0, e1]
  have s4 := D_row (n := n) (i := 0) (p := -1) (A := B) (B := Mvu) (by (clear z3 z2 z1 s3 s2 s1 off' off g2 g1 g0 e2 e1 e0 d2 d1 d0 c2 c1 c0 b2 b1 b0 a2 a1 a0 f h h1 h0; omega)) (fun r c hr => by
    by_cases q : r = k
    · rw [q, h1, g1]
    · rw [h r c hr q, g2 r c hr q]) fun c => by rw [h0, g0]; (clear z3 z2 z1 s3 s2 s1 off' off g2 g1 g0 e2 e1 e0 d2 d1 d0 c2 c1 c0 b2 b1 b0 a2 a1 a0 f h h1 h0 hn hk; omega)
  (clear off' off g2 g1 g0 e2 e1 e0 d2 d1 d0 c2 c1 c0 b2 b1 b0 a2 a1 a0 f h h1 h0 hn hk; omega)
noncomputable def Dv (b : Int) (R : Nat) (A : Mat) : Prop := ∀ (m : Nat) (ρ κ : Nat → Nat), (∀ i, ρ i < R) → b ^ m ∣ D (m + 1) fun i j => A (ρ i) (κ j)
theorem Dv_one (R : Nat) (A : Mat) : Dv 1 R A := fun m ρ κ _ => by rw [Int.one_pow]; exact Int.one_dvd _
theorem Dv_rows {b : Int} {R : Nat} {A B : Mat} (h : Dv b R A) (π : Nat → Nat) (e : Nat → Int) (hπ : ∀ i, i < R → π i < R) (hB : ∀ i j, i < R → B i j = e i * A (π i) j) : Dv b R B := fun m ρ κ hρ => by
  have z : (D (m + 1) fun i j => B (ρ i) (κ j)) = pr (m + 1) (fun i => e (ρ i)) * D (m + 1) fun i j => A (π (ρ i)) (κ j) := by
    rw [← D_scale]
    exact D_congr fun i j _ _ => hB _ _ (hρ i)
  rw [z]
  exact Int.dvd_mul_of_dvd_right (h m (fun i => π (ρ i)) κ fun i => hπ _ (hρ i))
theorem Dv_two {b : Int} {R : Nat} {A : Mat} (h : Dv b R A) {i j : Nat} (h0 : 0 < R) (hi : i < R) : b ∣ A 0 0 * A i j - A i 0 * A 0 j := by
  have z := h 1 (fun r => if r = 0 then 0 else i) (fun c => if c = 0 then 0 else j) (fun r => by show (if r = 0 then 0 else i) < R; split <;> assumption)
  rw [Int.pow_succ, Int.pow_zero, Int.one_mul] at z
  have e : (D (1 + 1) fun r c => A (if r = 0 then 0 else i) (if c = 0 then 0 else j)) = A 0 0 * A i j - A i 0 * A 0 j := by
    show 0 + sg 0 * A 0 0 * (0 + sg 0 * A i j * 1) + sg 1 * A 0 j * (0 + sg 0 * A i 0 * 1) = _
    rw [show sg 0 = 1 from rfl, show sg 1 = -1 from rfl]
    grind
  rw [e] at z
  exact z
theorem Dv_step {b : Int} {R : Nat} {A B : Mat} (hb : b ≠ 0) (hp : A 0 0 ≠ 0) (h : Dv b (R + 1) A) (hB : ∀ i j, i < R → b * B i j = A 0 0 * A (i + 1) (j + 1) - A (i + 1) 0 * A 0 (j + 1)) : Dv (A 0 0) R B := fun m ρ κ hρ => by
  obtain ⟨t, ht⟩ := h (m + 1) (fun i => match i with | 0 => 0 | i + 1 => ρ i + 1) (fun j => match j with | 0 => 0 | j + 1 => κ j + 1) fun i => by
    cases i with
    | zero => exact Nat.succ_pos _
    | succ i => exact Nat.succ_lt_succ (hρ i)
  have e := D_step (n := m) (A := fun i j => A (match i with | 0 => 0 | i + 1 => ρ i + 1) (match j with | 0 => 0 | j + 1 => κ j + 1)) hp
  have e2 : (D (m + 1) fun i j => A 0 0 * A (ρ i + 1) (κ j + 1) - A (ρ i + 1) 0 * A 0 (κ j + 1)) = b ^ (m + 1) * D (m + 1) fun i j => B (ρ i) (κ j) := by
    rw [← pr_const, ← D_scale]
    exact D_congr fun i j _ _ => (hB _ _ (hρ i)).symm
  have e3 : A 0 0 ^ m * (b ^ (m + 1) * t) = b ^ (m + 1) * D (m + 1) fun i j => B (ρ i) (κ j) := by
    rw [← ht, ← e2]
    exact e
  refine ⟨t, ?_⟩
  refine Int.eq_of_mul_eq_mul_left (Int.pow_ne_zero (m := m + 1) hb) (e3.symm.trans ?_)
  rw [Int.mul_left_comm]
theorem D_next {b : Int} {n : Nat} {A B : Mat} (hp : A 0 0 ≠ 0) (hB : ∀ i j, i < n + 1 → b * B i j = A 0 0 * A (i + 1) (j + 1) - A (i + 1) 0 * A 0 (j + 1)) : A 0 0 ^ n * D (n + 2) A = b ^ (n + 1) * D (n + 1) B := by
  rw [D_step hp, ← pr_const, ← D_scale]
  exact D_congr fun i j hi _ => (hB i j hi).symm
end RimD
set_option linter.all false
namespace RimD
noncomputable def gi (r : List Int) (j : Nat) : Int := r.getD j 0
noncomputable def ma (rows : List (List Int)) : Mat := fun i j => gi (rows.getD i []) j
noncomputable def lessP (piv : List Int) (b : Int) (row : List Int) : List Int := (List.range (row.length - 1)).map fun j => (gi piv 0 * gi row (j + 1) - gi row 0 * gi piv (j + 1)).fdiv b
noncomputable def firstP (rows : List (List Int)) : Nat → Nat → Option Nat
  | _, 0 => none
  | j, n + 1 => if gi (rows.getD j []) 0 ≠ 0 then some j else firstP rows (j + 1) n
noncomputable def pivP (rows : List (List Int)) (free : Nat) : List (List Int) := match firstP rows 0 free with
  | none => []
  | some 0 => rows
  | some (k + 1) => [(rows.getD (k + 1) []).map fun x => -x] ++ (rows.drop 1).take k ++ [rows.getD 0 []] ++ rows.drop (k + 2)
noncomputable def sweepP : Nat → Int → List (List Int) → Int × List (List Int)
  | 0, b, left => (b, left)
  | free + 1, b, left => match pivP left (free + 1) with
    | [] => (0, [])
    | piv :: others => sweepP free (gi piv 0) (others.map (lessP piv b) ++ [piv.drop 1])
theorem firstP_none {rows : List (List Int)} : ∀ {n j : Nat}, firstP rows j n = none → ∀ i, j ≤ i → i < j + n → gi (rows.getD i []) 0 = 0
  | 0, _, _, _, _, _ => by omega
  | n + 1, j, h, i, h1, h2 => by
    unfold firstP at h
    split at h
    · cases h
    · rename_i q
      by_cases e : i = j
      · subst e; exact Decidable.of_not_not q
      · exact firstP_none h i (by (clear h q h2; omega)) (by (clear e h q h1; omega))
theorem firstP_some {rows : List (List Int)} : ∀ {n j k : Nat}, firstP rows j n = some k → j ≤ k ∧ k < j + n ∧ gi (rows.getD k []) 0 ≠ 0
  | 0, _, _, h => by cases h
  | n + 1, j, k, h => by
    unfold firstP at h
    split at h
    · rename_i q; cases h; exact ⟨Nat.le_refl _, by omega, q⟩
    · obtain ⟨a, b, c⟩ := firstP_some h
      exact ⟨by (clear c b h; omega), by (clear c a h; omega), c⟩
theorem gi_map {f : Int → Int} (h : f 0 = 0) (r : List Int) (j : Nat) : gi (r.map f) j = f (gi r j) := by
  unfold gi
  simp only [List.getD_eq_getElem?_getD, List.getElem?_map]
  cases r[j]? <;> simp [h]
theorem piv_at {rows : List (List Int)} {k : Nat} (hk : k + 1 < rows.length) (i : Nat) :
    ([(rows.getD (k + 1) []).map fun x => -x] ++ (rows.drop 1).take k ++ [rows.getD 0 []] ++ rows.drop (k + 2)).getD i [] = if i = 0 then (rows.getD (k + 1) []).map fun x => -x else if i = k + 1 then rows.getD 0 [] else rows.getD i [] := by
  have l : ((rows.drop 1).take k).length = k := by simp; omega
  simp only [List.getD_eq_getElem?_getD, List.append_assoc, List.singleton_append, List.cons_append, List.nil_append]
  by_cases h0 : i = 0
  · subst h0; simp
  · obtain ⟨i, rfl⟩ : ∃ j, i = j + 1 := ⟨i - 1, by omega⟩
    rw [if_neg h0, List.getElem?_cons_succ]
    by_cases h1 : i < k
    · rw [List.getElem?_append_left (by rw [l]; exact h1), List.getElem?_take_of_lt h1, List.getElem?_drop, if_neg (by omega), Nat.add_comm 1 i]
    · rw [List.getElem?_append_right (by rw [l]; omega), l]
      by_cases h2 : i = k
      · subst h2; simp
      · rw [if_neg (by (clear h1 h0 hk; omega))]
        obtain ⟨d, rfl⟩ : ∃ d, i = k + 1 + d := ⟨i - (k + 1), by omega⟩
        rw [show k + 1 + d - k = d + 1 by (clear h2 h1 h0 l hk; omega), List.getElem?_cons_succ, List.getElem?_drop]
        rw [show k + 2 + d = k + 1 + d + 1 by (clear h2 h1 h0 l hk; omega)]
theorem piv_len {rows : List (List Int)} {k : Nat} (hk : k + 1 < rows.length) : ([(rows.getD (k + 1) []).map fun x => -x] ++ (rows.drop 1).take k ++ [rows.getD 0 []] ++ rows.drop (k + 2)).length = rows.length := by
  simp only [List.length_append, List.length_cons, List.length_nil, List.length_take, List.length_drop]
  omega
structure Rect (w : Nat) (rows : List (List Int)) : Prop where
  w : ∀ r ∈ rows, r.length = w
theorem Rect.at {w : Nat} {rows : List (List Int)} (h : Rect w rows) {i : Nat} (hi : i < rows.length) : (rows.getD i []).length = w := by
  rw [List.getD_eq_getElem?_getD, List.getElem?_eq_getElem hi]
  exact h.w _ (List.getElem_mem _)
theorem gi_over {r : List Int} {j : Nat} (h : r.length ≤ j) : gi r j = 0 := by
  unfold gi
  rw [List.getD_eq_getElem?_getD, List.getElem?_eq_none h]
  rfl
theorem piv_some {rows ord : List (List Int)} {m : Nat} {b : Int} {w : Nat} (hl : m + 1 ≤ rows.length) (hw : Rect w rows) (hd : Dv b (m + 1) (ma rows)) (h : pivP rows (m + 1) = ord) (hn : ord ≠ []) :
    ord.length = rows.length ∧ Rect w ord ∧ ma ord 0 0 ≠ 0 ∧ Dv b (m + 1) (ma ord) ∧ D (m + 1) (ma ord) = D (m + 1) (ma rows) := by
  unfold pivP at h
  split at h
  · exact absurd h.symm hn
  · rename_i e
    subst h
    obtain ⟨_, _, c⟩ := firstP_some e
    exact ⟨rfl, hw, c, hd, rfl⟩
  · rename_i k e
    obtain ⟨_, hk, c⟩ := firstP_some e
    have hk' : k + 1 < rows.length := by (clear c h e hn hd hw; omega)
    subst h
    have at' := piv_at hk'
    have ln := piv_len hk'
    generalize ([(rows.getD (k + 1) []).map fun x => -x] ++ (rows.drop 1).take k ++ [rows.getD 0 []] ++ rows.drop (k + 2)) = ord at *
    have m0 : ∀ c, ma ord 0 c = -ma rows (k + 1) c := fun c => by unfold ma; rw [at', if_pos rfl, gi_map (by rfl)]
    have m1 : ∀ c, ma ord (k + 1) c = ma rows 0 c := fun c => by unfold ma; rw [at', if_neg (by (clear m0 ln at' hn hk' hk e hd hw hl; omega)), if_pos rfl]
    have m2 : ∀ r c, r ≠ 0 → r ≠ k + 1 → ma ord r c = ma rows r c := fun r c a b => by unfold ma; rw [at', if_neg a, if_neg b]
    refine ⟨ln, ⟨fun r hr => ?_⟩, ?_, ?_, ?_⟩
    · obtain ⟨i, hi, rfl⟩ := List.mem_iff_getElem.mp hr
      have e : ord[i] = ord.getD i [] := by rw [List.getD_eq_getElem?_getD, List.getElem?_eq_getElem hi]; rfl
      rw [e, at']
      split
      · rw [List.length_map]; exact hw.at hk'
      · split
        · exact hw.at (by (clear e hr m2 m1 m0 at' hn hk' c hk hd hw hl; omega))
        · exact hw.at (by (clear e hr m2 m1 m0 at' hn hk' c hk hd hw hl; omega))
    · rw [m0]
      have c' : ma rows (k + 1) 0 ≠ 0 := c
      (clear m2 m1 m0 ln at' hn hk' c hk e hd hw hl; omega)
    · refine Dv_rows hd (fun i => if i = 0 then k + 1 else if i = k + 1 then 0 else i) (fun i => if i = 0 then -1 else 1) (fun i hi => ?_) fun i j hi => ?_
      · show (if i = 0 then k + 1 else if i = k + 1 then 0 else i) < m + 1
        split
        · (clear hi m2 m1 m0 ln at' hn hk' c e hd hw hl; omega)
        · split <;> (clear m2 m1 m0 ln at' hn hk' c hk e hd hw hl; omega)
      · by_cases h0 : i = 0
        · subst h0; simp only [if_true]; rw [m0]; (clear hi m2 m1 m0 ln at' hn hk' c hk e hd hw hl; omega)
        · simp only [if_neg h0]
          by_cases h1 : i = k + 1
          · subst h1; simp only [if_true]; rw [m1]; (clear h0 hi m2 m1 m0 ln at' hn hk' c hk e hd hw hl; omega)
          · simp only [if_neg h1]; rw [m2 i j h0 h1]; (clear h1 h0 hi m2 m1 m0 ln at' hn hk' c hk e hd hw hl; omega)
    · exact D_swap (k := k + 1) (by (clear m2 m1 m0 ln at' hn hk' c hk e hd hw hl; omega)) (by (clear m2 m1 m0 ln at' hn hk' c e hd hw hl; omega)) m0 m1 m2
theorem piv_none {rows : List (List Int)} {m : Nat} (hl : 0 < rows.length) (h : pivP rows (m + 1) = []) : D (m + 1) (ma rows) = 0 := by
  unfold pivP at h
  split at h
  · rename_i e
    exact D_zero fun i hi => firstP_none e i (by (clear hi h e hl; omega)) (by (clear h e hl; omega))
  · subst h; simp at hl
  · simp at h
theorem gi_less {piv row : List Int} {b : Int} (h : row.length = piv.length) (j : Nat) : gi (lessP piv b row) j = (gi piv 0 * gi row (j + 1) - gi row 0 * gi piv (j + 1)).fdiv b := by
  by_cases hj : j < row.length - 1
  · unfold lessP
    show ((List.range (row.length - 1)).map _).getD j 0 = _
    rw [List.getD_eq_getElem?_getD, List.getElem?_map, List.getElem?_range hj]
    rfl
  · rw [gi_over (r := lessP piv b row) (by unfold lessP; simp; omega), gi_over (r := row) (j := j + 1) (by omega), gi_over (r := piv) (j := j + 1) (by omega)]
    simp
theorem fdiv_exact {b x : Int} (h : b ∣ x) (hb : b ≠ 0) : b * x.fdiv b = x := Int.mul_fdiv_cancel' h
theorem sweep_det (V : Int) : ∀ {free w : Nat} {b : Int} {left : List (List Int)}, free ≤ left.length → free ≤ w → Rect w left → b ≠ 0 → Dv b free (ma left) → (free = 0 → b = V) → (∀ m, free = m + 1 → D (m + 1) (ma left) = b ^ m * V) → (sweepP free b left).1 = V
  | 0, _, b, left, _, _, _, _, _, h0, _ => h0 rfl
  | m + 1, w, b, left, hl, hw, hr, hb, hd, _, h1 => by
    have v := h1 m rfl
    unfold sweepP
    split
    · rename_i e
      rw [piv_none (by (clear e v h1 hd hb hr hw; omega)) e] at v
      rcases Int.mul_eq_zero.mp v.symm with z | z
      · exact absurd z (Int.pow_ne_zero hb)
      · exact z.symm
    · rename_i piv others e
      obtain ⟨ln, rect, hp, dv, dd⟩ := piv_some hl hr hd e (by simp)
      rw [← dd] at v
      have pw : piv.length = w := rect.w _ (.head _)
      have row : ∀ i j, i < others.length → ma (others.map (lessP piv b) ++ [piv.drop 1]) i j = (ma (piv :: others) 0 0 * ma (piv :: others) (i + 1) (j + 1) - ma (piv :: others) (i + 1) 0 * ma (piv :: others) 0 (j + 1)).fdiv b := fun i j hi => by
        unfold ma
        have e1 : (others.map (lessP piv b) ++ [piv.drop 1]).getD i [] = lessP piv b (others.getD i []) := by
          rw [List.getD_eq_getElem?_getD, List.getElem?_append_left (by simpa using hi), List.getElem?_map, List.getD_eq_getElem?_getD, List.getElem?_eq_getElem hi]
          rfl
        have e2 : (piv :: others).getD (i + 1) [] = others.getD i [] := rfl
        have e3 : (piv :: others).getD 0 [] = piv := rfl
        rw [e1, e2, e3, gi_less]
        rw [pw]
        exact Rect.at ⟨fun r h => rect.w r (.tail _ h)⟩ hi
      have ol : others.length + 1 = left.length := ln
      have ex : ∀ i j, i < m → b * ma (others.map (lessP piv b) ++ [piv.drop 1]) i j = ma (piv :: others) 0 0 * ma (piv :: others) (i + 1) (j + 1) - ma (piv :: others) (i + 1) 0 * ma (piv :: others) 0 (j + 1) := fun i j hi => by
        rw [row i j (by (clear row pw dd dv hp rect e v h1 hd hb hr hw; omega))]
        exact fdiv_exact (Dv_two dv (by (clear hi ol row pw dd dv hp rect ln e v h1 hd hb hr hw hl; omega)) (by (clear ol row pw dd dv hp rect ln e v h1 hd hb hr hw hl; omega))) hb
      have hp' : gi piv 0 ≠ 0 := hp
      refine sweep_det V (w := w - 1) (by simp; (clear hp' ex row pw dd dv hp rect e v h1 hd hb hr hw; omega)) (by (clear hp' ex ol row dd dv hp rect ln e v h1 hd hb hr hl; omega)) ⟨fun r hx => ?_⟩ hp' ?_ (fun z => ?_) fun m' z => ?_
      · rcases List.mem_append.mp hx with hx | hx
        · obtain ⟨r', hr', rfl⟩ := List.mem_map.mp hx
          have := rect.w r' (.tail _ hr')
          unfold lessP
          simp
          (clear hx hr' hp' ex ol row dd dv hp rect ln e v h1 hd hb hr hl; omega)
        · simp at hx
          subst hx
          simp
          (clear hx hp' ex ol row dd dv hp rect ln e v h1 hd hb hr hl; omega)
      · exact Dv_step (A := ma (piv :: others)) hb hp dv ex
      · subst z
        have v' : D 1 (ma (piv :: others)) = b ^ 0 * V := v
        rw [Int.pow_zero, Int.one_mul] at v'
        have : D 1 (ma (piv :: others)) = gi piv 0 := by
          show 0 + sg 0 * gi piv 0 * 1 = gi piv 0
          rw [show sg 0 = 1 from rfl]
          (clear v' ex dd dv e v h1 hd hw hl hp' ol row pw hp rect ln hb hr; omega)
        (clear ex dd dv e v h1 hd hw hl hp' ol row pw hp rect ln hb hr; omega)
      · subst z
        have n := D_next (A := ma (piv :: others)) (n := m') hp ex
        rw [v] at n
        refine Int.eq_of_mul_eq_mul_left (Int.pow_ne_zero (m := m' + 1) hb) (n.symm.trans ?_)
        show gi piv 0 ^ m' * (b ^ (m' + 1) * V) = _
        rw [Int.mul_left_comm]
theorem sweep_is {rows : List (List Int)} {w : Nat} (hw : Rect w rows) (h : rows.length ≤ w) : (sweepP rows.length 1 rows).1 = D rows.length (ma rows) :=
  sweep_det _ (Nat.le_refl _) h hw (by decide) (Dv_one _ _) (fun z => by rw [z]; rfl) fun m z => by rw [Int.one_pow, Int.one_mul, z]
end RimD
set_option linter.all false
namespace RimD
open RimM
theorem pr_front : ∀ (n : Nat) (b : Nat → Int), pr (n + 1) b = b 0 * pr n fun i => b (i + 1)
  | 0, b => by show 1 * b 0 = b 0 * 1; omega
  | n + 1, b => by
    show pr (n + 1) b * b (n + 1) = b 0 * (pr n (fun i => b (i + 1)) * b (n + 1))
    rw [pr_front n b, Int.mul_assoc]
theorem su_le : ∀ {n : Nat} {f : Nat → Int} {K : Nat}, (∀ k, k < n → (f k).natAbs ≤ K) → (su n f).natAbs ≤ n * K
  | 0, _, _, _ => by show 0 ≤ _; omega
  | n + 1, f, K, h => by
    have a := su_le (n := n) (f := f) (K := K) fun k hk => h k (by omega)
    have b := h n (by omega)
    have c := Int.natAbs_add_le (su n f) (f n)
    show (su n f + f n).natAbs ≤ (n + 1) * K
    rw [Nat.succ_mul]
    omega
theorem sg_abs (k : Nat) : (sg k).natAbs = 1 := by unfold sg; split <;> rfl
theorem gi_le {B : Nat} {r : List Int} (h : ∀ x ∈ r, x.natAbs ≤ 2 ^ B) (j : Nat) : (gi r j).natAbs ≤ 2 ^ B := by
  unfold gi
  rw [List.getD_eq_getElem?_getD]
  cases e : r[j]? with
  | none => simp
  | some x => exact h x (List.mem_of_getElem? e)
end RimD
set_option linter.all false
namespace RimD
theorem D_sw {n i k : Nat} {A B : Mat} (hk : i < k) (hn : k < n) (h0 : ∀ c, B i c = A k c) (h1 : ∀ c, B k c = A i c) (h : ∀ r c, r ≠ i → r ≠ k → B r c = A r c) : D n B = -D n A := by
  have f : ∀ (x y : Nat → Int), ∃ M : Mat, (∀ c, M i c = x c) ∧ (∀ c, M k c = y c) ∧ ∀ r c, r ≠ i → r ≠ k → M r c = A r c := fun x y =>
    ⟨fun r c => if r = i then x c else if r = k then y c else A r c, fun c => by simp, fun c => by simp [show k ≠ i by (clear h h1 h0 hn; omega)], fun r c a b => by simp [a, b]⟩
  obtain ⟨Mww, a0, a1, a2⟩ := f (fun c => A i c + A k c) (fun c => A i c + A k c)
  obtain ⟨Muw, b0, b1, b2⟩ := f (A i) (fun c => A i c + A k c)
  obtain ⟨Mvw, c0, c1, c2⟩ := f (A k) (fun c => A i c + A k c)
  obtain ⟨Muu, d0, d1, d2⟩ := f (A i) (A i)
  obtain ⟨Mvv, e0, e1, e2⟩ := f (A k) (A k)
  have off : ∀ {M N : Mat} {r c : Nat}, (∀ c, M k c = N k c) → (∀ r c, r ≠ i → r ≠ k → M r c = A r c) → (∀ r c, r ≠ i → r ≠ k → N r c = A r c) → r ≠ i → M r c = N r c := fun {M N r c} x y z hr => by
    by_cases q : r = k
    · rw [q]; exact x c
    · rw [y r c hr q, z r c hr q]
  have off' : ∀ {M N : Mat} {r c : Nat}, (∀ c, M i c = N i c) → (∀ r c, r ≠ i → r ≠ k → M r c = A r c) → (∀ r c, r ≠ i → r ≠ k → N r c = A r c) → r ≠ k → M r c = N r c := fun {M N r c} x y z hr => by
    by_cases q : r = i
    · rw [q]; exact x c
    · rw [y r c q hr, z r c q hr]
  have s1 := D_lin (n := n) (i := i) (p := 1) (q := 1) (A := Mww) (B := Muw) (C := Mvw) (by (clear off' off e2 e1 e0 d2 d1 d0 c2 c1 c0 b2 b1 b0 a2 a1 a0 f h h1 h0; omega)) (fun r c hr => ⟨off (fun c => by rw [a1, b1]) a2 b2 hr, off (fun c => by rw [a1, c1]) a2 c2 hr⟩) fun c => by rw [a0, b0, c0]; (clear off' off e2 e1 e0 d2 d1 d0 c2 c1 c0 b2 b1 b0 a2 a1 a0 f h h1 h0 hn hk; omega)
  have s2 := D_lin (n := n) (i := k) (p := 1) (q := 1) (A := Muw) (B := Muu) (C := A) hn (fun r c hr => ⟨off' (fun c => by rw [b0, d0]) b2 d2 hr, off' (fun c => by rw [b0]) b2 (fun _ _ _ _ => rfl) hr⟩) fun c => by rw [b1, d1]; (clear s1 off' off e2 e1 e0 d2 d1 d0 c2 c1 c0 b2 b1 b0 a2 a1 a0 f h h1 h0 hn hk; omega)
  have s3 := D_lin (n := n) (i := k) (p := 1) (q := 1) (A := Mvw) (B := B) (C := Mvv) hn (fun r c hr => ⟨off' (fun c => by rw [c0, h0]) c2 h hr, off' (fun c => by rw [c0, e0]) c2 e2 hr⟩) fun c => by rw [c1, h1, e1]; (clear s2 s1 off' off e2 e1 e0 d2 d1 d0 c2 c1 c0 b2 b1 b0 a2 a1 a0 f h h1 h0 hn hk; omega)
  have z1 : D n Mww = 0 := D_eq0 hk hn fun c => by rw [a0, a1]
  have z2 : D n Muu = 0 := D_eq0 hk hn fun c => by rw [d0, d1]
  have z3 : D n Mvv = 0 := D_eq0 hk hn fun c => by rw [e0, e1]
  (clear off' off e2 e1 e0 d2 d1 d0 c2 c1 c0 b2 b1 b0 a2 a1 a0 f h h1 h0 hn hk; omega)
noncomputable def Mn (b : Int) (R k : Nat) (A A0 : Mat) (R0 : Nat) : Prop := ∀ (m : Nat) (ρ κ : Nat → Nat), (∀ i, ρ i < R) → ∃ (e : Int) (ρ0 κ0 : Nat → Nat), e.natAbs = 1 ∧ (∀ i, ρ0 i < R0) ∧ (D (m + 1) fun i j => A (ρ i) (κ j)) = e * b ^ m * D (m + 1 + k) fun i j => A0 (ρ0 i) (κ0 j)
theorem Mn_one (R : Nat) (A : Mat) : Mn 1 R 0 A A R := fun m ρ κ h => ⟨1, ρ, κ, rfl, h, by rw [Int.one_pow, Int.one_mul, Int.one_mul]⟩
theorem pr_abs : ∀ {n : Nat} {e : Nat → Int}, (∀ i, i < n → (e i).natAbs = 1) → (pr n e).natAbs = 1
  | 0, _, _ => rfl
  | n + 1, e, h => by
    show (pr n e * e n).natAbs = 1
    rw [Int.natAbs_mul, pr_abs fun i hi => h i (by omega), h n (by omega)]
theorem Mn_rows {b : Int} {R k R0 : Nat} {A B A0 : Mat} (h : Mn b R k A A0 R0) (π : Nat → Nat) (e : Nat → Int) (he : ∀ i, (e i).natAbs = 1) (hπ : ∀ i, i < R → π i < R) (hB : ∀ i j, i < R → B i j = e i * A (π i) j) : Mn b R k B A0 R0 := fun m ρ κ hρ => by
  have z : (D (m + 1) fun i j => B (ρ i) (κ j)) = pr (m + 1) (fun i => e (ρ i)) * D (m + 1) fun i j => A (π (ρ i)) (κ j) := by
    rw [← D_scale]
    exact D_congr fun i j _ _ => hB _ _ (hρ i)
  obtain ⟨e0, ρ0, κ0, a, c, d⟩ := h m (fun i => π (ρ i)) κ fun i => hπ _ (hρ i)
  refine ⟨pr (m + 1) (fun i => e (ρ i)) * e0, ρ0, κ0, ?_, c, ?_⟩
  · rw [Int.natAbs_mul, a, pr_abs fun i _ => he _]
  · rw [z, d]
    ac_rfl
theorem Mn_step {b : Int} {R k R0 : Nat} {A B A0 : Mat} (hb : b ≠ 0) (hp : A 0 0 ≠ 0) (h : Mn b (R + 1) k A A0 R0) (hB : ∀ i j, i < R → b * B i j = A 0 0 * A (i + 1) (j + 1) - A (i + 1) 0 * A 0 (j + 1)) : Mn (A 0 0) R (k + 1) B A0 R0 := fun m ρ κ hρ => by
  obtain ⟨e0, ρ0, κ0, a, c, ht⟩ := h (m + 1) (fun i => match i with | 0 => 0 | i + 1 => ρ i + 1) (fun j => match j with | 0 => 0 | j + 1 => κ j + 1) fun i => by
    cases i with
    | zero => exact Nat.succ_pos _
    | succ i => exact Nat.succ_lt_succ (hρ i)
  have e := D_step (n := m) (A := fun i j => A (match i with | 0 => 0 | i + 1 => ρ i + 1) (match j with | 0 => 0 | j + 1 => κ j + 1)) hp
  have e2 : (D (m + 1) fun i j => A 0 0 * A (ρ i + 1) (κ j + 1) - A (ρ i + 1) 0 * A 0 (κ j + 1)) = b ^ (m + 1) * D (m + 1) fun i j => B (ρ i) (κ j) := by
    rw [← pr_const, ← D_scale]
    exact D_congr fun i j _ _ => (hB _ _ (hρ i)).symm
  have e3 : A 0 0 ^ m * (e0 * b ^ (m + 1) * D (m + 1 + 1 + k) fun i j => A0 (ρ0 i) (κ0 j)) = b ^ (m + 1) * D (m + 1) fun i j => B (ρ i) (κ j) := by
    rw [← ht, ← e2]
    exact e
  refine ⟨e0, ρ0, κ0, a, c, ?_⟩
  refine Int.eq_of_mul_eq_mul_left (Int.pow_ne_zero (m := m + 1) hb) (e3.symm.trans ?_)
  rw [show m + 1 + (k + 1) = m + 1 + 1 + k by (clear e3 e2 e ht c a hρ hB h hp hb; omega)]
  ac_rfl
theorem Mn_le {b : Int} {R k R0 C : Nat} {A A0 : Mat} (h : Mn b R k A A0 R0) (hC : ∀ ρ κ : Nat → Nat, (∀ i, ρ i < R0) → (D (k + 1) fun i j => A0 (ρ i) (κ j)).natAbs ≤ C) {i j : Nat} (hi : i < R) : (A i j).natAbs ≤ C := by
  obtain ⟨e, ρ0, κ0, a, c, d⟩ := h 0 (fun _ => i) (fun _ => j) fun _ => hi
  have z : (D (0 + 1) fun _ _ => A i j) = A i j := by
    show 0 + sg 0 * A i j * 1 = A i j
    rw [show sg 0 = 1 from rfl]; (clear d c a hi hC h; omega)
  rw [z, Int.pow_zero, Int.mul_one] at d
  rw [d, Int.natAbs_mul, a, Nat.one_mul, show 0 + 1 + k = k + 1 by (clear z d c a hi hC h; omega)]
  exact hC ρ0 κ0 c
theorem D_le4 {B : Nat} : ∀ {n : Nat} {N : Mat}, n ≤ 16 → (∀ i j, i < n → j < n → (N i j).natAbs ≤ 2 ^ B) → (D n N).natAbs ≤ 2 ^ ((B + 4) * n)
  | 0, _, _, _ => by show 1 ≤ 2 ^ ((B + 4) * 0); simp
  | n + 1, N, h8, h => by
    have z : (D (n + 1) N).natAbs ≤ (n + 1) * (2 ^ B * 2 ^ ((B + 4) * n)) := su_le fun k hk => by
      rw [Int.natAbs_mul, Int.natAbs_mul, sg_abs, Nat.one_mul]
      exact Nat.mul_le_mul (h 0 k (by omega) hk) (D_le4 (by omega) fun i j hi hj => h _ _ (by (clear hj hk h h8; omega)) (by unfold sk; split <;> (clear hi hk h h8; omega)))
    refine Nat.le_trans z (Nat.le_trans (Nat.mul_le_mul_right _ h8) ?_)
    rw [show (16 : Nat) = 2 ^ 4 by rfl, ← Nat.pow_add, ← Nat.pow_add, Nat.mul_succ]
    exact Nat.pow_le_pow_right (by decide) (by (clear z h h8; omega))
end RimD
set_option linter.all false
namespace RimD
theorem piv_all {rows ord : List (List Int)} {free : Nat} {b : Int} (hl : free ≤ rows.length) (hd : Dv b rows.length (ma rows)) (h : pivP rows free = ord) (hn : ord ≠ []) : Dv b rows.length (ma ord) := by
  unfold pivP at h
  split at h
  · exact absurd h.symm hn
  · subst h; exact hd
  · rename_i k' e
    obtain ⟨_, hk, c⟩ := firstP_some e
    have hk' : k' + 1 < rows.length := by (clear c h e hn hd; omega)
    subst h
    have at' := piv_at hk'
    generalize ([(rows.getD (k' + 1) []).map fun x => -x] ++ (rows.drop 1).take k' ++ [rows.getD 0 []] ++ rows.drop (k' + 2)) = ord at *
    have m0 : ∀ c, ma ord 0 c = -ma rows (k' + 1) c := fun c => by unfold ma; rw [at', if_pos rfl, gi_map (by rfl)]
    have m1 : ∀ c, ma ord (k' + 1) c = ma rows 0 c := fun c => by unfold ma; rw [at', if_neg (by (clear m0 at' hn hk' hk e hd hl; omega)), if_pos rfl]
    have m2 : ∀ r c, r ≠ 0 → r ≠ k' + 1 → ma ord r c = ma rows r c := fun r c a b => by unfold ma; rw [at', if_neg a, if_neg b]
    refine Dv_rows hd (fun i => if i = 0 then k' + 1 else if i = k' + 1 then 0 else i) (fun i => if i = 0 then -1 else 1) (fun i hi => ?_) fun i j hi => ?_
    · show (if i = 0 then k' + 1 else if i = k' + 1 then 0 else i) < rows.length
      split
      · (clear hi m2 m1 m0 at' hn c hk e hd hl; omega)
      · split <;> (clear m2 m1 m0 at' hn c hk e hd hl; omega)
    · by_cases h0 : i = 0
      · subst h0; simp only [if_true]; rw [m0]; (clear hi m2 m1 m0 at' hn hk' c hk e hd hl; omega)
      · simp only [if_neg h0]
        by_cases h1 : i = k' + 1
        · subst h1; simp only [if_true]; rw [m1]; (clear h0 hi m2 m1 m0 at' hn hk' c hk e hd hl; omega)
        · simp only [if_neg h1]; rw [m2 i j h0 h1]; (clear h1 h0 hi m2 m1 m0 at' hn hk' c hk e hd hl; omega)
theorem Dv_keep {b : Int} {R : Nat} {A B : Mat} (hb : b ≠ 0) (hp : A 0 0 ≠ 0) (h : Dv b (R + 1) A) (hB : ∀ i j, i < R → b * B i j = A 0 0 * A (i + 1) (j + 1) - A (i + 1) 0 * A 0 (j + 1)) (hL : ∀ j, B R j = A 0 (j + 1)) : Dv (A 0 0) (R + 1) B := by
  have step := Dv_step hb hp h hB
  -- the last row once, as the first of the chosen ones
  have first : ∀ (m : Nat) (ρ κ : Nat → Nat), ρ 0 = R → (∀ i, 0 < i → i < m + 1 → ρ i < R) → A 0 0 ^ m ∣ D (m + 1) fun i j => B (ρ i) (κ j) := fun m ρ κ h0 hρ => by
    obtain ⟨t, ht⟩ := h m (fun i => if 0 < i ∧ i < m + 1 then ρ i + 1 else 0) (fun j => κ j + 1) fun i => by
      show (if 0 < i ∧ i < m + 1 then ρ i + 1 else 0) < R + 1
      split
      · rename_i z; exact Nat.succ_lt_succ (hρ i z.1 z.2)
      · (clear hρ step hL hB h hp hb; omega)
    have e := D_off (A 0 0) (fun i => A (ρ i + 1) 0) (fun i j => A (if 0 < i ∧ i < m + 1 then ρ i + 1 else 0) (κ j + 1)) (n := m) (Nat.le_refl _)
    have e2 : (D (m + 1) fun i j => if 0 < i ∧ i ≤ m then A 0 0 * A (if 0 < i ∧ i < m + 1 then ρ i + 1 else 0) (κ j + 1) - A (ρ i + 1) 0 * A (if 0 < 0 ∧ 0 < m + 1 then ρ 0 + 1 else 0) (κ j + 1) else A (if 0 < i ∧ i < m + 1 then ρ i + 1 else 0) (κ j + 1)) = D (m + 1) fun i j => (if i = 0 then 1 else b) * B (ρ i) (κ j) := D_congr fun i j hi _ => by
      by_cases z : i = 0
      · subst z
        rw [if_neg (by (clear hi e ht hρ h0 step hL hB h hp hb; omega)), if_neg (by (clear hi e ht hρ h0 step hL hB h hp hb; omega)), if_pos rfl, h0, hL, Int.one_mul]
      · rw [if_pos (by (clear e ht hρ h0 step hL hB h hp hb; omega)), if_pos (by (clear e ht hρ h0 step hL hB h hp hb; omega)), if_neg (by (clear z hi e ht hρ h0 step hL hB h hp hb; omega)), if_neg z, hB _ _ (hρ i (by (clear hi e ht hρ h0 step hL hB h hp hb; omega)) hi)]
    have e3 : pr (m + 1) (fun i => if i = 0 then 1 else b) = b ^ m := by
      rw [pr_front, if_pos rfl, Int.one_mul, ← pr_const]
      congr 1
    rw [e2, D_scale, e3, ht] at e
    refine ⟨t, Int.eq_of_mul_eq_mul_left (Int.pow_ne_zero (m := m) hb) (e.trans ?_)⟩
    rw [Int.mul_left_comm]
  intro m ρ κ hρ
  by_cases hex : ∃ s, s < m + 1 ∧ ρ s = R
  · obtain ⟨s, hs, es⟩ := hex
    by_cases two : ∃ t, t < m + 1 ∧ t ≠ s ∧ ρ t = R
    · obtain ⟨t, ht, nts, et⟩ := two
      have z : (D (m + 1) fun i j => B (ρ i) (κ j)) = 0 := by
        rcases Nat.lt_or_gt_of_ne nts with q | q
        · exact D_eq0 (i := t) (j := s) q hs fun c => by rw [et, es]
        · exact D_eq0 (i := s) (j := t) q ht fun c => by rw [et, es]
      rw [z]
      exact Int.dvd_zero _
    · have others : ∀ t, t < m + 1 → t ≠ s → ρ t < R := fun t ht nts => by
        have := hρ t
        have : ρ t ≠ R := fun z => two ⟨t, ht, nts, z⟩
        (clear nts ht two es hs hρ first step hL hB h hp hb; omega)
      by_cases s0 : s = 0
      · subst s0
        exact first m ρ κ es fun i h1 h2 => others i h2 (by (clear h2 others two es hs hρ first step hL hB h hp hb; omega))
      · have sw := D_sw (n := m + 1) (i := 0) (k := s) (A := fun i j => B (ρ (if i = 0 then s else if i = s then 0 else i)) (κ j)) (B := fun i j => B (ρ i) (κ j)) (by (clear others two es hs hρ first step hL hB h hp hb; omega)) hs (fun c => by rw [if_neg s0, if_pos rfl]) (fun c => by rw [if_pos rfl]) fun r c h1 h2 => by rw [if_neg h1, if_neg h2]
        rw [sw]
        refine Int.dvd_neg.mpr (first m (fun i => ρ (if i = 0 then s else if i = s then 0 else i)) κ (by rw [if_pos rfl]; exact es) fun i h1 h2 => ?_)
        show ρ (if i = 0 then s else if i = s then 0 else i) < R
        rw [if_neg (by (clear h2 sw s0 others two es hs hρ first step hL hB h hp hb; omega))]
        split
        · exact others 0 (by (clear h2 h1 sw s0 others two es hs hρ first step hL hB h hp hb; omega)) (by (clear h2 sw s0 others two es hs hρ first step hL hB h hp hb; omega))
        · rename_i z; exact others i h2 z
  · have all : ∀ i, i < m + 1 → ρ i < R := fun i hi => by
      have := hρ i
      have : ρ i ≠ R := fun z => hex ⟨i, hi, z⟩
      (clear hi hex hρ first step hL hB h hp hb; omega)
    have c : (D (m + 1) fun i j => B (ρ i) (κ j)) = D (m + 1) fun i j => B (ρ (if i < m + 1 then i else 0)) (κ j) := D_congr fun i j hi _ => by rw [if_pos hi]
    rw [c]
    refine step m (fun i => ρ (if i < m + 1 then i else 0)) κ fun i => ?_
    show ρ (if i < m + 1 then i else 0) < R
    split
    · rename_i z; exact all i z
    · exact all 0 (by (clear c all hex hρ first step hL hB h hp hb; omega))
noncomputable def dtO (r : List Int) (i : Nat) (x : Nat → Int) : Int := su r.length fun j => gi r j * x (j + i)
theorem dtO_neg (r : List Int) (i : Nat) (x : Nat → Int) : dtO (r.map fun y => -y) i x = -dtO r i x := by
  unfold dtO
  rw [List.length_map, show -(su r.length fun j => gi r j * x (j + i)) = -1 * su r.length fun j => gi r j * x (j + i) by omega, ← su_mul]
  refine su_congr fun j hj => ?_
  rw [gi_map (by rfl), Int.neg_mul]
  omega
theorem gi_drop (r : List Int) (j : Nat) : gi (r.drop 1) j = gi r (j + 1) := by
  unfold gi
  rw [List.getD_eq_getElem?_getD, List.getD_eq_getElem?_getD, List.getElem?_drop, Nat.add_comm]
theorem dtO_first {r : List Int} (h : 0 < r.length) (i : Nat) (x : Nat → Int) : dtO r i x = gi r 0 * x i + dtO (r.drop 1) (i + 1) x := by
  unfold dtO
  obtain ⟨l, hl⟩ : ∃ l, r.length = l + 1 := ⟨r.length - 1, by omega⟩
  rw [hl, su_front, List.length_drop, hl, Nat.zero_add]
  congr 1
  refine su_congr fun j hj => ?_
  rw [gi_drop, show j + 1 + i = j + (i + 1) by (clear hj hl h; omega)]
theorem dtO_less {piv row : List Int} {b : Int} (hl : row.length = piv.length) (h1 : 0 < row.length) (ex : ∀ j, b * gi (lessP piv b row) j = gi piv 0 * gi row (j + 1) - gi row 0 * gi piv (j + 1)) (i : Nat) (x : Nat → Int) : b * dtO (lessP piv b row) (i + 1) x = gi piv 0 * dtO row i x - gi row 0 * dtO piv i x := by
  rw [dtO_first (r := row) h1, dtO_first (r := piv) (by omega)]
  have e : b * dtO (lessP piv b row) (i + 1) x = gi piv 0 * dtO (row.drop 1) (i + 1) x - gi row 0 * dtO (piv.drop 1) (i + 1) x := by
    unfold dtO
    have l1 : (lessP piv b row).length = row.length - 1 := by simp [lessP]
    rw [l1, List.length_drop, List.length_drop, ← hl, ← su_mul, ← su_mul, ← su_mul, show (su (row.length - 1) fun k => gi piv 0 * (gi (List.drop 1 row) k * x (k + (i + 1)))) - (su (row.length - 1) fun k => gi row 0 * (gi (List.drop 1 piv) k * x (k + (i + 1)))) = (su (row.length - 1) fun k => gi piv 0 * (gi (List.drop 1 row) k * x (k + (i + 1)))) + -1 * (su (row.length - 1) fun k => gi row 0 * (gi (List.drop 1 piv) k * x (k + (i + 1)))) by (clear l1 ex h1 hl; omega), ← su_mul, ← su_add]
    refine su_congr fun j hj => ?_
    rw [gi_drop, gi_drop, ← Int.mul_assoc, ex j]
    grind
  rw [e]
  grind
noncomputable def Zr (b : Int) (n i : Nat) (L : List (List Int)) (x : Nat → Int) : Prop := ∀ r, r < n → (if r < n - i then 0 else b * x (r - (n - i))) + dtO (L.getD r []) i x = 0
theorem Zr_piv {b : Int} {n i free : Nat} {L ord : List (List Int)} {x : Nat → Int} (hL : L.length = n) (hf : free = n - i) (h : pivP L free = ord) (hn : ord ≠ []) (hz : Zr b n i ord x) : Zr b n i L x := by
  unfold pivP at h
  split at h
  · exact absurd h.symm hn
  · subst h; exact hz
  · rename_i k e
    obtain ⟨_, hk, c⟩ := firstP_some e
    have hk' : k + 1 < L.length := by (clear h e hz hn; omega)
    subst h
    have at' := piv_at hk'
    intro r hr
    by_cases r0 : r = 0
    · subst r0
      have z := hz (k + 1) (by (clear hr at' hz hn c hk e hf; omega))
      rw [if_pos (show k + 1 < n - i by (clear z hr at' hz hn hk' c e hL; omega)), at', if_neg (by (clear z hr at' hz hn hk' c hk e hf hL; omega)), if_pos rfl] at z
      rw [if_pos (by (clear z hr at' hz hn hk' c e hL; omega))]
      exact z
    · by_cases rk : r = k + 1
      · subst rk
        have z := hz 0 (by (clear r0 hr at' hz hn c hk e hf; omega))
        rw [if_pos (show 0 < n - i by (clear z r0 hr at' hz hn hk' c e hL; omega)), at', if_pos rfl, dtO_neg] at z
        rw [if_pos (by (clear z r0 hr at' hz hn hk' c e hL; omega))]
        (clear r0 hr at' hz hn hk' c hk e hf hL; omega)
      · have z := hz r hr
        rw [at', if_neg r0, if_neg rk] at z
        exact z
theorem Zr_step {b : Int} {n i : Nat} {piv : List Int} {others : List (List Int)} {x : Nat → Int} {w : Nat} (hi : i < n) (hl : others.length + 1 = n) (hw : Rect w (piv :: others)) (w1 : 0 < w) (hb : b ≠ 0) (hp : gi piv 0 ≠ 0)
    (ex : ∀ r j, r < others.length → b * gi (lessP piv b (others.getD r [])) j = gi piv 0 * gi (others.getD r []) (j + 1) - gi (others.getD r []) 0 * gi piv (j + 1))
    (hz : Zr (gi piv 0) n (i + 1) (others.map (lessP piv b) ++ [piv.drop 1]) x) : Zr b n i (piv :: others) x := by
  have pl : piv.length = w := hw.w _ (.head _)
  have p0 : dtO piv i x = 0 := by
    have z := hz (n - 1) (by (clear pl hz ex hp hb w1 hw hi; omega))
    have e : (others.map (lessP piv b) ++ [piv.drop 1]).getD (n - 1) [] = piv.drop 1 := by
      rw [List.getD_eq_getElem?_getD, List.getElem?_append_right (by simp; (clear z pl hz ex hp hb w1 hw hi; omega))]
      simp [show n - 1 - others.length = 0 by (clear z pl hz ex hp hb w1 hw hi; omega)]
    rw [e, if_neg (by (clear e z pl hz ex hp hb w1 hw; omega)), show n - 1 - (n - (i + 1)) = i by (clear e z pl hz ex hp hb w1 hw; omega)] at z
    rw [dtO_first (by (clear e z hz ex hp hb hw hl hi; omega))]
    exact z
  intro r hr
  cases r with
  | zero =>
    rw [if_pos (by (clear hr p0 pl hz ex hp hb w1 hw; omega))]
    show 0 + dtO piv i x = 0
    (clear hr pl hz ex hp hb w1 hw hl hi; omega)
  | succ r =>
    have hro : r < others.length := by (clear p0 pl hz ex hp hb w1 hw hi; omega)
    have z := hz r (by (clear hro p0 pl hz ex hp hb w1 hw hi; omega))
    have e : (others.map (lessP piv b) ++ [piv.drop 1]).getD r [] = lessP piv b (others.getD r []) := by
      rw [List.getD_eq_getElem?_getD, List.getElem?_append_left (by simpa using hro), List.getElem?_map, List.getD_eq_getElem?_getD, List.getElem?_eq_getElem hro]
      rfl
    have rl : (others.getD r []).length = w := Rect.at ⟨fun q h => hw.w q (.tail _ h)⟩ hro
    have d := dtO_less (piv := piv) (row := others.getD r []) (b := b) (by (clear e z hro hr p0 hz ex hp hb w1 hw hl hi; omega)) (by (clear e z hro hr p0 hz ex hp hb hw hl hi; omega)) (fun j => ex r j hro) i x
    rw [p0, Int.mul_zero, Int.sub_zero] at d
    rw [e] at z
    show (if r + 1 < n - i then 0 else b * x (r + 1 - (n - i))) + dtO (others.getD r []) i x = 0
    suffices key : gi piv 0 * ((if r + 1 < n - i then 0 else b * x (r + 1 - (n - i))) + dtO (others.getD r []) i x) = 0 from (Int.mul_eq_zero.mp key).resolve_left hp
    rw [Int.mul_add, ← d]
    by_cases q : r + 1 < n - i
    · rw [if_pos (by (clear d rl e z hro hr p0 pl hz ex hp hb w1 hw; omega))] at z
      rw [if_pos q, Int.mul_zero, Int.zero_add, show dtO (lessP piv b (others.getD r [])) (i + 1) x = 0 by (clear q d rl e hro hr p0 pl hz ex hp hb w1 hw hl hi; omega), Int.mul_zero]
    · rw [if_neg (by (clear d rl e z hro hr p0 pl hz ex hp hb w1 hw; omega)), show r - (n - (i + 1)) = r + 1 - (n - i) by (clear d rl e z hro hr p0 pl hz ex hp hb w1 hw; omega)] at z
      rw [if_neg q, Int.mul_left_comm, ← Int.mul_add, z, Int.mul_zero]
theorem sweep_zr {n : Nat} {x : Nat → Int} : ∀ {free w i : Nat} {b : Int} {L : List (List Int)}, L.length = n → free + i = n → free ≤ w → Rect w L → b ≠ 0 → Dv b n (ma L) → (sweepP free b L).1 ≠ 0 → Zr (sweepP free b L).1 n n (sweepP free b L).2 x → Zr b n i L x
  | 0, w, i, b, L, _, hf, _, _, _, _, _, hz => by
    obtain rfl : i = n := by omega
    exact hz
  | m + 1, w, i, b, L, hL, hf, hw, hr, hb, hd, hne, hz => by
    rw [sweepP] at hne hz
    cases e : pivP L (m + 1) with
    | nil => rw [e] at hne; exact absurd rfl hne
    | cons piv others =>
      rw [e] at hne hz
      dsimp only at hne hz
      subst hL
      have dv := piv_all (free := m + 1) (by (clear hz hd e hne hb hr hw; omega)) hd e (by simp)
      have hdm : Dv b (m + 1) (ma L) := fun k ρ κ h => hd k ρ κ fun j => by have := h j; (clear h dv hz hd e hne hb hr hw; omega)
      obtain ⟨ln, rect, hp, _, _⟩ := piv_some (by (clear hdm dv hz hd e hne hb hr hw; omega)) hr hdm e (by simp)
      have ol : others.length + 1 = L.length := ln
      have pw : piv.length = w := rect.w _ (.head _)
      have hp' : gi piv 0 ≠ 0 := hp
      have ex : ∀ r j, r < others.length → b * gi (lessP piv b (others.getD r [])) j = gi piv 0 * gi (others.getD r []) (j + 1) - gi (others.getD r []) 0 * gi piv (j + 1) := fun r j hr' => by
        rw [gi_less (by rw [pw]; exact Rect.at ⟨fun q h => rect.w q (.tail _ h)⟩ hr')]
        exact fdiv_exact (Dv_two (A := ma (piv :: others)) (i := r + 1) (j := j + 1) dv (by (clear hr' hp' pw hp rect hdm dv hz hd hf e hne hb hr hw; omega)) (by (clear hp' pw hp rect hdm dv hz hd hf e hne hb hr hw; omega))) hb
      refine Zr_piv rfl (by (clear ex hp' pw hp rect hdm dv hz hd e hne hb hr hw; omega)) e (by simp) (Zr_step (w := w) (by (clear ex hp' pw hp rect hdm dv hz hd e hne hb hr hw; omega)) ol rect (by (clear ex hp' hp rect hdm dv hz hd e hne hb hr; omega)) hb hp' ex ?_)
      have keep : Dv (gi piv 0) L.length (ma (others.map (lessP piv b) ++ [piv.drop 1])) := by
        rw [← ol] at dv ⊢
        refine Dv_keep (A := ma (piv :: others)) hb hp dv (fun r j hr' => ?_) fun j => ?_
        · have e1 : (others.map (lessP piv b) ++ [piv.drop 1]).getD r [] = lessP piv b (others.getD r []) := by
            rw [List.getD_eq_getElem?_getD, List.getElem?_append_left (by simpa using hr'), List.getElem?_map, List.getD_eq_getElem?_getD, List.getElem?_eq_getElem hr']
            rfl
          show b * gi ((others.map (lessP piv b) ++ [piv.drop 1]).getD r []) j = _
          rw [e1]
          exact ex r j hr'
        · have e1 : (others.map (lessP piv b) ++ [piv.drop 1]).getD others.length [] = piv.drop 1 := by
            rw [List.getD_eq_getElem?_getD, List.getElem?_append_right (by simp)]
            simp
          show gi ((others.map (lessP piv b) ++ [piv.drop 1]).getD others.length []) j = gi piv (j + 1)
          rw [e1, gi_drop]
      refine sweep_zr (w := w - 1) (by simp; (clear keep ex hp' pw hp rect ln hdm dv hz hd hf e hne hb hr hw; omega)) (by (clear keep ex hp' pw ol hp rect ln hdm dv hz hd e hne hb hr hw; omega)) (by (clear keep ex hp' hp rect hdm dv hz hd e hne hb hr; omega)) ⟨fun r hx => ?_⟩ hp' keep hne hz
      rcases List.mem_append.mp hx with hx | hx
      · obtain ⟨r', hr', rfl⟩ := List.mem_map.mp hx
        have := rect.w r' (.tail _ hr')
        unfold lessP
        simp
        (clear hx hr' keep ex hp' hp rect hdm dv hz hd e hne hb hr; omega)
      · simp at hx
        subst hx
        simp
        (clear hx keep ex hp' hp rect hdm dv hz hd e hne hb hr; omega)
theorem sweep_answer {rows : List (List Int)} {w c : Nat} (hw : Rect (rows.length + c) rows) (hd : (sweepP rows.length 1 rows).1 ≠ 0) (hlen : (sweepP rows.length 1 rows).2.length = rows.length) (hwid : Rect c (sweepP rows.length 1 rows).2) {r q : Nat} (hr : r < rows.length) (hq : q < c) :
    (su rows.length fun t => ma rows r t * ma (sweepP rows.length 1 rows).2 t q) = (sweepP rows.length 1 rows).1 * ma rows r (rows.length + q) := by
  have z := sweep_zr (n := rows.length) (x := fun j => if j < rows.length then -ma (sweepP rows.length 1 rows).2 j q else if j = rows.length + q then (sweepP rows.length 1 rows).1 else 0) (free := rows.length) (w := rows.length + c) (i := 0) rfl rfl (by (clear hq hr hwid hlen hd hw; omega)) hw (by decide) (Dv_one _ _) hd ?_ r hr
  · rw [if_pos (by (clear z hq hwid hlen hd hw; omega)), Int.zero_add] at z
    unfold dtO at z
    rw [hw.at hr] at z
    have split : ∀ (a b : Nat) (f : Nat → Int), su (a + b) f = su a f + su b fun k => f (a + k) := fun a b f => by
      induction b with
      | zero => show su a f = su a f + 0; (clear z hq hr hwid hlen hd hw; omega)
      | succ b ih => show su (a + b) f + f (a + b) = su a f + ((su b fun k => f (a + k)) + f (a + b)); (clear z hq hr hwid hlen hd hw; omega)
    have one : ∀ (b : Nat) (f : Nat → Int) (v : Int), q < b → (∀ k, k < b → f k = if k = q then v else 0) → su b f = v := fun b f v hb hf => by
      induction b with
      | zero => (clear hf split z hq hr hwid hlen hd hw; omega)
      | succ b ih =>
        show su b f + f b = v
        by_cases e : b = q
        · rw [su_zero fun k hk => by rw [hf k (by (clear e hf hb ih split z hq hr hwid hlen hd hw; omega)), if_neg (by (clear hf hb ih split z hq hr hwid hlen hd hw; omega))], hf b (by (clear e hf hb ih split z hq hr hwid hlen hd hw; omega)), if_pos e]; (clear e hf hb ih split z hq hr hwid hlen hd hw; omega)
        · rw [ih (by (clear hf ih split z hq hr hwid hlen hd hw; omega)) fun k hk => hf k (by (clear e hf hb ih split z hq hr hwid hlen hd hw; omega)), hf b (by (clear e hf hb ih split z hq hr hwid hlen hd hw; omega)), if_neg e]; (clear e hf hb ih split z hq hr hwid hlen hd hw; omega)
    rw [split, one c (fun k => gi (rows.getD r []) (rows.length + k) * (fun j => if j < rows.length then -ma (sweepP rows.length 1 rows).2 j q else if j = rows.length + q then (sweepP rows.length 1 rows).1 else 0) (rows.length + k + 0)) (gi (rows.getD r []) (rows.length + q) * (sweepP rows.length 1 rows).1) hq fun k hk => by
      show gi (rows.getD r []) (rows.length + k) * (if rows.length + k + 0 < rows.length then _ else if rows.length + k + 0 = rows.length + q then _ else 0) = _
      rw [if_neg (by (clear hk one split z hq hr hwid hlen hd hw; omega))]
      by_cases e : k = q
      · rw [if_pos (by (clear hk one split z hq hr hwid hlen hd hw; omega)), if_pos e, e]
      · rw [if_neg (by (clear hk one split z hq hr hwid hlen hd hw; omega)), if_neg e, Int.mul_zero]] at z
    have e2 : (su rows.length fun j => gi (rows.getD r []) j * (fun j => if j < rows.length then -ma (sweepP rows.length 1 rows).2 j q else if j = rows.length + q then (sweepP rows.length 1 rows).1 else 0) (j + 0)) = -1 * su rows.length fun t => ma rows r t * ma (sweepP rows.length 1 rows).2 t q := by
      rw [← su_mul]
      refine su_congr fun j hj => ?_
      show gi (rows.getD r []) j * (if j + 0 < rows.length then _ else _) = _
      rw [if_pos (by (clear one split z hq hr hwid hlen hd hw; omega))]
      show gi (rows.getD r []) j * -ma (sweepP rows.length 1 rows).2 j q = -1 * (gi (rows.getD r []) j * ma (sweepP rows.length 1 rows).2 j q)
      rw [Int.mul_neg]
      (clear hj one split z hq hr hwid hlen hd hw; omega)
    rw [e2] at z
    have e3 : gi (rows.getD r []) (rows.length + q) = ma rows r (rows.length + q) := rfl
    rw [e3, Int.mul_comm (ma rows r (rows.length + q))] at z
    (clear e3 e2 one split hq hr hwid hlen hd hw; omega)
  · intro t ht
    rw [if_neg (by (clear ht hq hr hwid hlen hd hw; omega)), Nat.sub_self, Nat.sub_zero]
    show _ * (if t < rows.length then _ else _) + dtO _ _ _ = 0
    rw [if_pos ht]
    unfold dtO
    rw [hwid.at (by (clear hq hr hwid hd hw; omega))]
    have one : ∀ (b : Nat) (f : Nat → Int) (v : Int), q < b → (∀ k, k < b → f k = if k = q then v else 0) → su b f = v := fun b f v hb hf => by
      induction b with
      | zero => (clear hf ht hq hr hwid hlen hd hw; omega)
      | succ b ih =>
        show su b f + f b = v
        by_cases e : b = q
        · rw [su_zero fun k hk => by rw [hf k (by (clear e hf hb ih ht hq hr hwid hlen hd hw; omega)), if_neg (by (clear hf hb ih ht hq hr hwid hlen hd hw; omega))], hf b (by (clear e hf hb ih ht hq hr hwid hlen hd hw; omega)), if_pos e]; (clear e hf hb ih ht hq hr hwid hlen hd hw; omega)
        · rw [ih (by (clear hf ih ht hq hr hwid hlen hd hw; omega)) fun k hk => hf k (by (clear e hf hb ih ht hq hr hwid hlen hd hw; omega)), hf b (by (clear e hf hb ih ht hq hr hwid hlen hd hw; omega)), if_neg e]; (clear e hf hb ih ht hq hr hwid hlen hd hw; omega)
    rw [one c _ (gi ((sweepP rows.length 1 rows).2.getD t []) q * (sweepP rows.length 1 rows).1) hq fun k hk => by
      show gi ((sweepP rows.length 1 rows).2.getD t []) k * (if k + rows.length < rows.length then _ else if k + rows.length = rows.length + q then _ else 0) = _
      rw [if_neg (by (clear hk one ht hq hr hwid hlen hd hw; omega))]
      by_cases e : k = q
      · rw [if_pos (by (clear hk one ht hq hr hwid hlen hd hw; omega)), if_pos e, e]
      · rw [if_neg (by (clear hk one ht hq hr hwid hlen hd hw; omega)), if_neg e, Int.mul_zero]]
    show _ * -gi ((sweepP rows.length 1 rows).2.getD t []) q + _ = 0
    rw [Int.mul_neg, Int.mul_comm]
    (clear one ht hq hr hwid hlen hd hw; omega)
end RimD
set_option linter.all false
namespace RimD
noncomputable def Mg (b : Int) (R k : Nat) (A A0 : Mat) (R0 : Nat) : Prop := ∀ (m : Nat) (ρ κ : Nat → Nat), (∀ i, ρ i < R) → ∃ (e : Int) (t : Nat) (ρ0 κ0 : Nat → Nat), e.natAbs ≤ 1 ∧ t ≤ k + m + 1 ∧ (∀ i, ρ0 i < R0) ∧ (D (m + 1) fun i j => A (ρ i) (κ j)) = e * b ^ m * D t fun i j => A0 (ρ0 i) (κ0 j)
theorem Mg_one (R : Nat) (A : Mat) : Mg 1 R 0 A A R := fun m ρ κ h => ⟨1, m + 1, ρ, κ, Nat.le_refl _, by omega, h, by rw [Int.one_pow, Int.one_mul, Int.one_mul]⟩
theorem Mg_rows {b : Int} {R k R0 : Nat} {A B A0 : Mat} (h : Mg b R k A A0 R0) (π : Nat → Nat) (e : Nat → Int) (he : ∀ i, (e i).natAbs = 1) (hπ : ∀ i, i < R → π i < R) (hB : ∀ i j, i < R → B i j = e i * A (π i) j) : Mg b R k B A0 R0 := fun m ρ κ hρ => by
  have z : (D (m + 1) fun i j => B (ρ i) (κ j)) = pr (m + 1) (fun i => e (ρ i)) * D (m + 1) fun i j => A (π (ρ i)) (κ j) := by
    rw [← D_scale]
    exact D_congr fun i j _ _ => hB _ _ (hρ i)
  obtain ⟨e0, t, ρ0, κ0, a, c0, c, d⟩ := h m (fun i => π (ρ i)) κ fun i => hπ _ (hρ i)
  refine ⟨pr (m + 1) (fun i => e (ρ i)) * e0, t, ρ0, κ0, ?_, c0, c, ?_⟩
  · rw [Int.natAbs_mul, pr_abs fun i _ => he _, Nat.one_mul]; exact a
  · rw [z, d]
    ac_rfl
theorem Mg_le {b : Int} {R k R0 C : Nat} {A A0 : Mat} (h : Mg b R k A A0 R0) (hC : ∀ (t : Nat) (ρ κ : Nat → Nat), t ≤ k + 1 → (∀ i, ρ i < R0) → (D t fun i j => A0 (ρ i) (κ j)).natAbs ≤ C) {i j : Nat} (hi : i < R) : (A i j).natAbs ≤ C := by
  obtain ⟨e, t, ρ0, κ0, a, c0, c, d⟩ := h 0 (fun _ => i) (fun _ => j) fun _ => hi
  have z : (D (0 + 1) fun _ _ => A i j) = A i j := by
    show 0 + sg 0 * A i j * 1 = A i j
    rw [show sg 0 = 1 from rfl]; (clear d c c0 a hi hC h; omega)
  rw [z, Int.pow_zero, Int.mul_one] at d
  rw [d, Int.natAbs_mul]
  exact Nat.le_trans (Nat.mul_le_mul_right _ a) (by rw [Nat.one_mul]; exact hC t ρ0 κ0 (by (clear z d c a hi hC h; omega)) c)
theorem Mg_keep {b : Int} {R k R0 : Nat} {A B A0 : Mat} (hb : b ≠ 0) (hp : A 0 0 ≠ 0) (h : Mg b (R + 1) k A A0 R0) (hB : ∀ i j, i < R → b * B i j = A 0 0 * A (i + 1) (j + 1) - A (i + 1) 0 * A 0 (j + 1)) (hL : ∀ j, B R j = A 0 (j + 1)) : Mg (A 0 0) (R + 1) (k + 1) B A0 R0 := by
  have step : ∀ (m : Nat) (ρ κ : Nat → Nat), (∀ i, ρ i < R) → ∃ (e : Int) (t : Nat) (ρ0 κ0 : Nat → Nat), e.natAbs ≤ 1 ∧ t ≤ k + 1 + m + 1 ∧ (∀ i, ρ0 i < R0) ∧ (D (m + 1) fun i j => B (ρ i) (κ j)) = e * A 0 0 ^ m * D t fun i j => A0 (ρ0 i) (κ0 j) := fun m ρ κ hρ => by
    obtain ⟨e0, t, ρ0, κ0, a, c0, c, ht⟩ := h (m + 1) (fun i => match i with | 0 => 0 | i + 1 => ρ i + 1) (fun j => match j with | 0 => 0 | j + 1 => κ j + 1) fun i => by
      cases i with
      | zero => exact Nat.succ_pos _
      | succ i => exact Nat.succ_lt_succ (hρ i)
    have e := D_step (n := m) (A := fun i j => A (match i with | 0 => 0 | i + 1 => ρ i + 1) (match j with | 0 => 0 | j + 1 => κ j + 1)) hp
    have e2 : (D (m + 1) fun i j => A 0 0 * A (ρ i + 1) (κ j + 1) - A (ρ i + 1) 0 * A 0 (κ j + 1)) = b ^ (m + 1) * D (m + 1) fun i j => B (ρ i) (κ j) := by
      rw [← pr_const, ← D_scale]
      exact D_congr fun i j _ _ => (hB _ _ (hρ i)).symm
    have e3 : A 0 0 ^ m * (e0 * b ^ (m + 1) * D t fun i j => A0 (ρ0 i) (κ0 j)) = b ^ (m + 1) * D (m + 1) fun i j => B (ρ i) (κ j) := by
      rw [← ht, ← e2]
      exact e
    refine ⟨e0, t, ρ0, κ0, a, by (clear e3 e2 e ht c a hρ hL hB h hp hb; omega), c, ?_⟩
    refine Int.eq_of_mul_eq_mul_left (Int.pow_ne_zero (m := m + 1) hb) (e3.symm.trans ?_)
    ac_rfl
  have first : ∀ (m : Nat) (ρ κ : Nat → Nat), ρ 0 = R → (∀ i, 0 < i → i < m + 1 → ρ i < R) → ∃ (e : Int) (t : Nat) (ρ0 κ0 : Nat → Nat), e.natAbs ≤ 1 ∧ t ≤ k + 1 + m + 1 ∧ (∀ i, ρ0 i < R0) ∧ (D (m + 1) fun i j => B (ρ i) (κ j)) = e * A 0 0 ^ m * D t fun i j => A0 (ρ0 i) (κ0 j) := fun m ρ κ h0 hρ => by
    obtain ⟨e0, t, ρ0, κ0, a, c0, c, ht⟩ := h m (fun i => if 0 < i ∧ i < m + 1 then ρ i + 1 else 0) (fun j => κ j + 1) fun i => by
      show (if 0 < i ∧ i < m + 1 then ρ i + 1 else 0) < R + 1
      split
      · rename_i z; exact Nat.succ_lt_succ (hρ i z.1 z.2)
      · (clear hρ step hL hB h hp hb; omega)
    have e := D_off (A 0 0) (fun i => A (ρ i + 1) 0) (fun i j => A (if 0 < i ∧ i < m + 1 then ρ i + 1 else 0) (κ j + 1)) (n := m) (Nat.le_refl _)
    have e2 : (D (m + 1) fun i j => if 0 < i ∧ i ≤ m then A 0 0 * A (if 0 < i ∧ i < m + 1 then ρ i + 1 else 0) (κ j + 1) - A (ρ i + 1) 0 * A (if 0 < 0 ∧ 0 < m + 1 then ρ 0 + 1 else 0) (κ j + 1) else A (if 0 < i ∧ i < m + 1 then ρ i + 1 else 0) (κ j + 1)) = D (m + 1) fun i j => (if i = 0 then 1 else b) * B (ρ i) (κ j) := D_congr fun i j hi _ => by
      by_cases z : i = 0
      · subst z
        rw [if_neg (by (clear hi e ht c c0 a hρ h0 step hL hB h hp hb; omega)), if_neg (by (clear hi e ht c c0 a hρ h0 step hL hB h hp hb; omega)), if_pos rfl, h0, hL, Int.one_mul]
      · rw [if_pos (by (clear e ht c c0 a hρ h0 step hL hB h hp hb; omega)), if_pos (by (clear e ht c c0 a hρ h0 step hL hB h hp hb; omega)), if_neg (by (clear z hi e ht c c0 a hρ h0 step hL hB h hp hb; omega)), if_neg z, hB _ _ (hρ i (by (clear hi e ht c c0 a hρ h0 step hL hB h hp hb; omega)) hi)]
    have e3 : pr (m + 1) (fun i => if i = 0 then 1 else b) = b ^ m := by
      rw [pr_front, if_pos rfl, Int.one_mul, ← pr_const]
      congr 1
    rw [e2, D_scale, e3, ht] at e
    refine ⟨e0, t, ρ0, κ0, a, by (clear e3 e2 e ht c a hρ h0 step hL hB h hp hb; omega), c, Int.eq_of_mul_eq_mul_left (Int.pow_ne_zero (m := m) hb) (e.trans ?_)⟩
    ac_rfl
  intro m ρ κ hρ
  by_cases hex : ∃ s, s < m + 1 ∧ ρ s = R
  · obtain ⟨s, hs, es⟩ := hex
    by_cases two : ∃ t, t < m + 1 ∧ t ≠ s ∧ ρ t = R
    · obtain ⟨t, ht, nts, et⟩ := two
      have z : (D (m + 1) fun i j => B (ρ i) (κ j)) = 0 := by
        rcases Nat.lt_or_gt_of_ne nts with q | q
        · exact D_eq0 (i := t) (j := s) q hs fun c => by rw [et, es]
        · exact D_eq0 (i := s) (j := t) q ht fun c => by rw [et, es]
      rw [z]
      obtain ⟨e0, t0, ρ0, κ0, a, c0, c, ht0⟩ := h 0 (fun _ => 0) (fun _ => 0) fun _ => Nat.succ_pos _
      exact ⟨0, 0, ρ0, κ0, by decide, by (clear ht0 c a z et nts ht es hρ first step hL hB h hp hb; omega), c, by simp⟩
    · have others : ∀ t, t < m + 1 → t ≠ s → ρ t < R := fun t ht nts => by
        have := hρ t
        have : ρ t ≠ R := fun z => two ⟨t, ht, nts, z⟩
        (clear nts ht two es hs hρ first step hL hB h hp hb; omega)
      by_cases s0 : s = 0
      · subst s0
        exact first m ρ κ es fun i h1 h2 => others i h2 (by (clear h2 others two es hs hρ first step hL hB h hp hb; omega))
      · have sw := D_sw (n := m + 1) (i := 0) (k := s) (A := fun i j => B (ρ (if i = 0 then s else if i = s then 0 else i)) (κ j)) (B := fun i j => B (ρ i) (κ j)) (by (clear others two es hs hρ first step hL hB h hp hb; omega)) hs (fun c => by rw [if_neg s0, if_pos rfl]) (fun c => by rw [if_pos rfl]) fun r c h1 h2 => by rw [if_neg h1, if_neg h2]
        rw [sw]
        obtain ⟨e0, t, ρ0, κ0, a, c0, c, d⟩ := first m (fun i => ρ (if i = 0 then s else if i = s then 0 else i)) κ (by rw [if_pos rfl]; exact es) fun i h1 h2 => by
          show ρ (if i = 0 then s else if i = s then 0 else i) < R
          rw [if_neg (by (clear h2 sw s0 others two es hs hρ first step hL hB h hp hb; omega))]
          split
          · exact others 0 (by (clear h2 h1 sw s0 others two es hs hρ first step hL hB h hp hb; omega)) (by (clear h2 sw s0 others two es hs hρ first step hL hB h hp hb; omega))
          · rename_i z; exact others i h2 z
        refine ⟨-e0, t, ρ0, κ0, by rw [Int.natAbs_neg]; exact a, c0, c, ?_⟩
        rw [d, Int.neg_mul, Int.neg_mul]
  · have all : ∀ i, i < m + 1 → ρ i < R := fun i hi => by
      have := hρ i
      have : ρ i ≠ R := fun z => hex ⟨i, hi, z⟩
      (clear hi hex hρ first step hL hB h hp hb; omega)
    have c : (D (m + 1) fun i j => B (ρ i) (κ j)) = D (m + 1) fun i j => B (ρ (if i < m + 1 then i else 0)) (κ j) := D_congr fun i j hi _ => by rw [if_pos hi]
    rw [c]
    refine step m (fun i => ρ (if i < m + 1 then i else 0)) κ fun i => ?_
    show ρ (if i < m + 1 then i else 0) < R
    split
    · rename_i z; exact all i z
    · exact all 0 (by (clear c all hex hρ first step hL hB h hp hb; omega))
theorem piv_mg {rows ord : List (List Int)} {free k R0 : Nat} {b : Int} {A0 : Mat} (hl : free ≤ rows.length) (hd : Mg b rows.length k (ma rows) A0 R0) (h : pivP rows free = ord) (hn : ord ≠ []) : Mg b rows.length k (ma ord) A0 R0 := by
  unfold pivP at h
  split at h
  · exact absurd h.symm hn
  · subst h; exact hd
  · rename_i k' e
    obtain ⟨_, hk, c⟩ := firstP_some e
    have hk' : k' + 1 < rows.length := by (clear c h e hn hd; omega)
    subst h
    have at' := piv_at hk'
    generalize ([(rows.getD (k' + 1) []).map fun x => -x] ++ (rows.drop 1).take k' ++ [rows.getD 0 []] ++ rows.drop (k' + 2)) = ord at *
    have m0 : ∀ c, ma ord 0 c = -ma rows (k' + 1) c := fun c => by unfold ma; rw [at', if_pos rfl, gi_map (by rfl)]
    have m1 : ∀ c, ma ord (k' + 1) c = ma rows 0 c := fun c => by unfold ma; rw [at', if_neg (by (clear m0 at' hn hk' hk e hd hl; omega)), if_pos rfl]
    have m2 : ∀ r c, r ≠ 0 → r ≠ k' + 1 → ma ord r c = ma rows r c := fun r c a b => by unfold ma; rw [at', if_neg a, if_neg b]
    refine Mg_rows hd (fun i => if i = 0 then k' + 1 else if i = k' + 1 then 0 else i) (fun i => if i = 0 then -1 else 1) (fun i => by show (if i = 0 then (-1 : Int) else 1).natAbs = 1; split <;> rfl) (fun i hi => ?_) fun i j hi => ?_
    · show (if i = 0 then k' + 1 else if i = k' + 1 then 0 else i) < rows.length
      split
      · (clear hi m2 m1 m0 at' hn c hk e hd hl; omega)
      · split <;> (clear m2 m1 m0 at' hn c hk e hd hl; omega)
    · by_cases h0 : i = 0
      · subst h0; simp only [if_true]; rw [m0]; (clear hi m2 m1 m0 at' hn hk' c hk e hd hl; omega)
      · simp only [if_neg h0]
        by_cases h1 : i = k' + 1
        · subst h1; simp only [if_true]; rw [m1]; (clear h0 hi m2 m1 m0 at' hn hk' c hk e hd hl; omega)
        · simp only [if_neg h1]; rw [m2 i j h0 h1]; (clear h1 h0 hi m2 m1 m0 at' hn hk' c hk e hd hl; omega)
theorem sweep_nextA {left others : List (List Int)} {piv : List Int} {free w k R0 : Nat} {b : Int} {A0 : Mat} (h1 : free ≤ left.length) (hw : 0 < w) (hr : Rect w left) (hb : b ≠ 0) (hd : Dv b left.length (ma left)) (hm : Mg b left.length k (ma left) A0 R0) (e : pivP left free = piv :: others) (hp : gi piv 0 ≠ 0) (orect : Rect w (piv :: others)) (ol : others.length + 1 = left.length) :
    Dv (gi piv 0) left.length (ma (others.map (lessP piv b) ++ [piv.drop 1])) ∧ Mg (gi piv 0) left.length (k + 1) (ma (others.map (lessP piv b) ++ [piv.drop 1])) A0 R0 := by
  have dv := piv_all h1 hd e (by simp)
  have mg := piv_mg h1 hm e (by simp)
  have pw : piv.length = w := orect.w _ (.head _)
  have ex : ∀ r j, r < others.length → b * gi (lessP piv b (others.getD r [])) j = gi piv 0 * gi (others.getD r []) (j + 1) - gi (others.getD r []) 0 * gi piv (j + 1) := fun r j hr' => by
    rw [gi_less (by rw [pw]; exact Rect.at ⟨fun q h => orect.w q (.tail _ h)⟩ hr')]
    exact fdiv_exact (Dv_two (A := ma (piv :: others)) (i := r + 1) (j := j + 1) dv (by (clear hr' pw mg dv orect hp e hm hd hb hr hw h1; omega)) (by (clear pw mg dv orect hp e hm hd hb hr hw h1; omega))) hb
  have a1 : ∀ r j, r < others.length → b * ma (others.map (lessP piv b) ++ [piv.drop 1]) r j = ma (piv :: others) 0 0 * ma (piv :: others) (r + 1) (j + 1) - ma (piv :: others) (r + 1) 0 * ma (piv :: others) 0 (j + 1) := fun r j hr' => by
    have e1 : (others.map (lessP piv b) ++ [piv.drop 1]).getD r [] = lessP piv b (others.getD r []) := by
      rw [List.getD_eq_getElem?_getD, List.getElem?_append_left (by simpa using hr'), List.getElem?_map, List.getD_eq_getElem?_getD, List.getElem?_eq_getElem hr']
      rfl
    show b * gi ((others.map (lessP piv b) ++ [piv.drop 1]).getD r []) j = _
    rw [e1]
    exact ex r j hr'
  have a2 : ∀ j, ma (others.map (lessP piv b) ++ [piv.drop 1]) others.length j = ma (piv :: others) 0 (j + 1) := fun j => by
    have e1 : (others.map (lessP piv b) ++ [piv.drop 1]).getD others.length [] = piv.drop 1 := by
      rw [List.getD_eq_getElem?_getD, List.getElem?_append_right (by simp)]
      simp
    show gi ((others.map (lessP piv b) ++ [piv.drop 1]).getD others.length []) j = gi piv (j + 1)
    rw [e1, gi_drop]
  rw [← ol] at dv mg ⊢
  exact ⟨Dv_keep (A := ma (piv :: others)) hb hp dv a1 a2, Mg_keep (A := ma (piv :: others)) hb hp mg a1 a2⟩
structure Fl (n at_ : Nat) (A0 : Mat) (V b : Int) (B : Mat) : Prop where
  b0 : b ≠ 0
  dv : Dv b (n - at_) B
  mn : Mn b (n - at_) at_ B A0 n
  one : n = at_ → b = V
  det : ∀ m, n - at_ = m + 1 → D (m + 1) B = b ^ m * V
theorem Fl_start {n : Nat} {A0 : Mat} : Fl n 0 A0 (D n A0) 1 A0 := ⟨by decide, Dv_one _ _, Mn_one _ _, fun h => by subst h; rfl, fun m h => by rw [Int.one_pow, Int.one_mul]; rw [show n = m + 1 by omega]⟩
theorem Fl_none {n at_ : Nat} {A0 B : Mat} {V b : Int} (F : Fl n at_ A0 V b B) (h : at_ < n) (hz : ∀ i, i < n - at_ → B i 0 = 0) : V = 0 := by
  have e := F.det (n - at_ - 1) (by omega)
  rw [D_zero fun i hi => hz i (by (clear e hz F; omega))] at e
  exact (Int.mul_eq_zero.mp e.symm).resolve_left (Int.pow_ne_zero F.b0)
theorem Fl_swap {n at_ l : Nat} {A0 B B' : Mat} {V b : Int} (F : Fl n at_ A0 V b B) (hl : l < n - at_) (hB : ∀ i j, B' i j = B (if i = 0 then l else if i = l then 0 else i) j) : ∃ V', (V' = V ∨ V' = -V) ∧ Fl n at_ A0 V' b B' := by
  have hπ : ∀ i, i < n - at_ → (if i = 0 then l else if i = l then 0 else i) < n - at_ := fun i hi => by split; exact hl; split <;> (clear hB hl F; omega)
  by_cases h0 : l = 0
  · subst h0
    have : B' = B := by
      funext i j
      rw [hB]
      by_cases z : i = 0
      · subst z; rw [if_pos rfl]
      · rw [if_neg z, if_neg z]
    rw [this]
    exact ⟨V, .inl rfl, F⟩
  · refine ⟨-V, .inr rfl, F.b0, Dv_rows F.dv (fun i => if i = 0 then l else if i = l then 0 else i) (fun _ => 1) hπ fun i j _ => by rw [Int.one_mul]; exact hB i j, Mn_rows F.mn (fun i => if i = 0 then l else if i = l then 0 else i) (fun _ => 1) (fun _ => rfl) hπ fun i j _ => by rw [Int.one_mul]; exact hB i j, fun h => by (clear hπ hB F; omega), fun m hm => ?_⟩
    have sw := D_sw (n := m + 1) (i := 0) (k := l) (A := B) (B := B') (by (clear hm hπ hB hl F; omega)) (by (clear h0 hπ hB F; omega)) (fun c => by rw [hB, if_pos rfl]) (fun c => by rw [hB, if_neg h0, if_pos rfl]) fun r c h1 h2 => by rw [hB, if_neg h1, if_neg h2]
    rw [sw, F.det m hm, Int.mul_neg]
theorem Fl_next {n at_ : Nat} {A0 B B' : Mat} {V b : Int} (F : Fl n at_ A0 V b B) (h : at_ < n) (hp : B 0 0 ≠ 0) (hB : ∀ i j, B' i j = (B 0 0 * B (i + 1) (j + 1) - B (i + 1) 0 * B 0 (j + 1)).fdiv b) : Fl n (at_ + 1) A0 V (B 0 0) B' ∧ ∀ i j, i < n - (at_ + 1) → b * B' i j = B 0 0 * B (i + 1) (j + 1) - B (i + 1) 0 * B 0 (j + 1) := by
  have ex : ∀ i j, i < n - (at_ + 1) → b * B' i j = B 0 0 * B (i + 1) (j + 1) - B (i + 1) 0 * B 0 (j + 1) := fun i j hi => by
    rw [hB]
    exact fdiv_exact (Dv_two F.dv (by (clear hi hB hp F; omega)) (by (clear hB hp F; omega))) F.b0
  have e1 : n - at_ = (n - (at_ + 1)) + 1 := by (clear ex hB hp F; omega)
  have dv := F.dv
  have mn := F.mn
  rw [e1] at dv mn
  refine ⟨⟨hp, Dv_step F.b0 hp dv ex, Mn_step F.b0 hp mn ex, fun hn => ?_, fun m hm => ?_⟩, ex⟩
  · have e := F.det 0 (by (clear mn dv ex hB hp h F; omega))
    rw [Int.pow_zero, Int.one_mul] at e
    rw [← e]
    show _ = 0 + sg 0 * B 0 0 * 1
    rw [show sg 0 = 1 from rfl]
    (clear e hn mn dv e1 ex hB hp h F; omega)
  · have e := F.det (m + 1) (by (clear mn dv ex hB hp h F; omega))
    have d := D_next (n := m) (A := B) (B := B') (b := b) hp fun i j hi => ex i j (by (clear e mn dv e1 ex hB hp h F; omega))
    rw [e] at d
    refine Int.eq_of_mul_eq_mul_left (Int.pow_ne_zero (m := m + 1) F.b0) ?_
    rw [← d]
    ac_rfl
theorem Fl_le {n at_ C : Nat} {A0 B : Mat} {V b : Int} (F : Fl n at_ A0 V b B) (hC : ∀ (t : Nat) (ρ κ : Nat → Nat), t ≤ n → (∀ i, ρ i < n) → (D t fun i j => A0 (ρ i) (κ j)).natAbs ≤ C) {i j : Nat} (h : at_ < n) (hi : i < n - at_) : (B i j).natAbs ≤ C :=
  Mn_le F.mn (fun ρ κ hρ => hC _ ρ κ (by (clear hρ hi hC F; omega)) hρ) hi
end RimD
set_option linter.all false
namespace RimM
structure Is (p : Int × Int) (t b : Int) : Prop where
  low : Low p
  ne : b ≠ 0
  eq : p.1 * b = t * p.2
theorem is_nf {t b : Int} (h : b ≠ 0) : Is (nf t b) t b := ⟨(nf_low h).1, h, (nf_low h).2.symm⟩
theorem Is.to {p : Int × Int} {t b : Int} (h : Is p t b) : p = nf t b := by
  have := h.low.pos
  rw [← nf_of_low h.low]
  exact nf_eq (by omega) h.ne h.eq
theorem Is.conv {p : Int × Int} {t b t' b' : Int} (h : Is p t b) (hb : b' ≠ 0) (e : t * b' = t' * b) : Is p t' b' := by
  rw [h.to, nf_eq h.ne hb e]
  exact is_nf hb
theorem Is.mul {p q : Int × Int} {t b t' b' : Int} (h : Is p t b) (h' : Is q t' b') : Is (nf (p.1 * q.1) (p.2 * q.2)) (t * t') (b * b') := by
  have p0 := h.low.pos
  have q0 := h'.low.pos
  refine (is_nf (Int.mul_ne_zero (by (clear q0 h' h; omega)) (by (clear p0 h' h; omega)))).conv (Int.mul_ne_zero h.ne h'.ne) ?_
  calc p.1 * q.1 * (b * b') = (p.1 * b) * (q.1 * b') := by ac_rfl
    _ = (t * p.2) * (t' * q.2) := by rw [h.eq, h'.eq]
    _ = t * t' * (p.2 * q.2) := by ac_rfl
theorem Is.add {p q : Int × Int} {t b t' b' : Int} (h : Is p t b) (h' : Is q t' b') : Is (nf (p.1 * q.2 + q.1 * p.2) (p.2 * q.2)) (t * b' + t' * b) (b * b') := by
  have p0 := h.low.pos
  have q0 := h'.low.pos
  refine (is_nf (Int.mul_ne_zero (by (clear q0 h' h; omega)) (by (clear p0 h' h; omega)))).conv (Int.mul_ne_zero h.ne h'.ne) ?_
  calc (p.1 * q.2 + q.1 * p.2) * (b * b') = (p.1 * b) * (q.2 * b') + (q.1 * b') * (p.2 * b) := by rw [Int.add_mul]; congr 1 <;> ac_rfl
    _ = (t * p.2) * (q.2 * b') + (t' * q.2) * (p.2 * b) := by rw [h.eq, h'.eq]
    _ = (t * b' + t' * b) * (p.2 * q.2) := by rw [Int.add_mul]; congr 1 <;> ac_rfl
theorem Is.sub {p q : Int × Int} {t b t' b' : Int} (h : Is p t b) (h' : Is q t' b') : Is (nf (p.1 * q.2 - q.1 * p.2) (p.2 * q.2)) (t * b' - t' * b) (b * b') := by
  have p0 := h.low.pos
  have q0 := h'.low.pos
  refine (is_nf (Int.mul_ne_zero (by (clear q0 h' h; omega)) (by (clear p0 h' h; omega)))).conv (Int.mul_ne_zero h.ne h'.ne) ?_
  calc (p.1 * q.2 - q.1 * p.2) * (b * b') = (p.1 * b) * (q.2 * b') - (q.1 * b') * (p.2 * b) := by rw [Int.sub_mul]; congr 1 <;> ac_rfl
    _ = (t * p.2) * (q.2 * b') - (t' * q.2) * (p.2 * b) := by rw [h.eq, h'.eq]
    _ = (t * b' - t' * b) * (p.2 * q.2) := by rw [Int.sub_mul]; congr 1 <;> ac_rfl
theorem Low.neg {p : Int × Int} (h : Low p) : Low (-p.1, p.2) := ⟨h.pos, by show Int.gcd (-p.1) p.2 = 1; rw [Int.neg_gcd]; exact h.co⟩
theorem Is.neg {p : Int × Int} {t b : Int} (h : Is p t b) : Is (-p.1, p.2) (-t) b := ⟨h.low.neg, h.ne, by show -p.1 * b = -t * p.2; rw [Int.neg_mul, Int.neg_mul, h.eq]⟩
theorem Is.share {p q : Int × Int} {t b t' b' : Int} (h : Is p t b) (h' : Is q t' b') (ht : t' ≠ 0) :
    (q.1 < 0 → Is (-(nf (p.1 * q.2) (p.2 * -q.1)).1, (nf (p.1 * q.2) (p.2 * -q.1)).2) (t * b') (b * t')) ∧ (¬ q.1 < 0 → Is (nf (p.1 * q.2) (p.2 * q.1)) (t * b') (b * t')) := by
  have p0 := h.low.pos
  have q0 := h'.low.pos
  have q1 : q.1 ≠ 0 := fun z => by
    have e := h'.eq
    rw [z, Int.zero_mul] at e
    rcases Int.mul_eq_zero.mp e.symm with a | a
    · exact ht a
    · (clear e z p0 ht h' h; omega)
  have key : p.1 * q.2 * (b * t') = t * b' * (p.2 * q.1) := by
    calc p.1 * q.2 * (b * t') = (p.1 * b) * (t' * q.2) := by ac_rfl
      _ = (t * p.2) * (q.1 * b') := by rw [h.eq, h'.eq]
      _ = t * b' * (p.2 * q.1) := by ac_rfl
  have bt : b * t' ≠ 0 := Int.mul_ne_zero h.ne ht
  refine ⟨fun hn => ?_, fun hn => (is_nf (Int.mul_ne_zero (by (clear hn bt key q1 q0 ht h' h; omega)) q1)).conv bt key⟩
  have z := (is_nf (t := p.1 * q.2) (b := p.2 * -q.1) (Int.mul_ne_zero (by (clear hn bt key q1 q0 ht h' h; omega)) (by (clear bt key q1 q0 p0 ht h' h; omega)))).neg
  refine z.conv bt ?_
  rw [Int.neg_mul, key, Int.mul_neg, Int.mul_neg]
theorem nf_abs_le {t b : Int} (hb : b ≠ 0) : (nf t b).1.natAbs ≤ t.natAbs ∧ (nf t b).2.natAbs ≤ b.natAbs := by
  have key : ∀ {t b : Int}, 0 < b → (nf t b).1.natAbs ≤ t.natAbs ∧ (nf t b).2.natAbs ≤ b.natAbs := fun {t b} h => by
    rw [nf_pos h]
    exact ⟨by have := Int.natAbs_ediv_le_natAbs t (Int.gcd t b : Int); omega, by have := Int.natAbs_ediv_le_natAbs b (Int.gcd t b : Int); omega⟩
  rcases Int.lt_or_lt_of_ne hb with h | h
  · rw [nf_neg h]
    have := key (t := -t) (b := -b) (by omega)
    omega
  · exact key h
theorem nf_zero {b : Int} (hb : b ≠ 0) : nf 0 b = (0, 1) := by
  have : nf 0 1 = (0, 1) := by decide
  rw [← this]
  exact nf_eq hb (by decide) (by omega)
theorem Is.zero {p : Int × Int} {t b : Int} (h : Is p t b) : p = (0, 1) ↔ t = 0 := by
  refine ⟨fun e => ?_, fun e => ?_⟩
  · have z := h.eq
    rw [e] at z
    simp at z
    omega
  · rw [h.to, e]
    exact nf_zero h.ne
theorem is_zero {b : Int} (hb : b ≠ 0) : Is (0, 1) 0 b := ⟨⟨by decide, by decide⟩, hb, by simp⟩
theorem clear_is {one two share : Int × Int} {Bkj B0j Bk0 B00 b Lk L0 B' : Int} (h1 : Is one Bkj (b * Lk)) (h2 : Is two B0j (b * L0)) (hs : Is share (Bk0 * (b * L0)) ((b * Lk) * B00)) (hB : b * B' = B00 * Bkj - Bk0 * B0j) :
    Is (nf (one.1 * (nf (share.1 * two.1) (share.2 * two.2)).2 - (nf (share.1 * two.1) (share.2 * two.2)).1 * one.2) (one.2 * (nf (share.1 * two.1) (share.2 * two.2)).2)) B' (B00 * Lk) := by
  have b0 : b ≠ 0 := fun z => h1.ne (by rw [z, Int.zero_mul])
  have lk : Lk ≠ 0 := fun z => h1.ne (by rw [z, Int.mul_zero])
  have l0 : L0 ≠ 0 := fun z => h2.ne (by rw [z, Int.mul_zero])
  have b00 : B00 ≠ 0 := fun z => hs.ne (by rw [z, Int.mul_zero])
  refine (h1.sub (hs.mul h2)).conv (Int.mul_ne_zero b00 lk) ?_
  have e : Bkj * (b * Lk * B00 * (b * L0)) - Bk0 * (b * L0) * B0j * (b * Lk) = (B00 * Bkj - Bk0 * B0j) * (b * Lk * (b * L0)) := by rw [Int.sub_mul]; congr 1 <;> ac_rfl
  rw [e, ← hB]
  ac_rfl
theorem Is.inj {p q : Int × Int} {t b : Int} (h : Is p t b) (h' : Is q t b) : p = q := h.to.trans h'.to.symm
theorem Is.plus {p q : Int × Int} {t t' b : Int} (h : Is p t b) (h' : Is q t' b) : Is (nf (p.1 * q.2 + q.1 * p.2) (p.2 * q.2)) (t + t') b := by
  refine (h.add h').conv h.ne ?_
  rw [← Int.add_mul, Int.mul_assoc]
theorem Is.same {p q : Int × Int} {d L C Lc : Int} (h : Is p (d * (L * C)) (L * (d * Lc))) (h' : Is q C Lc) : p = q := by
  refine Is.inj (t := C) (b := Lc) (h.conv h'.ne ?_) h'
  ac_rfl
end RimM
set_option linter.all false
namespace RimD
open RimM
noncomputable abbrev Fr := Int × Int
noncomputable def ga (G : List (List Fr)) (i j : Nat) : Fr := (G.getD i []).getD j (0, 1)
structure Fg (n at_ C : Nat) (A0 : Mat) (V b : Int) (B : Mat) (L : Nat → Int) (G : List (List Fr)) : Prop where
  fl : Fl n at_ A0 V b B
  len : G.length = n
  wid : ∀ r ∈ G, r.length = n
  bC : b.natAbs ≤ 2 ^ C
  L0 : ∀ k, k < n → L k ≠ 0 ∧ (L k).natAbs ≤ 2 ^ 80
  is : ∀ k j, at_ ≤ k → k < n → j < n → Is (ga G k j) (if j < at_ then 0 else B (k - at_) (j - at_)) (b * L k)
theorem Fg_start {n C : Nat} {A0 : Mat} {L : Nat → Int} {G : List (List Fr)} (len : G.length = n) (wid : ∀ r ∈ G, r.length = n) (L0 : ∀ k, k < n → L k ≠ 0 ∧ (L k).natAbs ≤ 2 ^ 80) (is : ∀ k j, k < n → j < n → Is (ga G k j) (A0 k j) (L k)) : Fg n 0 C A0 (D n A0) 1 A0 L G :=
  ⟨Fl_start, len, wid, Nat.one_le_two_pow, L0, fun k j _ hk hj => by rw [if_neg (by (clear hj hk is L0 wid len; omega)), Int.one_mul]; exact is k j hk hj⟩
theorem Fg_lead {n at_ C : Nat} {A0 B : Mat} {V b : Int} {L : Nat → Int} {G : List (List Fr)} (F : Fg n at_ C A0 V b B L G) (h : at_ < n) {k : Nat} (h1 : at_ ≤ k) (h2 : k < n) : ga G k at_ = (0, 1) ↔ B (k - at_) 0 = 0 := by
  have := (F.is k at_ h1 h2 h).zero
  rw [if_neg (by (clear this h2 h1 h F; omega)), Nat.sub_self] at this
  exact this
theorem Fg_none {n at_ C : Nat} {A0 B : Mat} {V b : Int} {L : Nat → Int} {G : List (List Fr)} (F : Fg n at_ C A0 V b B L G) (h : at_ < n) (hz : ∀ k, at_ ≤ k → k < n → ga G k at_ = (0, 1)) : V = 0 :=
  Fl_none F.fl h fun i hi => by
    have := (Fg_lead F h (k := at_ + i) (by (clear hi hz h F; omega)) (by omega)).mp (hz _ (by (clear hi hz h F; omega)) (by omega))
    rwa [show at_ + i - at_ = i by (clear this hi hz h F; omega)] at this
noncomputable def swapG (G : List (List Fr)) (a b : Nat) : List (List Fr) := (G.set a (G.getD b [])).set b (G.getD a [])
theorem swapG_at {G : List (List Fr)} {a b : Nat} (ha : a < G.length) (hb : b < G.length) (i : Nat) : (swapG G a b).getD i [] = if i = b then G.getD a [] else if i = a then G.getD b [] else G.getD i [] := by
  unfold swapG
  rw [List.getD_eq_getElem?_getD, List.getElem?_set]
  by_cases h : b = i
  · subst h; simp [hb]
  · rw [if_neg h, if_neg (fun z => h z.symm), List.getElem?_set]
    by_cases h2 : a = i
    · subst h2; simp [ha]
    · rw [if_neg h2, if_neg (fun z => h2 z.symm), ← List.getD_eq_getElem?_getD]
theorem Fg_swap {n at_ C l : Nat} {A0 B : Mat} {V b : Int} {L : Nat → Int} {G : List (List Fr)} (F : Fg n at_ C A0 V b B L G) (h : at_ < n) (h1 : at_ ≤ l) (h2 : l < n) (hl : B (l - at_) 0 ≠ 0) :
    ∃ (V' : Int) (B' : Mat) (L' : Nat → Int), (V' = V ∨ V' = -V) ∧ B' 0 0 ≠ 0 ∧ Fg n at_ C A0 V' b B' L' (swapG G at_ l) := by
  obtain ⟨V', hV, F'⟩ := Fl_swap (l := l - at_) (B' := fun i j => B (if i = 0 then l - at_ else if i = l - at_ then 0 else i) j) F.fl (by omega) fun i j => rfl
  have ha : at_ < G.length := by rw [F.len]; exact h
  have hb : l < G.length := by rw [F.len]; exact h2
  refine ⟨V', _, fun k => L (if k = l then at_ else if k = at_ then l else k), hV, ?_, F', by unfold swapG; simp [F.len], fun r hr => ?_, F.bC, fun k hk => ?_, fun k j hk hn hj => ?_⟩
  · show B (if 0 = 0 then l - at_ else _) 0 ≠ 0
    rw [if_pos rfl]
    exact hl
  · have row : ∀ i, i < G.length → (G.getD i []) ∈ G := fun i hi => by
      rw [List.getD_eq_getElem?_getD, List.getElem?_eq_getElem hi]
      exact List.getElem_mem _
    rcases List.mem_or_eq_of_mem_set hr with hr | hr
    · rcases List.mem_or_eq_of_mem_set hr with hr | hr
      · exact F.wid r hr
      · subst hr; exact F.wid _ (row l hb)
    · subst hr; exact F.wid _ (row at_ ha)
  · show L (if k = l then at_ else if k = at_ then l else k) ≠ 0 ∧ _
    split
    · exact F.L0 _ h
    · split
      · exact F.L0 _ h2
      · exact F.L0 _ hk
  · have e : ga (swapG G at_ l) k j = ga G (if k = l then at_ else if k = at_ then l else k) j := by
      unfold ga
      rw [swapG_at ha hb]
      split
      · rfl
      · split <;> rfl
    rw [e]
    show Is _ (if j < at_ then 0 else B (if k - at_ = 0 then l - at_ else if k - at_ = l - at_ then 0 else k - at_) (j - at_)) (b * L (if k = l then at_ else if k = at_ then l else k))
    by_cases c1 : k = l
    · rw [if_pos c1]
      have z := F.is at_ j (Nat.le_refl _) h hj
      rw [Nat.sub_self] at z
      by_cases c2 : k - at_ = 0
      · have : l = at_ := by (clear z e hj hn hb ha F' hV hl h2 h1 h F; omega)
        subst this
        rw [if_pos c2, Nat.sub_self]
        exact z
      · rw [if_neg c2, if_pos (show k - at_ = l - at_ by (clear c2 z e hj hn hb ha F' hV hl h2 h1 h F; omega))]
        exact z
    · rw [if_neg c1]
      by_cases c2 : k = at_
      · rw [if_pos c2, if_pos (show k - at_ = 0 by (clear c1 e hj hn hk hb ha F' hV hl h2 h1 h F; omega))]
        exact F.is l j h1 h2 hj
      · rw [if_neg c2, if_neg (show ¬ k - at_ = 0 by (clear c1 e hj hn hb ha F' hV hl h2 h1 h F; omega)), if_neg (show ¬ k - at_ = l - at_ by (clear e hj hn hb ha F' hV hl h2 h F; omega))]
        exact F.is k j hk hn hj
noncomputable def nxB (b : Int) (B : Mat) : Mat := fun i j => (B 0 0 * B (i + 1) (j + 1) - B (i + 1) 0 * B 0 (j + 1)).fdiv b
structure Fi (n at_ k : Nat) (b : Int) (B : Mat) (L : Nat → Int) (G0 G : List (List Fr)) : Prop where
  len : G.length = n
  wid : ∀ r ∈ G, r.length = n
  old : ∀ r, (r ≤ at_ ∨ k ≤ r) → r < n → G.getD r [] = G0.getD r []
  new : ∀ r j, at_ < r → r < k → j < n → Is (ga G r j) (if j < at_ + 1 then 0 else nxB b B (r - (at_ + 1)) (j - (at_ + 1))) (B 0 0 * L r)
theorem Fi_start {n at_ C : Nat} {A0 B : Mat} {V b : Int} {L : Nat → Int} {G : List (List Fr)} (F : Fg n at_ C A0 V b B L G) : Fi n at_ (at_ + 1) b B L G G := ⟨F.len, F.wid, fun _ _ _ => rfl, fun r j h1 h2 => by omega⟩
theorem Fi_end {n at_ C : Nat} {A0 B : Mat} {V b : Int} {L : Nat → Int} {G0 G : List (List Fr)} (F : Fg n at_ C A0 V b B L G0) (h : at_ < n) (hp : B 0 0 ≠ 0) (hC : ∀ i j, i < n - at_ → (B i j).natAbs ≤ 2 ^ C) (I : Fi n at_ n b B L G0 G) : Fg n (at_ + 1) C A0 V (B 0 0) (nxB b B) L G :=
  ⟨(Fl_next F.fl h hp fun i j => rfl).1, I.len, I.wid, hC 0 0 (by (clear I hC hp F; omega)), F.L0, fun k j hk hn hj => I.new k j (by (clear hj hn I hC hp h F; omega)) hn hj⟩
theorem Fi_next {n at_ k C : Nat} {A0 B : Mat} {V b : Int} {L : Nat → Int} {G0 G : List (List Fr)} {share : Fr} {row : List Fr} (F : Fg n at_ C A0 V b B L G0) (h : at_ < n) (hp : B 0 0 ≠ 0) (I : Fi n at_ k b B L G0 G) (hk : at_ < k) (hn : k < n)
    (hs : Is share (B (k - at_) 0 * (b * L at_)) ((b * L k) * B 0 0)) (hl : row.length = n)
    (hr : ∀ j, j < n → row.getD j (0, 1) = nf ((ga G k j).1 * (nf (share.1 * (ga G at_ j).1) (share.2 * (ga G at_ j).2)).2 - (nf (share.1 * (ga G at_ j).1) (share.2 * (ga G at_ j).2)).1 * (ga G k j).2) ((ga G k j).2 * (nf (share.1 * (ga G at_ j).1) (share.2 * (ga G at_ j).2)).2)) :
    Fi n at_ (k + 1) b B L G0 (G.set k row) := by
  have at1 : ∀ i, (G.set k row).getD i [] = if i = k then row else G.getD i [] := fun i => by
    rw [List.getD_eq_getElem?_getD, List.getElem?_set]
    by_cases c : k = i
    · subst c; simp [show k < G.length by rw [I.len]; exact hn]
    · rw [if_neg c, if_neg (fun z => c z.symm), ← List.getD_eq_getElem?_getD]
  refine ⟨by simp [I.len], fun r hr' => ?_, fun r hr' hn' => ?_, fun r j h1 h2 hj => ?_⟩
  · rcases List.mem_or_eq_of_mem_set hr' with z | z
    · exact I.wid r z
    · rw [z]; exact hl
  · rw [at1, if_neg (by (clear hn' at1 hr hl hs hn I hp h F; omega))]
    exact I.old r (by (clear hn' at1 hr hl hs hn hk I hp h F; omega)) hn'
  · by_cases c : r = k
    · subst c
      have e1 : ga (G.set r row) r j = row.getD j (0, 1) := by
        unfold ga
        rw [at1, if_pos rfl]
      rw [e1, hr j hj]
      have o1 : ga G r j = ga G0 r j := by unfold ga; rw [I.old r (.inr (Nat.le_refl _)) hn]
      have o2 : ga G at_ j = ga G0 at_ j := by unfold ga; rw [I.old at_ (.inl (Nat.le_refl _)) h]
      rw [o1, o2]
      have i1 := F.is r j (by (clear o2 o1 e1 h2 at1 hr hs hn hk I hj hl hp h F; omega)) hn hj
      have i2 := F.is at_ j (Nat.le_refl _) h hj
      rw [Nat.sub_self] at i2
      have ex := (Fl_next F.fl h hp (B' := nxB b B) fun i j => rfl).2
      refine clear_is (B' := if j < at_ + 1 then 0 else nxB b B (r - (at_ + 1)) (j - (at_ + 1))) i1 i2 hs ?_
      by_cases c1 : j < at_
      · rw [if_pos (by (clear ex i2 i1 o2 o1 e1 h2 at1 hr hs hn hk I hj h1 hl hp h F; omega)), if_pos c1, if_pos c1]; simp
      · rw [if_neg c1, if_neg c1]
        by_cases c2 : j = at_
        · subst c2
          rw [if_pos (by (clear c1 ex i2 i1 o2 hr hs hk I h1 h F o1 e1 h2 at1 hn hj hl hp; omega)), Nat.sub_self, Int.mul_comm (B 0 0)]
          (clear c1 ex i2 i1 o2 hr hs hk I h1 h F o1 e1 h2 at1 hn hj hl hp; omega)
        · rw [if_neg (by (clear ex i2 i1 o2 o1 e1 h2 at1 hr hs hn hk I hj h1 hl hp h F; omega)), ex _ _ (by (clear c2 c1 ex i2 i1 o2 o1 e1 h2 at1 hr hs hk I hj hp F; omega)), show r - (at_ + 1) + 1 = r - at_ by (clear c2 c1 ex i2 i1 o2 o1 e1 h2 at1 hr hs hn hk I hj hl hp h F; omega), show j - (at_ + 1) + 1 = j - at_ by (clear ex i2 i1 o2 o1 e1 h2 at1 hr hs hn hk I hj h1 hl hp h F; omega)]
    · have e1 : ga (G.set k row) r j = ga G r j := by
        unfold ga
        rw [at1, if_neg c]
      rw [e1]
      exact I.new r j h1 (by (clear e1 hj h1 at1 hr hl hs hn hk I hp h F; omega)) hj
theorem Is.le {p : Fr} {t b : Int} {X Y : Nat} (h : Is p t b) (ht : t.natAbs ≤ 2 ^ X) (hb : b.natAbs ≤ 2 ^ Y) : p.1.natAbs ≤ 2 ^ X ∧ p.2.natAbs ≤ 2 ^ Y := by
  rw [h.to]
  have := nf_abs_le (t := t) h.ne
  exact ⟨Nat.le_trans this.1 ht, Nat.le_trans this.2 hb⟩
theorem Fg_le {n at_ C : Nat} {A0 B : Mat} {V b : Int} {L : Nat → Int} {G : List (List Fr)} (F : Fg n at_ C A0 V b B L G) (hC : ∀ i j, i < n - at_ → (B i j).natAbs ≤ 2 ^ C) {k j : Nat} (h1 : at_ ≤ k) (h2 : k < n) (hj : j < n) : (ga G k j).1.natAbs ≤ 2 ^ C ∧ (ga G k j).2.natAbs ≤ 2 ^ (C + 80) ∧ 0 < (ga G k j).2 := by
  have i := F.is k j h1 h2 hj
  have z := Is.le (X := C) (Y := C + 80) i (by
    split
    · simp
    · exact hC _ _ (by (clear i hj hC F; omega))) (by
    rw [Int.natAbs_mul, Nat.pow_add]
    exact Nat.mul_le_mul F.bC (F.L0 k h2).2)
  exact ⟨z.1, z.2, i.low.pos⟩
theorem le_mul {x y : Int} {X Y : Nat} (hx : x.natAbs ≤ 2 ^ X) (hy : y.natAbs ≤ 2 ^ Y) : (x * y).natAbs ≤ 2 ^ (X + Y) := by
  rw [Int.natAbs_mul, Nat.pow_add]
  exact Nat.mul_le_mul hx hy
theorem share_le {share two : Fr} {Bk0 B00 t0 b Lk L0 : Int} {C : Nat} (hs : Is share (Bk0 * (b * L0)) ((b * Lk) * B00)) (h2 : Is two t0 (b * L0)) (a1 : Bk0.natAbs ≤ 2 ^ C) (a2 : B00.natAbs ≤ 2 ^ C) (a3 : t0.natAbs ≤ 2 ^ C) (a4 : b.natAbs ≤ 2 ^ C) (l1 : Lk.natAbs ≤ 2 ^ 80) (l2 : L0.natAbs ≤ 2 ^ 80) :
    (share.1.natAbs ≤ 2 ^ (C + 80) ∧ share.2.natAbs ≤ 2 ^ (80 + C) ∧ 0 < share.2) ∧ ((nf (share.1 * two.1) (share.2 * two.2)).1.natAbs ≤ 2 ^ (C + 80 + C) ∧ (nf (share.1 * two.1) (share.2 * two.2)).2.natAbs ≤ 2 ^ (80 + C + (C + 80)) ∧ 0 < (nf (share.1 * two.1) (share.2 * two.2)).2) := by
  have b00 : B00 ≠ 0 := fun z => hs.ne (by rw [z, Int.mul_zero])
  have lk : Lk ≠ 0 := fun z => hs.ne (by rw [z, Int.mul_zero, Int.zero_mul])
  have hs' : Is share (Bk0 * L0) (Lk * B00) := hs.conv (Int.mul_ne_zero lk b00) (by ac_rfl)
  have z1 := Is.le hs' (le_mul a1 l2) (le_mul l1 a2)
  have m := hs'.mul h2
  have z2 := Is.le m (le_mul (le_mul a1 l2) a3) (le_mul (le_mul l1 a2) (le_mul a4 l2))
  exact ⟨⟨z1.1, z1.2, hs.low.pos⟩, ⟨z2.1, z2.2, m.low.pos⟩⟩
end RimD
set_option Elab.async false
set_option linter.all false
set_option maxRecDepth 100000
namespace L2
open PySem PySem.Spec PyProof.Rows
theorem ps_tryOk {X : Cx} {body : List Stmt} {h₀ : ExceptHandler} {hs : List ExceptHandler} {t : TS} {pos : Pos} (hb : ∀ EE, PSs (X.wish EE) body t) : PS X (.Try body (h₀ :: hs) [] [] pos) t := by
  intro pins s σ H D I h
  refine wpAny_Try_except (wpAny_mono (hb (fun _ _ => False) pins s σ H D (I.wish _) h) (fun f s1 q => ?_) fun _ _ x => x.elim)
  have q' := SP.unwish q
  cases f with
  | next => exact wpAny_execs_nil q'
  | brk => exact q'
  | cont => exact q'
  | ret u => exact q'
theorem ps_tryR {X : Cx} {x y n : Str} {ps : List Str} {k i : Nat} {sp : Sp} {e₀ : Expr} {es es' : List Expr} {ta : TA} {more suite : List Stmt} {b₀ : Stmt} {ts : TS} {kt : Nat} {p cpos tpos epos np hpos pos : Pos} {Py : Addr}
    (C : CalR X.prog X.w X.K X.mg X.base x ps k sp) (hr : Room k X.A) (hg : Gl X x) (hst : X.stack = X.env :: X.outer) (hfr : X.env.frame = some X.env.locals) (hy : X.mg y = some (.ref Py)) (HC : HnC X.K Py) (hgy : Gl X y)
    (hN : X.N.Nodup) (hi : X.N[i]? = some n) (hn : X.env.scope.names.lookup n = some .local) (ha : ∀ EE, PA (X.wish EE) (e₀ :: es) ta) (hs : ∀ e, PSs (X.suite e) (b₀ :: suite) ts)
    (hdb : (x == ("__debug__" : Str)) = false := by decide) (hdy : (y == ("__debug__" : Str)) = false := by decide)
    (he : starEach (e₀ :: es) X.env = (false, eval e₀ X.env) :: starEach es X.env := by rfl) (hpl : (backTo cpos (starEach es X.env)).any (·.1) = false := by rfl)
    (ht : starEach (.Call (.Name x p) (e₀ :: es) [] cpos :: es') X.env = (false, eval (.Call (.Name x p) (e₀ :: es) [] cpos) X.env) :: starEach es' X.env := by rfl) :
    PS X (.Try (.Return (some (.Tuple (.Call (.Name x p) (e₀ :: es) [] cpos :: es') kt tpos)) epos :: more) [.ExceptHandler (some (.Name y np)) (some n) (b₀ :: suite) hpos] [] [] pos) (tTry X.K Py sp ta i ts) := by
  intro pins s σ H D I h
  refine wpAny_Try_except (wpAny_execs_cons (wpAny_Return_some (wpAny_Tuple_spliced ?_)))
  rw [ht]
  show wpAny _ _ (spliced ((false, eval (.Call (.Name x p) (e₀ :: es) [] cpos) X.env) :: backTo tpos (starEach es' X.env))) _ _ s
  refine Calls.spliced_cons (run_raises C hr hg (ha _) I h ?_ hdb he hpl)
  intro H1 s1 e s' I1 hq
  · obtain ⟨ea, C0, a0, B, H', rfl, os, bare, un, hok, fl, new, b1, b2, C, rfl, hsub, hts⟩ := hq
    have fl' : Heap.FlyingW B (X.env :: X.outer) ea (.ref C) a0 s'.heap := hst ▸ fl
    have hn' : H' ea = none := by
      cases z : H' ea with
      | none => rfl
      | some o =>
        obtain ⟨u, hu⟩ := b2 ea o z
        rw [fl.2.1] at hu
        cases hu
    refine wpAny_looks_onW (L := X.env.locals) (by rw [I.ok.frames, hst]) hfr fl' fun h₄ hd₄ sm₄ => ?_
    refine wpAny_landsW hd₄ fun h₅ fl₅ sm₅ => ?_
    obtain ⟨un5, ok5⟩ := un_moved un hok fl.1 fl₅.1 fl.2.2.1 (sm₄.trans sm₅) b1 b2
    have I5 : Inv X pins σ H' { s' with heap := h₅ } := I1.call' (s' := { s' with heap := h₅ }) os un5 ok5 bare (fun b z => nomatch z)
    refine wpAny_handleBy_cons (codeAny_handlers_test ?_) (by intro q; cases q)
    refine ld_glob (X := X.suite (.ref ea)) (I5.suite _) hgy hy ?_ hdy
    refine exc_matches (K := X.K) I5.kIn HC hsub fl₅.there ?_
    refine codeAny_handlers_suite_as ?_
    refine lands_againW fl₅ fun h₆ fl₆ sm₆ => ?_
    obtain ⟨un6, ok6⟩ := un_moved un hok fl.1 fl₆.1 fl.2.2.1 ((sm₄.trans sm₅).trans sm₆) b1 b2
    obtain ⟨un7, ok7⟩ := un_exc un6 ok6 new hn' fl₆.there
    have I7 : Inv X pins σ (upd H' ea (exO (.ref C) ea)) { s' with heap := h₆ } := I1.call' (s' := { s' with heap := h₆ }) os un7 ok7 bare (fun b z => nomatch z)
    refine store_ok (X := X.suite (.ref ea)) (I7.suite _) hN hi (.inl hn) (v := .ref ea) rfl (fun s₈ I8 => ?_) (.inr hn)
    refine wpAny_mono (hs (.ref ea) pins s₈ _ _ (D.unb i) I8 (hts ea hn')) (fun fw s₉ q => ?_) fun _ _ z => z.elim
    show wpAny _ _ (do bindName X.env n .none; unbindBehindTheSuite X.env n hpos) _ _ s₉
    cases fw with
    | next => obtain ⟨σ', H9, J, d⟩ := q; exact goes_ok (J.unsuite I.ok) hN hi hn fun s' J' => ⟨_, _, J', d⟩
    | brk => obtain ⟨σ', H9, J, d⟩ := q; exact goes_ok (J.unsuite I.ok) hN hi hn fun s' J' => ⟨_, _, J', d⟩
    | cont => obtain ⟨σ', H9, J, d⟩ := q; exact goes_ok (J.unsuite I.ok) hN hi hn fun s' J' => ⟨_, _, J', d⟩
    | ret u => obtain ⟨v, σ', H9, J, rv, d⟩ := q; exact goes_ok (J.unsuite I.ok) hN hi hn fun s' J' => ⟨v, _, _, J', rv, d⟩
theorem comp_flt {J : It} {g : TG} {tt : TT} {te : TE} {σ : St} {H : Hp} {Q : VK} (n : Nat) (Pσ : St → Prop) (bs : Nat → Bool) (val : Nat → V) (h0 : Pσ σ) (hz : n ≤ 1000) (hgo : ∀ i H', i < n → Same H H' → J.go i H') (hst : ∀ H', Same H H' → J.stop n H')
    (hs : ∀ D i x σ' H' H'', H D = none → (∃ o, H' D = some o) → Same H H' → i < n → J.yld i H' x H'' → Pσ σ' → ∀ (Y : St → V → Hp → Prop) (R : St → Hp → Prop), (bs i = true → ∀ σ2 H3, Pσ σ2 → Same H' H3 → Y σ2 (val i) H3) → (bs i = false → ∀ σ2 H3, Pσ σ2 → Same H' H3 → R σ2 H3) →
      g x σ' H'' fun σ2 H2 => tt σ2 H2 fun b H3 => if b = true then te σ2 H3 fun v H4 => Y σ2 v H4 else R σ2 H3)
    (hd : ∀ D H', H D = none → Same H H' → H' D = some (.lst (((List.range n).filter bs).map val)) → Q (.ref D) H') : CompGo J g tt te σ H Q := by
  intro D hD
  refine ⟨fun i m σ' H' => m = n - i ∧ i ≤ n ∧ Pσ σ' ∧ Same H H' ∧ H' D = some (.lst (((List.range i).filter bs).map val)), ⟨n, by simp, Nat.zero_le _, h0, Same.new hD, upd_same⟩, ?_⟩
  rintro i m σ' H' ⟨rfl, hi, hp, hs', hDD⟩
  by_cases hlt : i < n
  · refine .inr ⟨hgo i H' hlt hs', fun σ2 H2 => Pσ σ2 ∧ Same H H2 ∧ H2 D = some (.lst (((List.range (i + 1)).filter bs).map val)), fun σ2 H2 ⟨a, b, c⟩ => ⟨n - (i + 1), by (clear c b a hDD hs' hp hi hD hd hs hst hgo hz h0; omega), rfl, hlt, a, b, c⟩, fun x H'' hy => ?_⟩
    refine hs D i x σ' H' H'' hD ⟨_, hDD⟩ hs' hlt hy hp _ _ (fun hb σ2 H3 hp2 s3 => ?_) fun hb σ2 H3 hp2 s3 => ?_
    · refine ⟨_, s3 _ _ hDD, ?_, hp2, (hs'.trans s3).upd hD, ?_⟩
      · rw [List.length_map]
        have := List.length_filter_le bs (List.range i)
        rw [List.length_range] at this
        exact small1000 (by (clear s3 hp2 hb hy hDD hs' hp hi hD hd hs hst hgo h0; omega))
      · rw [upd_same, List.range_succ, List.filter_append, List.map_append]
        simp [hb]
    · refine ⟨hp2, hs'.trans s3, ?_⟩
      rw [List.range_succ, List.filter_append, List.map_append]
      have e : [i].filter bs = [] := by simp [hb]
      rw [e, List.map_nil, List.append_nil]
      exact s3 _ _ hDD
  · have e : i = n := by (clear hDD hs' hp hD hd hs hst hgo hz h0; omega)
    subst e
    exact .inl ⟨hst H' hs', hd D H' hD hs' hDD⟩
end L2
set_option Elab.async false
set_option linter.all false
set_option maxRecDepth 100000
namespace L2
open PySem PySem.Spec PyProof.Rows
noncomputable def grow (S H H' : Hp) : Hp := fun b => match H b with | some _ => S b | none => H' b
theorem grow_old {S H H' : Hp} {b : Addr} {o : HO} (h : H b = some o) : grow S H H' b = S b := by unfold grow; rw [h]
theorem grow_at {S H H' : Hp} {b : Addr} (h : H b = none) : grow S H H' b = H' b := by unfold grow; rw [h]
theorem grow_same {S H H' : Hp} (s : Same S H) : Same S (grow S H H') := fun b o h => by rw [grow_old (s _ _ h)]; exact h
theorem grow_in {S H H' : Hp} (s : Same S H) (t : Same H H') : Same (grow S H H') H' := fun b o h => by
  unfold grow at h
  cases e : H b with
  | some z => rw [e] at h; exact t _ _ (s _ _ h)
  | none => rw [e] at h; exact h
theorem grow_new {S H H' : Hp} : Same (newH H H') (grow S H H') := fun b o h => by
  obtain ⟨h1, h2⟩ := newH_of h
  rw [grow_at h1]; exact h2
theorem same_put {S H : Hp} {a : Addr} {o : HO} (s : Same S H) (h : S a = none) : Same S (upd H a o) := fun b z e => by
  rw [upd_ne (ne_of_none e h)]; exact s _ _ e
theorem stay_new {S H : Hp} {a : Addr} {o : HO} (s : Same S H) (h : H a = none) : Same (upd S a o) (upd H a o) := fun b z e => by
  by_cases q : b = a
  · subst q; rw [upd_same] at e ⊢; exact e
  · rw [upd_ne q] at e ⊢; exact s _ _ e
theorem stay_grow {S H : Hp} {a : Addr} {o : HO} (s : Same S H) (h : H a = none) : Same S (upd S a o) := Same.new (s.free h)
theorem comp_anyD {J : It} {g : TG} {te : TE} {σ : St} {H : Hp} {Q : VK} (n : Nat) (B : Hp) (Pσ : St → Prop) (ds : List Dt) (hB : Same B H) (h0 : Pσ σ) (hlen : ds.length = n) (hz : n ≤ 1000)
    (hgo : ∀ i H', i < n → Same H H' → J.go i H') (hst : ∀ H', Same H H' → J.stop n H')
    (hs : ∀ D i x d σ' H' H'', H D = none → (∃ o, H' D = some o) → Same H H' → i < n → ds[i]? = some d → J.yld i H' x H'' → Pσ σ' → ∀ R : St → V → Hp → Prop,
      (∀ σ2 v H3, Pσ σ2 → Same H' H3 → Rep (cutH B D H3) v d → R σ2 v H3) → g x σ' H'' fun σ2 H2 => te σ2 H2 fun v H3 => R σ2 v H3)
    (hd : ∀ D H' ys, H D = none → Same H H' → H' D = some (.lst ys) → Reps (cutH B D H') ys ds → Q (.ref D) H') : CompGo J g tYes te σ H Q := by
  intro D hD
  refine ⟨fun i m σ' H' => m = n - i ∧ i ≤ n ∧ Pσ σ' ∧ Same H H' ∧ ∃ ys, H' D = some (.lst ys) ∧ Reps (cutH B D H') ys (ds.take i) ∧ ys.length = i, ⟨n, by simp, Nat.zero_le _, h0, Same.new hD, [], upd_same, rfl, rfl⟩, ?_⟩
  rintro i m σ' H' ⟨rfl, hi, hp, hs', ys, hys, hr, hl⟩
  by_cases hlt : i < n
  · refine .inr ⟨hgo i H' hlt hs', fun σ2 H2 => Pσ σ2 ∧ Same H H2 ∧ ∃ ys, H2 D = some (.lst ys) ∧ Reps (cutH B D H2) ys (ds.take (i + 1)) ∧ ys.length = i + 1, fun σ2 H2 ⟨a, b, c⟩ => ⟨n - (i + 1), by (clear c b a hr hys hs' hp hi hD hd hs hst hgo hz hlen h0 hB; omega), rfl, hlt, a, b, c⟩, fun x H'' hy => ?_⟩
    have hdi : ds[i]? = some ds[i] := by simp [hlen, hlt]
    simp only [tYes, if_true]
    refine hs D i x ds[i] σ' H' H'' hD ⟨_, hys⟩ hs' hlt hdi hy hp _ fun σ2 v H3 hp2 s3 hv => ?_
    refine ⟨ys, s3 _ _ hys, by rw [hl]; exact small1000 (by (clear hv s3 hp2 hdi hy hr hys hs' hp hi hD hd hs hst hgo h0 hB; omega)), hp2, (hs'.trans s3).upd hD, ys ++ [v], upd_same, ?_, by simp [hl]⟩
    rw [cutH_upd]
    have e : ds.take (i + 1) = ds.take i ++ [ds[i]] := by rw [List.take_succ, hdi]; rfl
    rw [e]
    exact (Reps.mono (cutH_mono s3) _ hr).append ⟨v, [], rfl, hv, rfl⟩
  · have e : i = n := by (clear hr hys hs' hp hD hd hs hst hgo hz hlen h0 hB; omega)
    subst e
    refine .inl ⟨hst H' hs', hd D H' ys hD hs' hys ?_⟩
    rw [List.take_of_length_le (by (clear hlt hi hs hst hgo hz hl hr hys hs' hp hD hd h0 hB; omega))] at hr
    exact hr
theorem ps_nox {X : Cx} {st : Stmt} {t : TS} (h : PS X.nox st t) : PS X st t := fun pins s σ H D I q => wpAny_mono (h pins s σ H D (I.wish _) q) (fun f s' z => SP.unwish z) fun _ _ z => z.elim
end L2
set_option Elab.async false
set_option linter.all false
set_option maxRecDepth 100000
set_option maxHeartbeats 4000000
namespace Rim5
open PySem PySem.Spec PyProof.Rows L2 RimM
theorem plainT_int : plainT "int" = True := eq_true (.inl rfl)
theorem plainT_bool : plainT "bool" = True := eq_true (.inr (.inl rfl))
theorem plainT_tuple : plainT "tuple" = True := eq_true (.inr (.inr (.inl rfl)))
theorem plainT_list : plainT "list" = True := eq_true (.inr (.inr (.inr (.inl rfl))))
theorem plainT_str : plainT "str" = True := eq_true (.inr (.inr (.inr (.inr rfl))))
theorem gcd_step {x y : Int} (hx : 0 ≤ x) (hy : 0 < y) : Int.gcd y (x % y) = Int.gcd x y := by
  obtain ⟨m, rfl⟩ := Int.eq_ofNat_of_zero_le hx
  obtain ⟨n, rfl⟩ := Int.eq_ofNat_of_zero_le (Int.le_of_lt hy)
  show Int.gcd (n : Int) ((m : Int) % (n : Int)) = Int.gcd (m : Int) (n : Int)
  rw [← Int.natCast_emod, Int.gcd_natCast_natCast, Int.gcd_natCast_natCast, Nat.gcd_comm n, ← Nat.gcd_rec, Nat.gcd_comm]
local macro_rules | `(tactic| walk_at "rd") => `(tactic| first | (dsimp only [tSeq, tAsg, gName, tTup, tLst, tCons, tNil, tVar, tC, tCB, tOp, rI, rI0, tTest, tIfS, tNext, tRet, tRetN, tDrop, tB, tAnd, tOr, tNot, tAndV, tOrV, tNotV, rU, tUn, tBM0, tBM, rBits, tCall, L2.start, rIxTH, rIxLH, rLenH, rEqTH, rEq, rNe, scal, tyV, CMul, CMulB, CDivB, CDivF, CPow, List.map_cons, List.map_nil, List.length_cons, List.length_nil, List.replicate, List.cons_append, List.nil_append, List.set_cons_zero, List.set_cons_succ, List.getElem?_cons_zero, List.getElem?_cons_succ, gSub, rSetL, rCat, iRng1, tPar, iList, tComp, pick, tYes, iZip, gTup, gCons, gNil, rSum, rListH, List.map, iRng2, iRngD, tSl, rSlH, tPart, tNoPart, tPar3]; try simp only [tSeq, tAsg, gName, tTup, tLst, tCons, tNil, tVar, tC, tCB, tOp, rI, rI0, tTest, tIfS, tNext, tRet, tRetN, tDrop, tB, tAnd, tOr, tNot, tAndV, tOrV, tNotV, rU, tUn, tBM0, tBM, rBits, tCall, L2.start, rIxTH, rIxLH, rLenH, rEqTH, rEq, rNe, scal, tyV, CMul, CMulB, CDivB, CDivF, CPow, List.map_cons, List.map_nil, List.length_cons, List.length_nil, List.replicate, List.cons_append, List.nil_append, List.append_nil, List.set_cons_zero, List.set_cons_succ, List.getElem?_cons_zero, List.getElem?_cons_succ, Option.some.injEq, List.cons.injEq, V.int.injEq, V.bl.injEq, V.str.injEq, V.ref.injEq, V.ty.injEq, HO.tup.injEq, HO.lst.injEq, exists_eq_left, exists_eq_left', exists_and_left, and_assoc, and_true, true_and, upd_same, atI_0, atI_1, atI_2, Nat.zero_add, Nat.reduceAdd, Nat.reduceSub, decide_eq_true_eq, Bool.not_eq_true', decide_eq_false_iff_not, reduceCtorEq, false_or, or_false, true_or, or_true, plainT_int, plainT_bool, plainT_tuple, plainT_list, plainT_str, Bool.false_eq_true, if_false, if_true, Bool.not_false, Bool.not_true, Bool.not_not, gSub, rSetL, ixN_00, upd_upd, rCat, iRng1, tFor_eq, tPar, iList, tComp, pick, tYes, iZip, gTup, gCons, gNil, rSum, rListH, List.map, Option.bind, iRng2, iRngD, tSl, rSlH, tPart, tNoPart, tPar3]) | simp only [tSeq, tAsg, gName, tTup, tLst, tCons, tNil, tVar, tC, tCB, tOp, rI, rI0, tTest, tIfS, tNext, tRet, tRetN, tDrop, tB, tAnd, tOr, tNot, tAndV, tOrV, tNotV, rU, tUn, tBM0, tBM, rBits, tCall, L2.start, rIxTH, rIxLH, rLenH, rEqTH, rEq, rNe, scal, tyV, CMul, CMulB, CDivB, CDivF, CPow, List.map_cons, List.map_nil, List.length_cons, List.length_nil, List.replicate, List.cons_append, List.nil_append, List.append_nil, List.set_cons_zero, List.set_cons_succ, List.getElem?_cons_zero, List.getElem?_cons_succ, Option.some.injEq, List.cons.injEq, V.int.injEq, V.bl.injEq, V.str.injEq, V.ref.injEq, V.ty.injEq, HO.tup.injEq, HO.lst.injEq, exists_eq_left, exists_eq_left', exists_and_left, and_assoc, and_true, true_and, upd_same, atI_0, atI_1, atI_2, Nat.zero_add, Nat.reduceAdd, Nat.reduceSub, decide_eq_true_eq, Bool.not_eq_true', decide_eq_false_iff_not, reduceCtorEq, false_or, or_false, true_or, or_true, plainT_int, plainT_bool, plainT_tuple, plainT_list, plainT_str, Bool.false_eq_true, if_false, if_true, Bool.not_false, Bool.not_true, Bool.not_not, gSub, rSetL, ixN_00, upd_upd, rCat, iRng1, tFor_eq, tPar, iList, tComp, pick, tYes, iZip, gTup, gCons, gNil, rSum, rListH, List.map, Option.bind, iRng2, iRngD, tSl, rSlH, tPart, tNoPart, tPar3])
structure Txt (K : PySem.W.Frag) (mg : Str → Option Value) : Prop where
  n_max : mg "max" = none
  n_min : mg "min" = none
  n_abs : mg "abs" = none
  n_len : mg "len" = none
  n_range : mg "range" = none
  n_list : mg "list" = none
  n_zip : mg "zip" = none
  n_isinstance : mg "isinstance" = none
  n_int : mg "int" = none
  n_bool : mg "bool" = none
  n_tuple : mg "tuple" = none
  n_ValueError : mg "ValueError" = none
  c_LONG_BITS : ∃ t, mg "LONG_BITS" = some (.int 8000 t)
variable {P : Program} {w : World} {K : PySem.W.Frag} {mg : Str → Option Value} {base : Heap}
noncomputable abbrev s_greatest_divisor : Stmt := PySem.Challenge.pw_rimread_k05_solved.main.body.getD 11 (.Pass ⟨0, 0, 0, 0⟩)
theorem sc_greatest_divisor : FnScope ["one", "other", "pair", "rest"] ["one", "other"] (defScope s_greatest_divisor) := ⟨rfl, rfl, rfl, by decide +kernel, rfl, by decide +kernel, by decide +kernel⟩
theorem lk_greatest_divisor_0 : (defScope s_greatest_divisor).names.lookup ("one" : Str) = some PySem.NameKind.local := by decide +kernel
theorem lk_greatest_divisor_1 : (defScope s_greatest_divisor).names.lookup ("other" : Str) = some PySem.NameKind.local := by decide +kernel
theorem lk_greatest_divisor_2 : (defScope s_greatest_divisor).names.lookup ("pair" : Str) = some PySem.NameKind.local := by decide +kernel
theorem lk_greatest_divisor_3 : (defScope s_greatest_divisor).names.lookup ("rest" : Str) = some PySem.NameKind.local := by decide +kernel
theorem gk_greatest_divisor_LONG_BITS : (defScope s_greatest_divisor).names.lookup ("LONG_BITS" : Str) = some PySem.NameKind.globalImplicit := by decide +kernel
theorem gk_greatest_divisor_max : (defScope s_greatest_divisor).names.lookup ("max" : Str) = some PySem.NameKind.globalImplicit := by decide +kernel
theorem gk_greatest_divisor_min : (defScope s_greatest_divisor).names.lookup ("min" : Str) = some PySem.NameKind.globalImplicit := by decide +kernel
noncomputable def sp_gcd : Sp := fun vs H Q _ => ∃ a b : Int, vs = [.int a, .int b] ∧ 0 ≤ a ∧ 0 ≤ b ∧ Builtin.Int.intBits a ≤ 8000 ∧ Builtin.Int.intBits b ≤ 8000 ∧ ∀ H', Same H H' → Q (.int (Int.gcd a b : Nat)) H'
theorem ok_greatest_divisor (T : Txt K mg) (F : Fn0 K mg "greatest_divisor" s_greatest_divisor) : Cal P w K mg base "greatest_divisor" ["one", "other"] 1 sp_gcd := by
  refine cal_of F sc_greatest_divisor (fun _ _ _ _ _ _ us hl => match us, hl with | [_, _], _ => rfl) ?len ?body
  case len => rintro vs H Q E ⟨a, b, rfl, _⟩; rfl
  case body =>
    intro f cdv A outer s H vs Q E hr h
    obtain ⟨a, b, rfl, ha, hb, la, lb, k⟩ := h
    refine' ⟨_, ?D, ?R⟩
    case D =>
      refine' pss_cons ?g1 ?g2
      case g1 =>
        refine' ps_set1 (i := 2) sc_greatest_divisor.nd rfl lk_greatest_divisor_2 ?g3
        case g3 =>
          refine' pe_tup ?g4
          case g4 =>
            refine' pa_c ?g5 ?g6
            case g5 =>
              refine' pe_callE (call_max2 rfl) gk_greatest_divisor_max T.n_max bt_max ?g7
              case g7 =>
                refine' pa_c ?g8 ?g9
                case g8 => exact pv1 0 rfl lk_greatest_divisor_0
                case g9 =>
                  refine' pa_c ?g10 ?g11
                  case g10 => exact pv1 1 rfl lk_greatest_divisor_1
                  case g11 => exact pa_nil
            case g6 =>
              refine' pa_c ?g12 ?g13
              case g12 =>
                refine' pe_callE (call_min2 rfl) gk_greatest_divisor_min T.n_min bt_min ?g14
                case g14 =>
                  refine' pa_c ?g15 ?g16
                  case g15 => exact pv1 0 rfl lk_greatest_divisor_0
                  case g16 =>
                    refine' pa_c ?g17 ?g18
                    case g17 => exact pv1 1 rfl lk_greatest_divisor_1
                    case g18 => exact pa_nil
              case g13 => exact pa_nil
      case g2 =>
        refine' pss_cons ?g19 ?g20
        case g19 =>
          refine' ps_while PassesOwn.never ?g21 ?g22
          case g21 =>
            refine' pt_cmpR op_gt ?g23 ?g24 (nomark _)
            case g23 =>
              refine' pe_bm0 PySem.F.plainAttrs_int PySem.F.slot_int_bit_length PySem.F.type_int_bit_length mt_bits ?g25
              case g25 =>
                refine' pe_ix ix_tupH ?g26 ?g27 (fun _ _ => rfl)
                case g26 => exact pv1 2 rfl lk_greatest_divisor_2
                case g27 => exact pe_int
            case g24 => exact pe_gint T.c_LONG_BITS gk_greatest_divisor_LONG_BITS
          case g22 => exact pss_never
        case g20 =>
          refine' pss_cons ?g28 ?g29
          case g28 =>
            refine' ps_set1 (i := 0) sc_greatest_divisor.nd rfl lk_greatest_divisor_0 ?g30
            case g30 =>
              refine' pe_ix ix_tupH ?g31 ?g32 (fun _ _ => rfl)
              case g31 => exact pv1 2 rfl lk_greatest_divisor_2
              case g32 => exact pe_int
          case g29 =>
            refine' pss_cons ?g33 ?g34
            case g33 =>
              refine' ps_set1 (i := 1) sc_greatest_divisor.nd rfl lk_greatest_divisor_1 ?g35
              case g35 =>
                refine' pe_ix ix_tupH ?g36 ?g37 (fun _ _ => rfl)
                case g36 => exact pv1 2 rfl lk_greatest_divisor_2
                case g37 => exact pe_int
            case g34 =>
              refine' pss_cons ?g38 ?g39
              case g38 =>
                refine' ps_while PassesOwn.never ?g40 ?g41
                case g40 =>
                  refine' pt_cmpR op_ne ?g42 ?g43 (nomark _)
                  case g42 => exact pv1 1 rfl lk_greatest_divisor_1
                  case g43 => exact pe_int
                case g41 =>
                  refine' pss_cons ?g44 ?g45
                  case g44 =>
                    refine' ps_set1 (i := 3) sc_greatest_divisor.nd rfl lk_greatest_divisor_3 ?g46
                    case g46 =>
                      refine' pe_op op_mod ?g47 ?g48
                      case g47 => exact pv1 0 rfl lk_greatest_divisor_0
                      case g48 => exact pv1 1 rfl lk_greatest_divisor_1
                  case g45 =>
                    refine' pss_cons ?g49 ?g50
                    case g49 =>
                      refine' ps_set1 (i := 0) sc_greatest_divisor.nd rfl lk_greatest_divisor_0 ?g51
                      case g51 => exact pv1 1 rfl lk_greatest_divisor_1
                    case g50 =>
                      refine' pss_one ?g52
                      case g52 =>
                        refine' ps_set1 (i := 1) sc_greatest_divisor.nd rfl lk_greatest_divisor_1 ?g53
                        case g53 => exact pv1 3 rfl lk_greatest_divisor_3
              case g39 =>
                refine' pss_one ?g54
                case g54 =>
                  refine' ps_ret ?g55
                  case g55 => exact pv1 0 rfl lk_greatest_divisor_0
    case R =>
      walk_at "rd"
      refine ⟨(by decide), fun p hp => ?_⟩
      refine while_W (fun σ H1 => σ = [some (.int a), some (.int b), some (.ref p), none] ∧ H1 = upd H p (.tup [V.int (if b > a then b else a), V.int (if b < a then b else a)])) (fun _ _ => 0) ⟨rfl, rfl⟩ ?_
      rintro σ H1 ⟨rfl, rfl⟩
      walk_at "rd"
      have hm : ¬ (8000 : Int) < (Builtin.Int.intBits (if b < a then b else a) : Nat) := by
        split <;> (clear hp k hb ha hr F T; omega)
      rw [if_neg hm]
      refine while_W (fun σ H1 => ∃ (x y : Int) (z : Option V), σ = [some (.int x), some (.int y), some (.ref p), z] ∧ H1 = upd H p (.tup [V.int (if b > a then b else a), V.int (if b < a then b else a)]) ∧ 0 ≤ x ∧ 0 ≤ y ∧ Int.gcd x y = Int.gcd a b)
        (fun σ _ => match σ with | [_, some (.int y), _, _] => y.toNat | _ => 0) ?_ ?_
      · refine ⟨_, _, _, rfl, rfl, ?_, ?_, ?_⟩
        · split <;> (clear hm hp k lb la hr F T; omega)
        · split <;> (clear hm hp k lb la hr F T; omega)
        · by_cases h : b < a
          · rw [if_pos h, if_neg (by (clear hm hp k lb la hb ha hr F T; omega))]
          · rw [if_neg h]
            by_cases h' : b > a
            · rw [if_pos h', Int.gcd_comm]
            · rw [if_neg h', Int.gcd_comm]; congr 1 <;> (clear hm hp k lb la hb ha hr F T; omega)
      · rintro σ H1 ⟨x, y, z, rfl, rfl, hx, hy, e⟩
        walk_at "rd"
        refine ite2 (fun hne => ?_) (fun he => ?_)
        · refine ⟨_, N_ok, ?_⟩
          walk_at "rd"
          have h0 : 0 < y := by (clear e hx hm hp k lb la hb ha hr F T; omega)
          have h1 := Int.emod_nonneg x hne
          have h2 := Int.emod_lt_of_pos x h0
          exact ⟨h0, hy, h1, (gcd_step hx h0).trans e, by (clear hne e hy hx hm hp k lb la hb ha hr F T; omega)⟩
        · have hy0 : y = 0 := Decidable.not_not.mp he
          have : x = (Int.gcd a b : Nat) := by
            rw [← e, hy0, Int.gcd_zero_right]; (clear hy0 he e hy hm hp k lb la hb ha hr F T; omega)
          rw [this]
          exact k _ (Same.new hp)
theorem bits_pos {b : Int} (h : b ≠ 0) : Builtin.Int.intBits b = b.natAbs.log2 + 1 := by
  unfold Builtin.Int.intBits
  simp [h]
theorem log_of {g b : Int} (h0 : g ≠ 0) (h1 : g.natAbs ≤ b.natAbs) (hb : Builtin.Int.intBits b ≤ 8000) : g.natAbs.log2 < 9000 := by
  have h := PyProof.Rows.bits_of_natAbs_le (a := g) (b := b) (n := 8000) h1 hb
  rw [bits_pos h0] at h
  (clear hb h1 h0; omega)
theorem abs_gcd (t b : Int) : Int.gcd (if t < 0 then -t else t) (if b < 0 then -b else b) = Int.gcd t b := by
  split <;> split <;> simp [Int.gcd_neg, Int.neg_gcd]
theorem abs_bits {t : Int} {n : Nat} (h : Builtin.Int.intBits t ≤ n) : Builtin.Int.intBits (if t < 0 then -t else t) ≤ n :=
  PyProof.Rows.bits_of_natAbs_le (b := t) (by split <;> omega) h
noncomputable abbrev s_fraction : Stmt := PySem.Challenge.pw_rimread_k05_solved.main.body.getD 12 (.Pass ⟨0, 0, 0, 0⟩)
theorem sc_fraction : FnScope ["top", "bottom", "divisor"] ["top", "bottom"] (defScope s_fraction) := ⟨rfl, rfl, rfl, by decide +kernel, rfl, by decide +kernel, by decide +kernel⟩
theorem lk_fraction_0 : (defScope s_fraction).names.lookup ("top" : Str) = some PySem.NameKind.local := by decide +kernel
theorem lk_fraction_1 : (defScope s_fraction).names.lookup ("bottom" : Str) = some PySem.NameKind.local := by decide +kernel
theorem lk_fraction_2 : (defScope s_fraction).names.lookup ("divisor" : Str) = some PySem.NameKind.local := by decide +kernel
theorem gk_fraction_abs : (defScope s_fraction).names.lookup ("abs" : Str) = some PySem.NameKind.globalImplicit := by decide +kernel
theorem gk_fraction_greatest_divisor : (defScope s_fraction).names.lookup ("greatest_divisor" : Str) = some PySem.NameKind.globalImplicit := by decide +kernel
noncomputable def sp_fraction : Sp := fun vs H Q _ => ∃ t b : Int, vs = [.int t, .int b] ∧ b ≠ 0 ∧ Builtin.Int.intBits t ≤ 8000 ∧ Builtin.Int.intBits b ≤ 8000 ∧ ∀ p H', Same H H' → H p = none → H' p = some (.tup [.int (nf t b).1, .int (nf t b).2]) → Q (.ref p) H'
theorem ok_fraction (T : Txt K mg) (F : Fn0 K mg "fraction" s_fraction) (C_greatest_divisor : Cal P w K mg base "greatest_divisor" ["one", "other"] 1 sp_gcd) : Cal P w K mg base "fraction" ["top", "bottom"] 2 sp_fraction := by
  refine cal_of F sc_fraction (fun _ _ _ _ _ _ us hl => match us, hl with | [_, _], _ => rfl) ?len ?body
  case len => rintro vs H Q E ⟨a, b, rfl, _⟩; rfl
  case body =>
    intro f cdv A outer s H vs Q E hr h
    obtain ⟨t, b, rfl, hb, lt, lb, k⟩ := h
    refine' ⟨_, ?D, ?R⟩
    case D =>
      refine' pss_cons ?g1 ?g2
      case g1 =>
        refine' ps_if ?g3 ?g4 ?g5
        case g3 =>
          refine' pt_cmpR op_eq ?g6 ?g7 (nomark _)
          case g6 => exact pv1 1 rfl lk_fraction_1
          case g7 => exact pe_int
        case g4 =>
          refine' pss_one ?g8
          case g8 => exact ps_never
        case g5 => exact pss_nil
      case g2 =>
        refine' pss_cons ?g9 ?g10
        case g9 =>
          refine' ps_set1 (i := 2) sc_fraction.nd rfl lk_fraction_2 ?g11
          case g11 =>
            refine' pe_callD C_greatest_divisor (hr.mono (by decide)) gk_fraction_greatest_divisor ?g12
            case g12 =>
              refine' pa_c ?g13 ?g14
              case g13 =>
                refine' pe_callE call_abs gk_fraction_abs T.n_abs bt_abs ?g15
                case g15 =>
                  refine' pa_c ?g16 ?g17
                  case g16 => exact pv1 0 rfl lk_fraction_0
                  case g17 => exact pa_nil
              case g14 =>
                refine' pa_c ?g18 ?g19
                case g18 =>
                  refine' pe_callE call_abs gk_fraction_abs T.n_abs bt_abs ?g20
                  case g20 =>
                    refine' pa_c ?g21 ?g22
                    case g21 => exact pv1 1 rfl lk_fraction_1
                    case g22 => exact pa_nil
                case g19 => exact pa_nil
        case g10 =>
          refine' pss_cons ?g23 ?g24
          case g23 =>
            refine' ps_if ?g25 ?g26 ?g27
            case g25 =>
              refine' pt_cmpR op_lt ?g28 ?g29 (nomark _)
              case g28 => exact pv1 1 rfl lk_fraction_1
              case g29 => exact pe_int
            case g26 =>
              refine' pss_one ?g30
              case g30 =>
                refine' ps_set1 (i := 2) sc_fraction.nd rfl lk_fraction_2 ?g31
                case g31 =>
                  refine' pe_un un_neg ?g32
                  case g32 => exact pv1 2 rfl lk_fraction_2
            case g27 => exact pss_nil
          case g24 =>
            refine' pss_one ?g33
            case g33 =>
              refine' ps_ret ?g34
              case g34 =>
                refine' pe_tup ?g35
                case g35 =>
                  refine' pa_c ?g36 ?g37
                  case g36 =>
                    refine' pe_op op_fdivF ?g38 ?g39
                    case g38 => exact pv1 0 rfl lk_fraction_0
                    case g39 => exact pv1 2 rfl lk_fraction_2
                  case g37 =>
                    refine' pa_c ?g40 ?g41
                    case g40 =>
                      refine' pe_op op_fdivF ?g42 ?g43
                      case g42 => exact pv1 1 rfl lk_fraction_1
                      case g43 => exact pv1 2 rfl lk_fraction_2
                    case g41 => exact pa_nil
    case R =>
      walk_at "rd"
      rw [if_neg hb]
      refine ⟨_, _, rfl, ?_, ?_, abs_bits lt, abs_bits lb, fun H1 s1 => ?_⟩
      · split <;> (clear k lb lt hb hr C_greatest_divisor F T; omega)
      · split <;> (clear k lb lt hb hr C_greatest_divisor F T; omega)
      · rw [abs_gcd]
        have g := gpos (t := t) hb
        have d1 := Int.gcd_dvd_left (a := t) (b := b)
        have d2 := Int.gcd_dvd_right (a := t) (b := b)
        have gl : (Int.gcd t b : Int).natAbs ≤ b.natAbs := by
          have := Int.natAbs_dvd_natAbs.mpr d2
          exact Nat.le_of_dvd (by (clear this d2 d1 g s1 k lb lt hr C_greatest_divisor F T; omega)) this
        have lg := log_of (g := (Int.gcd t b : Int)) (by (clear gl d2 d1 s1 k lb lt hb hr C_greatest_divisor F T; omega)) gl lb
        walk_at "rd"
        refine ite2 (fun hn => ?_) (fun hn => ?_)
        · have e : nf t b = (t.fdiv (-(Int.gcd t b : Int)), b.fdiv (-(Int.gcd t b : Int))) := by
            unfold nf
            rw [if_pos hn, Int.fdiv_eq_ediv_of_dvd (Int.neg_dvd.mpr d1), Int.fdiv_eq_ediv_of_dvd (Int.neg_dvd.mpr d2)]
          rw [e] at k
          have lg' : (-(Int.gcd t b : Int)).natAbs.log2 < 9000 := by rw [Int.natAbs_neg]; exact lg
          exact ⟨by (clear lg' e hn lg gl d2 d1 s1 k lb lt hb hr C_greatest_divisor F T; omega), lg', by (clear lg' e hn lg gl d2 d1 s1 k lb lt hb hr C_greatest_divisor F T; omega), lg', by decide, fun p hp => k p _ (s1.trans (Same.new hp)) (s1.free hp) upd_same⟩
        · have e : nf t b = (t.fdiv (Int.gcd t b : Int), b.fdiv (Int.gcd t b : Int)) := by
            unfold nf
            rw [if_neg hn, Int.fdiv_eq_ediv_of_dvd d1, Int.fdiv_eq_ediv_of_dvd d2]
          rw [e] at k
          exact ⟨by (clear e hn lg gl d2 d1 s1 k lb lt hb hr C_greatest_divisor F T; omega), lg, by (clear e hn lg gl d2 d1 s1 k lb lt hb hr C_greatest_divisor F T; omega), lg, by decide, fun p hp => k p _ (s1.trans (Same.new hp)) (s1.free hp) upd_same⟩
end Rim5
set_option Elab.async false
set_option linter.all false
set_option maxRecDepth 100000
set_option maxHeartbeats 4000000
namespace Rim5
open PySem PySem.Spec PyProof.Rows L2 RimM RimD
local macro_rules | `(tactic| walk_at "rd") => `(tactic| first | (dsimp only [tSeq, tAsg, gName, tTup, tLst, tCons, tNil, tVar, tC, tCB, tOp, rI, rI0, tTest, tIfS, tNext, tRet, tRetN, tDrop, tB, tAnd, tOr, tNot, tAndV, tOrV, tNotV, rU, tUn, tBM0, tBM, rBits, tCall, L2.start, rIxTH, rIxLH, rLenH, rEqTH, rEq, rNe, scal, tyV, CMul, CMulB, CDivB, CDivF, CPow, List.map_cons, List.map_nil, List.length_cons, List.length_nil, List.replicate, List.cons_append, List.nil_append, List.set_cons_zero, List.set_cons_succ, List.getElem?_cons_zero, List.getElem?_cons_succ, gSub, rSetL, rCat, iRng1, tPar, iList, tComp, pick, tYes, iZip, gTup, gCons, gNil, rSum, rListH, List.map, iRng2, iRngD, tSl, rSlH, tPart, tNoPart, tPar3]; try simp only [tSeq, tAsg, gName, tTup, tLst, tCons, tNil, tVar, tC, tCB, tOp, rI, rI0, tTest, tIfS, tNext, tRet, tRetN, tDrop, tB, tAnd, tOr, tNot, tAndV, tOrV, tNotV, rU, tUn, tBM0, tBM, rBits, tCall, L2.start, rIxTH, rIxLH, rLenH, rEqTH, rEq, rNe, scal, tyV, CMul, CMulB, CDivB, CDivF, CPow, List.map_cons, List.map_nil, List.length_cons, List.length_nil, List.replicate, List.cons_append, List.nil_append, List.append_nil, List.set_cons_zero, List.set_cons_succ, List.getElem?_cons_zero, List.getElem?_cons_succ, Option.some.injEq, List.cons.injEq, V.int.injEq, V.bl.injEq, V.str.injEq, V.ref.injEq, V.ty.injEq, HO.tup.injEq, HO.lst.injEq, exists_eq_left, exists_eq_left', exists_and_left, and_assoc, and_true, true_and, upd_same, atI_0, atI_1, atI_2, Nat.zero_add, Nat.reduceAdd, Nat.reduceSub, decide_eq_true_eq, Bool.not_eq_true', decide_eq_false_iff_not, reduceCtorEq, false_or, or_false, true_or, or_true, plainT_int, plainT_bool, plainT_tuple, plainT_list, plainT_str, Bool.false_eq_true, if_false, if_true, Bool.not_false, Bool.not_true, Bool.not_not, gSub, rSetL, ixN_00, upd_upd, rCat, iRng1, tFor_eq, tPar, iList, tComp, pick, tYes, iZip, gTup, gCons, gNil, rSum, rListH, List.map, Option.bind, iRng2, iRngD, tSl, rSlH, tPart, tNoPart, tPar3]) | simp only [tSeq, tAsg, gName, tTup, tLst, tCons, tNil, tVar, tC, tCB, tOp, rI, rI0, tTest, tIfS, tNext, tRet, tRetN, tDrop, tB, tAnd, tOr, tNot, tAndV, tOrV, tNotV, rU, tUn, tBM0, tBM, rBits, tCall, L2.start, rIxTH, rIxLH, rLenH, rEqTH, rEq, rNe, scal, tyV, CMul, CMulB, CDivB, CDivF, CPow, List.map_cons, List.map_nil, List.length_cons, List.length_nil, List.replicate, List.cons_append, List.nil_append, List.append_nil, List.set_cons_zero, List.set_cons_succ, List.getElem?_cons_zero, List.getElem?_cons_succ, Option.some.injEq, List.cons.injEq, V.int.injEq, V.bl.injEq, V.str.injEq, V.ref.injEq, V.ty.injEq, HO.tup.injEq, HO.lst.injEq, exists_eq_left, exists_eq_left', exists_and_left, and_assoc, and_true, true_and, upd_same, atI_0, atI_1, atI_2, Nat.zero_add, Nat.reduceAdd, Nat.reduceSub, decide_eq_true_eq, Bool.not_eq_true', decide_eq_false_iff_not, reduceCtorEq, false_or, or_false, true_or, or_true, plainT_int, plainT_bool, plainT_tuple, plainT_list, plainT_str, Bool.false_eq_true, if_false, if_true, Bool.not_false, Bool.not_true, Bool.not_not, gSub, rSetL, ixN_00, upd_upd, rCat, iRng1, tFor_eq, tPar, iList, tComp, pick, tYes, iZip, gTup, gCons, gNil, rSum, rListH, List.map, Option.bind, iRng2, iRngD, tSl, rSlH, tPart, tNoPart, tPar3])
variable {P : Program} {w : World} {K : PySem.W.Frag} {mg : Str → Option Value} {base : Heap}
noncomputable def dF (p : Int × Int) : Dt := .tup [.int p.1, .int p.2]
noncomputable def dRow (r : List (Int × Int)) : Dt := .lst (r.map dF)
structure Sm (p : Int × Int) : Prop where
  pos : 0 < p.2
  top : Builtin.Int.intBits p.1 ≤ 10
  bot : Builtin.Int.intBits p.2 ≤ 6
theorem rep_dF {H : Hp} {v : V} {p : Int × Int} (h : Rep H v (dF p)) : ∃ q, v = .ref q ∧ H q = some (.tup [.int p.1, .int p.2]) := by
  obtain ⟨q, xs, e, hq, x, r, e1, hx, y, r', e2, hy, e3⟩ := h
  cases hx
  cases hy
  subst e1 e2 e3
  exact ⟨q, e, hq⟩
theorem rep_row {H : Hp} {v : V} {r : List (Int × Int)} (h : Rep H v (dRow r)) : ∃ p xs, v = .ref p ∧ H p = some (.lst xs) ∧ Reps H xs (r.map dF) := h
theorem rep_at {H : Hp} {xs : List V} {r : List (Int × Int)} {i : Nat} {x : V} (h : Reps H xs (r.map dF)) (e : xs[i]? = some x) : ∃ q p, r[i]? = some p ∧ x = .ref q ∧ H q = some (.tup [.int p.1, .int p.2]) := by
  obtain ⟨d, hd, hr⟩ := h.of_get e
  rw [List.getElem?_map] at hd
  cases z : r[i]? with
  | none => rw [z] at hd; cases hd
  | some p =>
    rw [z] at hd
    cases hd
    obtain ⟨q, e1, e2⟩ := rep_dF hr
    exact ⟨q, p, rfl, e1, e2⟩
theorem lcm_step {c e : Int} {n : Nat} (hc : 0 < c) (he : 0 < e) (bc : Builtin.Int.intBits c ≤ n) (be : Builtin.Int.intBits e ≤ 6) :
    0 < c / (Int.gcd c e : Int) * e ∧ c ∣ c / (Int.gcd c e : Int) * e ∧ e ∣ c / (Int.gcd c e : Int) * e ∧ Builtin.Int.intBits (c / (Int.gcd c e : Int) * e) ≤ n + 6 ∧ Builtin.Int.intBits (c / (Int.gcd c e : Int)) ≤ n := by
  have g := gpos (t := c) (b := e) (by (clear be bc hc; omega))
  have d1 := Int.gcd_dvd_left (a := c) (b := e)
  obtain ⟨y, hy⟩ := Int.gcd_dvd_right (a := c) (b := e)
  have q := Int.ediv_pos_of_pos_of_dvd hc (Int.le_of_lt g) d1
  have e1 : c / (Int.gcd c e : Int) * (Int.gcd c e : Int) = c := Int.ediv_mul_cancel d1
  have bq : Builtin.Int.intBits (c / (Int.gcd c e : Int)) ≤ n := PyProof.Rows.bits_of_natAbs_le (b := c) (by have := Int.natAbs_ediv_le_natAbs c (Int.gcd c e : Int); (clear e1 q hy d1 g be bc he hc; omega)) bc
  refine ⟨Int.mul_pos q he, ⟨y, ?_⟩, ⟨_, Int.mul_comm _ _⟩, PyProof.Rows.bits_mul bq be, bq⟩
  calc c / (Int.gcd c e : Int) * e = c / (Int.gcd c e : Int) * ((Int.gcd c e : Int) * y) := by rw [← hy]
    _ = c / (Int.gcd c e : Int) * (Int.gcd c e : Int) * y := by rw [Int.mul_assoc]
    _ = c * y := by rw [e1]
structure Bot (r : List (Int × Int)) (L : Int) : Prop where
  pos : 0 < L
  dvd : ∀ p ∈ r, p.2 ∣ L
  bits : Builtin.Int.intBits L ≤ 6 * r.length + 1
noncomputable def lcmB (r : List (Int × Int)) : Int := r.foldl (fun c e => c / (Int.gcd c e.2 : Int) * e.2) 1
theorem lcm_fold : ∀ (l : List (Int × Int)) (c : Int) (n : Nat), 0 < c → Builtin.Int.intBits c ≤ n → (∀ p ∈ l, Sm p) →
    0 < l.foldl (fun c e => c / (Int.gcd c e.2 : Int) * e.2) c ∧ c ∣ l.foldl (fun c e => c / (Int.gcd c e.2 : Int) * e.2) c ∧ (∀ p ∈ l, p.2 ∣ l.foldl (fun c e => c / (Int.gcd c e.2 : Int) * e.2) c) ∧ Builtin.Int.intBits (l.foldl (fun c e => c / (Int.gcd c e.2 : Int) * e.2) c) ≤ n + 6 * l.length
  | [], c, n, h0, hb, _ => ⟨h0, Int.dvd_refl _, (fun p hp => absurd hp (by simp)), (by simpa using hb)⟩
  | q :: l, c, n, h0, hb, hs => by
    have sq := hs q List.mem_cons_self
    obtain ⟨l1, l2, l3, l4, l5⟩ := lcm_step h0 sq.pos hb sq.bot
    obtain ⟨i1, i2, i3, i4⟩ := lcm_fold l _ _ l1 l4 fun p hp => hs p (List.mem_cons_of_mem _ hp)
    refine ⟨i1, Int.dvd_trans l2 i2, fun p hp => ?_, ?_⟩
    · rcases List.mem_cons.mp hp with rfl | hp
      · exact Int.dvd_trans l3 i2
      · exact i3 p hp
    · simp only [List.length_cons, List.foldl_cons]
      (clear i3 i2 i1 l5 l4 l3 l2 l1 sq hs hb h0; omega)
theorem bot_lcm {r : List (Int × Int)} (h : ∀ p ∈ r, Sm p) : Bot r (lcmB r) := by
  obtain ⟨a, _, c, d⟩ := lcm_fold r 1 1 (by decide) (by decide +kernel) h
  exact ⟨a, c, by unfold lcmB; (clear c a h; omega)⟩
noncomputable abbrev s_common_bottom : Stmt := PySem.Challenge.pw_rimread_k05_solved.main.body.getD 14 (.Pass ⟨0, 0, 0, 0⟩)
theorem sc_common_bottom : FnScope ["entries", "common", "entry"] ["entries"] (defScope s_common_bottom) := ⟨rfl, rfl, rfl, by decide +kernel, rfl, by decide +kernel, by decide +kernel⟩
theorem lk_common_bottom_0 : (defScope s_common_bottom).names.lookup ("entries" : Str) = some PySem.NameKind.local := by decide +kernel
theorem lk_common_bottom_1 : (defScope s_common_bottom).names.lookup ("common" : Str) = some PySem.NameKind.local := by decide +kernel
theorem lk_common_bottom_2 : (defScope s_common_bottom).names.lookup ("entry" : Str) = some PySem.NameKind.local := by decide +kernel
theorem gk_common_bottom_greatest_divisor : (defScope s_common_bottom).names.lookup ("greatest_divisor" : Str) = some PySem.NameKind.globalImplicit := by decide +kernel
noncomputable def sp_cb : Sp := fun vs H Q _ => ∃ v r, vs = [v] ∧ Rep H v (dRow r) ∧ (∀ p ∈ r, Sm p) ∧ r.length ≤ 16 ∧ ∀ H', Same H H' → Q (.int (lcmB r)) H'
theorem ok_common_bottom (T : Txt K mg) (F : Fn0 K mg "common_bottom" s_common_bottom) (C_greatest_divisor : Cal P w K mg base "greatest_divisor" ["one", "other"] 1 sp_gcd) : Cal P w K mg base "common_bottom" ["entries"] 2 sp_cb := by
  refine cal_of F sc_common_bottom (fun _ _ _ _ _ _ us hl => match us, hl with | [_], _ => rfl) ?len ?body
  case len => rintro vs H Q E ⟨a, b, rfl, _⟩; rfl
  case body =>
    intro f cdv A outer s H vs Q E hr h
    obtain ⟨v, r, rfl, hv, hsm, h8, k⟩ := h
    obtain ⟨p, xs, rfl, hp, hxs⟩ := rep_row hv
    have hl : xs.length = r.length := by rw [hxs.length, List.length_map]
    refine' ⟨_, ?D, ?R⟩
    case D =>
      refine' pss_cons ?g1 ?g2
      case g1 =>
        refine' ps_set1 (i := 1) sc_common_bottom.nd rfl lk_common_bottom_1 ?g3
        case g3 => exact pe_int
      case g2 =>
        refine' pss_cons ?g4 ?g5
        case g4 =>
          refine' ps_for PassesOwn.never rfl ?g6 ?g7 ?g8
          case g6 =>
            refine' pi_listK (K := K) rfl ?g9
            case g9 => exact pv1 0 rfl lk_common_bottom_0
          case g7 => exact pg_name1 (i := 2) sc_common_bottom.nd rfl lk_common_bottom_2
          case g8 =>
            refine' pss_one ?g10
            case g10 =>
              refine' ps_set1 (i := 1) sc_common_bottom.nd rfl lk_common_bottom_1 ?g11
              case g11 =>
                refine' pe_op op_mulB ?g12 ?g13
                case g12 =>
                  refine' pe_op op_fdivB ?g14 ?g15
                  case g14 => exact pv1 1 rfl lk_common_bottom_1
                  case g15 =>
                    refine' pe_callD C_greatest_divisor (hr.mono (by decide)) gk_common_bottom_greatest_divisor ?g16
                    case g16 =>
                      refine' pa_c ?g17 ?g18
                      case g17 => exact pv1 1 rfl lk_common_bottom_1
                      case g18 =>
                        refine' pa_c ?g19 ?g20
                        case g19 =>
                          refine' pe_ix ix_tupH ?g21 ?g22 (fun _ _ => rfl)
                          case g21 => exact pv1 2 rfl lk_common_bottom_2
                          case g22 => exact pe_int
                        case g20 => exact pa_nil
                case g13 =>
                  refine' pe_ix ix_tupH ?g23 ?g24 (fun _ _ => rfl)
                  case g23 => exact pv1 2 rfl lk_common_bottom_2
                  case g24 => exact pe_int
        case g5 =>
          refine' pss_one ?g25
          case g25 =>
            refine' ps_ret ?g26
            case g26 => exact pv1 1 rfl lk_common_bottom_1
    case R =>
      walk_at "rd"
      refine ⟨⟨xs, .inl (.inl hp)⟩, ?_⟩
      refine go_list (xs := xs) (fun i σ H' => ∃ (c : Int) (e : Option V), σ = [some (.ref p), some (.int c), e] ∧ Same H H' ∧ 0 < c ∧ c = lcmB (r.take i) ∧ Builtin.Int.intBits c ≤ 6 * i + 1) ⟨1, none, rfl, Same.refl _, by decide, rfl, by decide +kernel⟩ ?_ ?_ ?_
      · rintro i σ H' hi ⟨c, e, rfl, s1, _⟩
        exact .inl (.inl (s1 _ _ hp))
      · rintro i x σ H' hx ⟨c, e, rfl, s1, hc, hd, hb⟩
        obtain ⟨q, z, hz, rfl, hq⟩ := rep_at hxs hx
        have hq' := s1 _ _ hq
        have hi : i < r.length := (List.getElem?_eq_some_iff.mp hz).1
        have sm := hsm z (List.mem_of_getElem? hz)
        have h0 := sm.pos
        walk_at "rd"
        simp only [hq', Option.some.injEq, HO.tup.injEq, exists_eq_left']
        walk_at "rd"
        have bz := sm.bot
        refine ⟨c, z.2, rfl, by (clear bz h0 sm hi hq' hx hq hz hb s1 hl hxs hp hv k h8 hsm hr C_greatest_divisor F T; omega), by (clear bz sm hi hq' hx hq hz hb hd hc s1 hl hxs hp hv k h8 hsm hr C_greatest_divisor F T; omega), by (clear bz h0 sm hq' hx hq hz hd hc s1 hxs hp hv k hsm hr C_greatest_divisor F T; omega), by (clear h0 sm hi hq' hx hq hz hb hd hc s1 hl hxs hp hv k h8 hsm hr C_greatest_divisor F T; omega), fun H2 s2 => ?_⟩
        have hq2 := s2 _ _ hq'
        obtain ⟨l1, l2, l3, l4, l5⟩ := lcm_step hc h0 hb sm.bot
        have g := gpos (t := c) (b := z.2) (by (clear l5 l4 l3 l2 l1 hq2 s2 bz sm hi hq' hx hq hz hb hd hc s1 hl hxs hp hv k h8 hsm hr C_greatest_divisor F T; omega))
        have gl : (Int.gcd c z.2 : Int).natAbs ≤ c.natAbs := Nat.le_of_dvd (by (clear g l5 l4 l3 l2 l1 hq2 s2 bz h0 sm hi hq' hx hq hz hb s1 hl hxs hp hv k h8 hsm hr C_greatest_divisor F T; omega)) (Int.natAbs_dvd_natAbs.mpr (Int.gcd_dvd_left ..))
        have lg := log_of (g := (Int.gcd c z.2 : Int)) (b := c) (by (clear gl l5 l4 l3 l2 l1 hq2 s2 bz h0 sm hi hq' hx hq hz hb hd hc s1 hl hxs hp hv k h8 hsm hr C_greatest_divisor F T; omega)) gl (by (clear gl g l5 l4 l3 l2 l1 hq2 s2 bz h0 sm hq' hx hq hz hd hc s1 hxs hp hv k hsm hr C_greatest_divisor F T; omega))
        walk_at "rd"
        simp only [hq2, Option.some.injEq, HO.tup.injEq, exists_eq_left']
        walk_at "rd"
        refine ⟨g, lg, by (clear lg gl g l4 l3 l2 l1 hq2 s2 h0 sm hq' hx hq hz hb hd hc s1 hxs hp hv k hsm hr C_greatest_divisor F T; omega), s1.trans s2, l1, ?_, by (clear lg gl g l5 l3 l2 l1 hq2 s2 bz h0 sm hi hq' hx hq hz hb hd hc s1 hl hxs hp hv k h8 hsm hr C_greatest_divisor F T; omega)⟩
        rw [List.take_succ, hz]
        show _ = lcmB (r.take i ++ [z])
        unfold lcmB
        rw [List.foldl_append]
        show c / (Int.gcd c z.2 : Int) * z.2 = _
        rw [hd]
        rfl
      · rintro σ H' ⟨c, e, rfl, s1, hc, hd, hb⟩
        walk_at "rd"
        rw [List.take_of_length_le (by (clear hb hd hc s1 hxs hp hv k h8 hsm hr C_greatest_divisor F T; omega))] at hd
        rw [hd]
        exact k H' s1
noncomputable def tops (r : List (Int × Int)) (L : Int) : List Int := r.map fun e => e.1 * (L / e.2)
noncomputable abbrev s_cleared : Stmt := PySem.Challenge.pw_rimread_k05_solved.main.body.getD 16 (.Pass ⟨0, 0, 0, 0⟩)
theorem sc_cleared : FnScope ["entries", "bottom"] ["entries"] (defScope s_cleared) := ⟨rfl, rfl, rfl, by decide +kernel, rfl, by decide +kernel, by decide +kernel⟩
theorem lk_cleared_0 : (defScope s_cleared).names.lookup ("entries" : Str) = some PySem.NameKind.local := by decide +kernel
theorem lk_cleared_1 : (defScope s_cleared).names.lookup ("bottom" : Str) = some PySem.NameKind.cell := by decide +kernel
theorem gk_cleared_common_bottom : (defScope s_cleared).names.lookup ("common_bottom" : Str) = some PySem.NameKind.globalImplicit := by decide +kernel
noncomputable def sp_cleared : Sp := fun vs H Q _ => ∃ v r, vs = [v] ∧ Rep H v (dRow r) ∧ (∀ p ∈ r, Sm p) ∧ r.length ≤ 16 ∧ ∀ x H', Same H H' → Rep (newH H H') x (.tup [.lst ((tops r (lcmB r)).map Dt.int), .int (lcmB r)]) → Q x H'
theorem ok_cleared (T : Txt K mg) (F : Fn0 K mg "cleared" s_cleared) (C_common_bottom : Cal P w K mg base "common_bottom" ["entries"] 2 sp_cb) : Cal P w K mg base "cleared" ["entries"] 3 sp_cleared := by
  refine cal_of F sc_cleared (fun _ _ _ _ _ _ us hl => match us, hl with | [_], _ => rfl) ?len ?body
  case len => rintro vs H Q E ⟨a, b, rfl, _⟩; rfl
  case body =>
    intro f cdv A outer s H vs Q E hr h
    obtain ⟨v, r, rfl, hv, hsm, h8, k⟩ := h
    obtain ⟨p, xs, rfl, hp, hxs⟩ := rep_row hv
    have hl : xs.length = r.length := by rw [hxs.length, List.length_map]
    refine' ⟨_, ?D, ?R⟩
    case D =>
      refine' pss_cons ?g1 ?g2
      case g1 =>
        refine' ps_setc (i := 1) sc_cleared.nd rfl lk_cleared_1 rfl ?g3 rfl
        case g3 =>
          refine' pe_callD C_common_bottom (hr.mono (by decide)) gk_cleared_common_bottom ?g4
          case g4 =>
            refine' pa_c ?g5 ?g6
            case g5 => exact pv1 0 rfl lk_cleared_0
            case g6 => exact pa_nil
      case g2 =>
        refine' pss_one ?g7
        case g7 =>
          refine' ps_ret ?g8
          case g8 =>
            refine' pe_tup ?g9
            case g9 =>
              refine' pa_c ?g10 ?g11
              case g10 =>
                refine' pe_comp (N' := ["entry", "bottom"]) (ix := [none, some 1]) rfl rfl (scp_of ?g12) ?g13 (fun _ _ _ => ?g14) (fun _ _ _ => ?g15) (fun _ _ _ => ?g16)
                case g12 => exact (by show scpB (defScope s_cleared) ["entries", "bottom"] _ _ _ = true; decide +kernel)
                case g13 =>
                  refine' pi_listK (K := K) rfl ?g17
                  case g17 => exact pv1 0 rfl lk_cleared_0
                case g14 => exact pg_name1 (i := 0) (by show List.Nodup (["entry", "bottom"] : List Str); decide +kernel) rfl rfl
                case g15 => exact pf_nil
                case g16 =>
                  refine' pe_op op_mulB ?g18 ?g19
                  case g18 =>
                    refine' pe_ix ix_tupH ?g20 ?g21 (fun _ _ => rfl)
                    case g20 => exact pv1 0 rfl rfl
                    case g21 => exact pe_int
                  case g19 =>
                    refine' pe_op op_fdivB ?g22 ?g23
                    case g22 => exact pvc 1 rfl rfl
                    case g23 =>
                      refine' pe_ix ix_tupH ?g24 ?g25 (fun _ _ => rfl)
                      case g24 => exact pv1 0 rfl rfl
                      case g25 => exact pe_int
              case g11 =>
                refine' pa_c ?g26 ?g27
                case g26 => exact pvc 1 rfl lk_cleared_1
                case g27 => exact pa_nil
    case R =>
      walk_at "rd"
      refine ⟨_, r, rfl, hv, hsm, h8, fun H1 s1 => ?_⟩
      have bot := bot_lcm hsm
      generalize lcmB r = L at *
      have hp1 := s1 _ _ hp
      walk_at "rd"
      refine ⟨⟨xs, .inl (.inl hp1)⟩, ?_⟩
      have bp := bot.pos
      have bb := bot.bits
      refine comp_any (n := xs.length) (B := H1) (Pσ := fun σ => ∃ e, σ = [e, some (.int L)]) (ds := (tops r L).map Dt.int) (Same.refl _) ⟨_, rfl⟩ (by simp [tops, hl]) (by (clear bb bp hp1 bot k s1 hxs hp hv hsm hr C_common_bottom F T; omega)) (fun i H' hi s' => ⟨xs, xs[i], .inl (.inl (s' _ _ hp1)), by simp [hi]⟩) (fun H' s' => ⟨xs, .inl (.inl (s' _ _ hp1)), Nat.le_refl _⟩) ?_ ?_
      · rintro D i x d σ' H' H'' hD hDo hs' hi hdi ⟨rfl, hy⟩ ⟨e, rfl⟩ R kR
        have hx := hy xs (.inl (.inl (hs' _ _ hp1)))
        obtain ⟨q, z, hz, rfl, hq⟩ := rep_at hxs hx
        have hq' := hs' _ _ (s1 _ _ hq)
        have sm := hsm z (List.mem_of_getElem? hz)
        have z0 := sm.pos
        have zb := sm.bot
        have zt := sm.top
        have lz := log_of (g := z.2) (b := z.2) (by (clear zt zb sm hq' hx hy hq hz kR hs' hDo hdi hi hD bb bp hp1 bot k s1 hl hxs hp hv h8 hsm hr C_common_bottom F T; omega)) (Nat.le_refl _) (by (clear zt z0 sm hq' hx hy hq hz kR hs' hDo hdi hi hD bb bp hp1 bot k s1 hl hxs hp hv h8 hsm hr C_common_bottom F T; omega))
        have bl : Builtin.Int.intBits (L / z.2) ≤ 6 * r.length + 1 := PyProof.Rows.bits_of_natAbs_le (b := L) (by have := Int.natAbs_ediv_le_natAbs L z.2; (clear lz zt zb z0 sm hq' hx hy hq hz kR hs' hDo hdi hi hD bb bp hp1 bot k s1 hl hxs hp hv h8 hsm hr C_common_bottom F T; omega)) bb
        walk_at "rd"
        simp only [hq', Option.some.injEq, HO.tup.injEq, exists_eq_left']
        walk_at "rd"
        refine ⟨z0, lz, by (clear lz zb z0 sm hq' hx hy hq hz kR hs' hDo hdi hi hD bb bp hp1 bot k s1 hxs hp hv hsm hr C_common_bottom F T; omega), kR _ _ _ ⟨_, rfl⟩ (Same.refl _) ?_⟩
        have : d = .int (z.1 * (L / z.2)) := by
          rw [List.getElem?_map, tops, List.getElem?_map, hz] at hdi
          exact (Option.some.inj hdi).symm
        rw [this]
        rfl
      · intro D H' hD s' rep
        refine ⟨by decide, fun q hq => k _ _ ((s1.trans s').trans (Same.new hq)) ⟨q, _, rfl, ?_, _, _, rfl, Rep.mono ((newH_less s1).trans (newH_mono (Same.new hq))) _ rep, _, _, rfl, rfl, rfl⟩⟩
        rw [newH_at ((s1.trans s').free hq)]
        exact upd_same
end Rim5
set_option Elab.async false
set_option linter.all false
set_option maxRecDepth 100000
set_option maxHeartbeats 4000000
namespace Rim5
open PySem PySem.Spec PyProof.Rows L2 RimM RimD
local macro_rules | `(tactic| walk_at "rd") => `(tactic| first | (dsimp only [tSeq, tAsg, gName, tTup, tLst, tCons, tNil, tVar, tC, tCB, tOp, rI, rI0, tTest, tIfS, tNext, tRet, tRetN, tDrop, tB, tAnd, tOr, tNot, tAndV, tOrV, tNotV, rU, tUn, tBM0, tBM, rBits, tCall, L2.start, rIxTH, rIxLH, rLenH, rEqTH, rEq, rNe, scal, tyV, CMul, CMulB, CDivB, CDivF, CPow, List.map_cons, List.map_nil, List.length_cons, List.length_nil, List.replicate, List.cons_append, List.nil_append, List.set_cons_zero, List.set_cons_succ, List.getElem?_cons_zero, List.getElem?_cons_succ, gSub, rSetL, rCat, iRng1, tPar, iList, tComp, pick, tYes, iZip, gTup, gCons, gNil, rSum, rListH, List.map, iRng2, iRngD, tSl, rSlH, tPart, tNoPart, tPar3]; try simp only [tSeq, tAsg, gName, tTup, tLst, tCons, tNil, tVar, tC, tCB, tOp, rI, rI0, tTest, tIfS, tNext, tRet, tRetN, tDrop, tB, tAnd, tOr, tNot, tAndV, tOrV, tNotV, rU, tUn, tBM0, tBM, rBits, tCall, L2.start, rIxTH, rIxLH, rLenH, rEqTH, rEq, rNe, scal, tyV, CMul, CMulB, CDivB, CDivF, CPow, List.map_cons, List.map_nil, List.length_cons, List.length_nil, List.replicate, List.cons_append, List.nil_append, List.append_nil, List.set_cons_zero, List.set_cons_succ, List.getElem?_cons_zero, List.getElem?_cons_succ, Option.some.injEq, List.cons.injEq, V.int.injEq, V.bl.injEq, V.str.injEq, V.ref.injEq, V.ty.injEq, HO.tup.injEq, HO.lst.injEq, exists_eq_left, exists_eq_left', exists_and_left, and_assoc, and_true, true_and, upd_same, atI_0, atI_1, atI_2, Nat.zero_add, Nat.reduceAdd, Nat.reduceSub, decide_eq_true_eq, Bool.not_eq_true', decide_eq_false_iff_not, reduceCtorEq, false_or, or_false, true_or, or_true, plainT_int, plainT_bool, plainT_tuple, plainT_list, plainT_str, Bool.false_eq_true, if_false, if_true, Bool.not_false, Bool.not_true, Bool.not_not, gSub, rSetL, ixN_00, upd_upd, rCat, iRng1, tFor_eq, tPar, iList, tComp, pick, tYes, iZip, gTup, gCons, gNil, rSum, rListH, List.map, Option.bind, iRng2, iRngD, tSl, rSlH, tPart, tNoPart, tPar3]) | simp only [tSeq, tAsg, gName, tTup, tLst, tCons, tNil, tVar, tC, tCB, tOp, rI, rI0, tTest, tIfS, tNext, tRet, tRetN, tDrop, tB, tAnd, tOr, tNot, tAndV, tOrV, tNotV, rU, tUn, tBM0, tBM, rBits, tCall, L2.start, rIxTH, rIxLH, rLenH, rEqTH, rEq, rNe, scal, tyV, CMul, CMulB, CDivB, CDivF, CPow, List.map_cons, List.map_nil, List.length_cons, List.length_nil, List.replicate, List.cons_append, List.nil_append, List.append_nil, List.set_cons_zero, List.set_cons_succ, List.getElem?_cons_zero, List.getElem?_cons_succ, Option.some.injEq, List.cons.injEq, V.int.injEq, V.bl.injEq, V.str.injEq, V.ref.injEq, V.ty.injEq, HO.tup.injEq, HO.lst.injEq, exists_eq_left, exists_eq_left', exists_and_left, and_assoc, and_true, true_and, upd_same, atI_0, atI_1, atI_2, Nat.zero_add, Nat.reduceAdd, Nat.reduceSub, decide_eq_true_eq, Bool.not_eq_true', decide_eq_false_iff_not, reduceCtorEq, false_or, or_false, true_or, or_true, plainT_int, plainT_bool, plainT_tuple, plainT_list, plainT_str, Bool.false_eq_true, if_false, if_true, Bool.not_false, Bool.not_true, Bool.not_not, gSub, rSetL, ixN_00, upd_upd, rCat, iRng1, tFor_eq, tPar, iList, tComp, pick, tYes, iZip, gTup, gCons, gNil, rSum, rListH, List.map, Option.bind, iRng2, iRngD, tSl, rSlH, tPart, tNoPart, tPar3])
variable {P : Program} {w : World} {K : PySem.W.Frag} {mg : Str → Option Value} {base : Heap}
noncomputable def dI (r : List Int) : Dt := .lst (r.map Dt.int)
noncomputable def dM (m : List (List Int)) : Dt := .lst (m.map dI)
theorem reps_ints {H : Hp} : ∀ {xs : List V} {ns : List Int}, Reps H xs (ns.map Dt.int) → xs = ns.map V.int
  | xs, [], h => h
  | xs, n :: ns, ⟨x, r, e, hx, hr⟩ => by
    cases hx
    rw [e, reps_ints hr]
    rfl
theorem reps_of_ints {H : Hp} : ∀ (ns : List Int), Reps H (ns.map V.int) (ns.map Dt.int)
  | [] => rfl
  | n :: ns => ⟨_, _, rfl, rfl, reps_of_ints ns⟩
theorem rep_ints {H : Hp} {v : V} {r : List Int} (h : Rep H v (dI r)) : ∃ p, v = .ref p ∧ H p = some (.lst (r.map V.int)) := by
  obtain ⟨p, xs, e, hp, hxs⟩ := h
  rw [reps_ints hxs] at hp
  exact ⟨p, e, hp⟩
theorem rep_of_ints {H : Hp} {p : Addr} {r : List Int} (h : H p = some (.lst (r.map V.int))) : Rep H (.ref p) (dI r) := ⟨p, _, rfl, h, reps_of_ints r⟩
theorem at_ints {r : List Int} {i : Int} (h0 : 0 ≤ i) (h : i.toNat < r.length) : atI (r.map V.int) i = some (.int (gi r i.toNat)) := by
  refine atI_nn h0 ?_
  unfold gi
  simp [List.getD_eq_getElem?_getD, h]
theorem gi_bits {r : List Int} {n : Nat} (h : ∀ x ∈ r, Builtin.Int.intBits x ≤ n) (j : Nat) : Builtin.Int.intBits (gi r j) ≤ n := by
  unfold gi
  rw [List.getD_eq_getElem?_getD]
  cases e : r[j]? with
  | none => exact Nat.le_trans (show Builtin.Int.intBits 0 ≤ 0 by decide +kernel) (Nat.zero_le _)
  | some x => exact h x (List.mem_of_getElem? e)
noncomputable abbrev s_lessened : Stmt := PySem.Challenge.pw_rimread_k05_solved.main.body.getD 18 (.Pass ⟨0, 0, 0, 0⟩)
theorem sc_lessened : FnScope ["row", "pivot_row", "before"] ["row", "pivot_row", "before"] (defScope s_lessened) := ⟨rfl, rfl, rfl, by decide +kernel, rfl, by decide +kernel, by decide +kernel⟩
theorem lk_lessened_0 : (defScope s_lessened).names.lookup ("row" : Str) = some PySem.NameKind.cell := by decide +kernel
theorem gk_lessened_len : (defScope s_lessened).names.lookup ("len" : Str) = some PySem.NameKind.globalImplicit := by decide +kernel
theorem gk_lessened_range : (defScope s_lessened).names.lookup ("range" : Str) = some PySem.NameKind.globalImplicit := by decide +kernel
noncomputable def sp_lsn : Sp := fun vs H Q _ => ∃ (v u : V) (r p : List Int) (b : Int), vs = [v, u, .int b] ∧ Rep H v (dI r) ∧ Rep H u (dI p) ∧ r.length = p.length ∧ 1 ≤ r.length ∧ r.length ≤ 100 ∧ b ≠ 0 ∧ b.natAbs.log2 < 9000 ∧
  (∀ x ∈ r, Builtin.Int.intBits x ≤ 60000000) ∧ (∀ x ∈ p, Builtin.Int.intBits x ≤ 60000000) ∧ ∀ x H', Same H H' → Rep (newH H H') x (dI (lessP p b r)) → Q x H'
theorem ok_lessened (T : Txt K mg) (F : Fn0 K mg "lessened" s_lessened) : Cal P w K mg base "lessened" ["row", "pivot_row", "before"] 1 sp_lsn := by
  refine cal_of F sc_lessened (fun _ _ _ _ _ _ us hl => match us, hl with | [_, _, _], _ => rfl) ?len ?body
  case len => rintro vs H Q E ⟨a, b, c, d, e, rfl, _⟩; rfl
  case body =>
    intro f cdv A outer s H vs Q E hr h
    obtain ⟨v, u, r, p, b, rfl, hv, hu, hl, h1, h100, hb, hlog, br, bp, k⟩ := h
    obtain ⟨x, rfl, hx⟩ := rep_ints hv
    obtain ⟨y, rfl, hy⟩ := rep_ints hu
    refine' ⟨_, ?D, ?R⟩
    case D =>
      refine' pss_one ?g1
      case g1 =>
        refine' ps_ret ?g2
        case g2 =>
          refine' pe_comp (N' := ["j", "pivot_row", "row", "before"]) (ix := [none, some 1, some 0, some 2]) rfl rfl (scp_of ?g3) ?g4 (fun _ _ _ => ?g5) (fun _ _ _ => ?g6) (fun _ _ _ => ?g7)
          case g3 => exact (by show scpB (defScope s_lessened) ["row", "pivot_row", "before"] _ _ _ = true; decide +kernel)
          case g4 =>
            refine' pi_range2 gk_lessened_range T.n_range ?g8
            case g8 =>
              refine' pa_c ?g9 ?g10
              case g9 => exact pe_int
              case g10 =>
                refine' pa_c ?g11 ?g12
                case g11 =>
                  refine' pe_callE call_lenH gk_lessened_len T.n_len bt_len ?g13
                  case g13 =>
                    refine' pa_c ?g14 ?g15
                    case g14 => exact pvc 0 rfl lk_lessened_0
                    case g15 => exact pa_nil
                case g12 => exact pa_nil
          case g5 => exact pg_name1 (i := 0) (by show List.Nodup (["j", "pivot_row", "row", "before"] : List Str); decide +kernel) rfl rfl
          case g6 => exact pf_nil
          case g7 =>
            refine' pe_op op_fdivF ?g16 ?g17
            case g16 =>
              refine' pe_op op_sub ?g18 ?g19
              case g18 =>
                refine' pe_op op_mulB ?g20 ?g21
                case g20 =>
                  refine' pe_ix ix_listH ?g22 ?g23 (fun _ _ => rfl)
                  case g22 => exact pvc 1 rfl rfl
                  case g23 => exact pe_int
                case g21 =>
                  refine' pe_ix ix_listH ?g24 ?g25 (fun _ _ => rfl)
                  case g24 => exact pvc 2 rfl rfl
                  case g25 => exact pv1 0 rfl rfl
              case g19 =>
                refine' pe_op op_mulB ?g26 ?g27
                case g26 =>
                  refine' pe_ix ix_listH ?g28 ?g29 (fun _ _ => rfl)
                  case g28 => exact pvc 2 rfl rfl
                  case g29 => exact pe_int
                case g27 =>
                  refine' pe_ix ix_listH ?g30 ?g31 (fun _ _ => rfl)
                  case g30 => exact pvc 1 rfl rfl
                  case g31 => exact pv1 0 rfl rfl
            case g17 => exact pvc 3 rfl rfl
    case R =>
      walk_at "rd"
      refine ⟨_, .inl hx, ?_⟩
      rw [List.length_map]
      refine ⟨by decide, by decide, by (clear hu hy hv hx k bp br hlog hb hr F T; omega), by (clear hu hy hv hx k bp br hlog hb hr F T; omega), ?_⟩
      refine comp_any (n := r.length - 1) (B := H) (Pσ := fun σ => ∃ e, σ = [e, some (.ref y), some (.ref x), some (.int b)]) (ds := (lessP p b r).map Dt.int) (Same.refl _) ⟨_, rfl⟩ (by simp [lessP]) (by (clear hu hy hv hx k bp br hlog hb hr F T; omega)) (fun i H' hi s' => by show i < Int.toNat _; (clear s' hu hy hv hx k bp br hlog hb hr F T; omega)) (fun H' s' => by show Int.toNat _ ≤ _; (clear s' hu hy hv hx k bp br hlog hb hr F T; omega)) ?_ (fun D H' hD s' rep => k _ _ s' rep)
      rintro D j z d σ' H' H'' hD hDo hs' hj hdj ⟨rfl, rfl⟩ ⟨e, rfl⟩ R kR
      have hx' := hs' _ _ hx
      have hy' := hs' _ _ hy
      walk_at "rd"
      simp only [hx', hy', Option.some.injEq, HO.lst.injEq, exists_eq_left']
      have t1 : ((1 : Int) + (j : Nat)).toNat = j + 1 := by (clear hy' hx' kR hs' hDo hdj hj hD hu hy hv hx k bp br hlog hb h100 h1 hl hr F T; omega)
      have g1 := gi_bits bp 0
      have g2 := gi_bits br (j + 1)
      have g3 := gi_bits br 0
      have g4 := gi_bits bp (j + 1)
      have a1 := at_ints (r := r) (i := (1 : Int) + (j : Nat)) (by (clear g4 g3 g2 g1 hy' hx' kR hs' hDo hdj hj hD hu hy hv hx k bp br hlog hb h100 h1 hl hr F T; omega)) (by (clear g4 g3 g2 g1 hy' hx' kR hs' hDo hdj hD hu hy hv hx k bp br hlog hb hr F T; omega))
      have a2 := at_ints (r := p) (i := (1 : Int) + (j : Nat)) (by (clear a1 g4 g3 g2 g1 hy' hx' kR hs' hDo hdj hj hD hu hy hv hx k bp br hlog hb h100 h1 hl hr F T; omega)) (by (clear a1 g4 g3 g2 g1 hy' hx' kR hs' hDo hdj hD hu hy hv hx k bp br hlog hb hr F T; omega))
      rw [t1] at a1 a2
      refine ⟨_, at_ints (by decide) (show (0 : Int).toNat < p.length by (clear a2 a1 g4 g3 g2 g1 t1 hy' hx' kR hs' hDo hdj hj hD hu hy hv hx k bp br hlog hb hr F T; omega)), _, a1, _, rfl, _, rfl, by show Builtin.Int.intBits (gi p 0) + _ ≤ _; (clear a2 a1 g4 g3 t1 hy' hx' kR hs' hDo hdj hj hD hu hy hv hx k bp br hlog hb h100 h1 hl hr F T; omega), _, at_ints (by decide) (show (0 : Int).toNat < r.length by (clear a2 a1 g4 g3 g2 g1 t1 hy' hx' kR hs' hDo hdj hj hD hu hy hv hx k bp br hlog hb hr F T; omega)), _, a2, _, rfl, _, rfl, by show Builtin.Int.intBits (gi r 0) + _ ≤ _; (clear a2 a1 g2 g1 t1 hy' hx' kR hs' hDo hdj hj hD hu hy hv hx k bp br hlog hb h100 h1 hl hr F T; omega), hb, hlog, kR _ _ _ ⟨_, rfl⟩ (Same.refl _) ?_⟩
      have : d = .int ((gi p 0 * gi r (j + 1) - gi r 0 * gi p (j + 1)).fdiv b) := by
        rw [List.getElem?_map, lessP, List.getElem?_map, List.getElem?_range hj] at hdj
        exact (Option.some.inj hdj).symm
      rw [this]
      rfl
theorem rep_mat {H : Hp} {xs : List V} {m : List (List Int)} {i : Nat} {x : V} (h : Reps H xs (m.map dI)) (e : xs[i]? = some x) : ∃ q r, m[i]? = some r ∧ x = .ref q ∧ H q = some (.lst (r.map V.int)) := by
  obtain ⟨d, hd, hr⟩ := h.of_get e
  rw [List.getElem?_map] at hd
  cases z : m[i]? with
  | none => rw [z] at hd; cases hd
  | some r =>
    rw [z] at hd
    cases hd
    obtain ⟨q, e1, e2⟩ := rep_ints hr
    exact ⟨q, r, rfl, e1, e2⟩
theorem Reps_drop {H : Hp} : ∀ (n : Nat) {xs : List V} {ds : List Dt}, Reps H xs ds → Reps H (xs.drop n) (ds.drop n)
  | 0, _, _, h => h
  | n + 1, xs, [], h => by rw [show xs = [] from h]; rfl
  | n + 1, xs, d :: ds, ⟨x, r, e, hx, hr⟩ => by rw [e]; exact Reps_drop n hr
theorem Reps_take {H : Hp} : ∀ (n : Nat) {xs : List V} {ds : List Dt}, Reps H xs ds → Reps H (xs.take n) (ds.take n)
  | 0, _, _, h => rfl
  | n + 1, xs, [], h => by rw [show xs = [] from h]; rfl
  | n + 1, xs, d :: ds, ⟨x, r, e, hx, hr⟩ => by rw [e]; exact ⟨x, _, rfl, hx, Reps_take n hr⟩
theorem first_next {rows : List (List Int)} {i n : Nat} (h : i < n) : firstP rows i (n - i) = if gi (rows.getD i []) 0 ≠ 0 then some i else firstP rows (i + 1) (n - (i + 1)) := by
  obtain ⟨d, hd⟩ : ∃ d, n - i = d + 1 := ⟨n - i - 1, by omega⟩
  rw [hd, firstP, show n - (i + 1) = d by omega]
noncomputable abbrev s_with_pivot : Stmt := PySem.Challenge.pw_rimread_k05_solved.main.body.getD 17 (.Pass ⟨0, 0, 0, 0⟩)
theorem sc_with_pivot : FnScope ["rows", "free", "k", "brought"] ["rows", "free"] (defScope s_with_pivot) := ⟨rfl, rfl, rfl, by decide +kernel, rfl, by decide +kernel, by decide +kernel⟩
theorem lk_with_pivot_0 : (defScope s_with_pivot).names.lookup ("rows" : Str) = some PySem.NameKind.local := by decide +kernel
theorem lk_with_pivot_1 : (defScope s_with_pivot).names.lookup ("free" : Str) = some PySem.NameKind.local := by decide +kernel
theorem lk_with_pivot_2 : (defScope s_with_pivot).names.lookup ("k" : Str) = some PySem.NameKind.local := by decide +kernel
theorem lk_with_pivot_3 : (defScope s_with_pivot).names.lookup ("brought" : Str) = some PySem.NameKind.local := by decide +kernel
theorem gk_with_pivot_range : (defScope s_with_pivot).names.lookup ("range" : Str) = some PySem.NameKind.globalImplicit := by decide +kernel
noncomputable def sp_piv : Sp := fun vs H Q _ => ∃ (v : V) (m : List (List Int)) (free : Nat), vs = [v, .int free] ∧ Rep H v (dM m) ∧ free ≤ m.length ∧ m.length ≤ 20 ∧ (∀ r ∈ m, 1 ≤ r.length ∧ r.length ≤ 100) ∧ ∀ x H', Same H H' → Rep H' x (dM (pivP m free)) → Q x H'
theorem ok_with_pivot (T : Txt K mg) (F : Fn0 K mg "with_pivot" s_with_pivot) : Cal P w K mg base "with_pivot" ["rows", "free"] 1 sp_piv := by
  refine cal_of F sc_with_pivot (fun _ _ _ _ _ _ us hl => match us, hl with | [_, _], _ => rfl) ?len ?body
  case len => rintro vs H Q E ⟨a, b, c, rfl, _⟩; rfl
  case body =>
    intro f cdv A outer s H vs Q E hr h
    obtain ⟨v, m, free, rfl, hv, hf, h20, hw, k⟩ := h
    obtain ⟨p, xs, rfl, hp, hxs⟩ := id hv
    have hl : xs.length = m.length := by rw [hxs.length, List.length_map]
    refine' ⟨_, ?D, ?R⟩
    case D =>
      refine' pss_cons ?g1 ?g2
      case g1 =>
        refine' ps_for PassesOwn.never rfl ?g3 ?g4 ?g5
        case g3 =>
          refine' pi_range1 gk_with_pivot_range T.n_range ?g6
          case g6 =>
            refine' pa_c ?g7 ?g8
            case g7 => exact pv1 1 rfl lk_with_pivot_1
            case g8 => exact pa_nil
        case g4 => exact pg_name1 (i := 2) sc_with_pivot.nd rfl lk_with_pivot_2
        case g5 =>
          refine' pss_one ?g9
          case g9 =>
            refine' ps_if ?g10 ?g11 ?g12
            case g10 =>
              refine' pt_cmpR op_ne ?g13 ?g14 (nomark _)
              case g13 =>
                refine' pe_ix ix_listH ?g15 ?g16 (fun _ _ => rfl)
                case g15 =>
                  refine' pe_ix ix_listH ?g17 ?g18 (fun _ _ => rfl)
                  case g17 => exact pv1 0 rfl lk_with_pivot_0
                  case g18 => exact pv1 2 rfl lk_with_pivot_2
                case g16 => exact pe_int
              case g14 => exact pe_int
            case g11 =>
              refine' pss_cons ?g19 ?g20
              case g19 =>
                refine' ps_if ?g21 ?g22 ?g23
                case g21 =>
                  refine' pt_cmpR op_eq ?g24 ?g25 (nomark _)
                  case g24 => exact pv1 2 rfl lk_with_pivot_2
                  case g25 => exact pe_int
                case g22 =>
                  refine' pss_one ?g26
                  case g26 =>
                    refine' ps_ret ?g27
                    case g27 => exact pv1 0 rfl lk_with_pivot_0
                case g23 => exact pss_nil
              case g20 =>
                refine' pss_cons ?g28 ?g29
                case g28 =>
                  refine' ps_comp (i := 3) (N' := ["entry"]) (ix := [none]) rfl rfl sc_with_pivot.nd rfl lk_with_pivot_3 rfl (scp_of ?g30) ?g31 (fun _ _ _ => ?g32) (fun _ _ _ => ?g33) (fun _ _ _ => ?g34)
                  case g30 => exact (by show scpB (defScope s_with_pivot) ["rows", "free", "k", "brought"] _ _ _ = true; decide +kernel)
                  case g31 =>
                    refine' pi_listK (K := K) rfl ?g35
                    case g35 =>
                      refine' pe_ix ix_listH ?g36 ?g37 (fun _ _ => rfl)
                      case g36 => exact pv1 0 rfl lk_with_pivot_0
                      case g37 => exact pv1 2 rfl lk_with_pivot_2
                  case g32 => exact pg_name1 (i := 0) (by show List.Nodup (["entry"] : List Str); decide +kernel) rfl rfl
                  case g33 => exact pf_nil
                  case g34 =>
                    refine' pe_un un_neg ?g38
                    case g38 => exact pv1 0 rfl rfl
                case g29 =>
                  refine' pss_one ?g39
                  case g39 =>
                    refine' ps_ret ?g40
                    case g40 =>
                      refine' pe_op op_cat ?g41 ?g42
                      case g41 =>
                        refine' pe_op op_cat ?g43 ?g44
                        case g43 =>
                          refine' pe_op op_cat ?g45 ?g46
                          case g45 =>
                            refine' pe_lst ?g47
                            case g47 =>
                              refine' pa_c ?g48 ?g49
                              case g48 => exact pv1 3 rfl lk_with_pivot_3
                              case g49 => exact pa_nil
                          case g46 =>
                            refine' pe_slice sl_listH ?g50 ?g51 ?g52
                            case g50 => exact pv1 0 rfl lk_with_pivot_0
                            case g51 =>
                              refine' po_some ?g53
                              case g53 => exact pe_int
                            case g52 =>
                              refine' po_some ?g54
                              case g54 => exact pv1 2 rfl lk_with_pivot_2
                        case g44 =>
                          refine' pe_lst ?g55
                          case g55 =>
                            refine' pa_c ?g56 ?g57
                            case g56 =>
                              refine' pe_ix ix_listH ?g58 ?g59 (fun _ _ => rfl)
                              case g58 => exact pv1 0 rfl lk_with_pivot_0
                              case g59 => exact pe_int
                            case g57 => exact pa_nil
                      case g42 =>
                        refine' pe_slice sl_listH ?g60 ?g61 ?g62
                        case g60 => exact pv1 0 rfl lk_with_pivot_0
                        case g61 =>
                          refine' po_some ?g63
                          case g63 =>
                            refine' pe_op op_add ?g64 ?g65
                            case g64 => exact pv1 2 rfl lk_with_pivot_2
                            case g65 => exact pe_int
                        case g62 => exact po_none
            case g12 => exact pss_nil
      case g2 =>
        refine' pss_one ?g66
        case g66 =>
          refine' ps_ret ?g67
          case g67 =>
            refine' pe_lst ?g68
            case g68 => exact pa_nil
    case R =>
      walk_at "rd"
      refine ⟨by (clear hl hxs hp hv k hw h20 hf hr F T; omega), by (clear hxs hp hv k hw hr F T; omega), ?_⟩
      rw [show Int.toNat (free : Int) = free by (clear hl hxs hp hv k hw h20 hf hr F T; omega)]
      refine go_range (fun i σ H' => ∃ e z : Option V, σ = [some (.ref p), some (.int free), e, z] ∧ H' = H ∧ firstP m 0 free = firstP m i (free - i)) ⟨_, _, rfl, rfl, rfl⟩ ?_ ?_
      · rintro i σ H' hi ⟨e, z, rfl, rfl, hq⟩
        rw [first_next hi] at hq
        obtain ⟨q, r, hr0, ex, hq0⟩ := rep_mat hxs (i := i) (x := xs[i]'(by (clear hxs hp hv k hq hw h20 hr F T; omega))) (by simp [show i < xs.length by (clear hxs hp hv k hq hw h20 hr F T; omega)])
        have hrm := hw r (List.mem_of_getElem? hr0)
        have mg : m.getD i [] = r := by rw [List.getD_eq_getElem?_getD, hr0]; rfl
        rw [mg] at hq
        walk_at "rd"
        simp only [hp, Option.some.injEq, HO.lst.injEq, exists_eq_left']
        have ai : atI xs ((0 : Int) + (i : Nat)) = some (.ref q) := atI_nn (by (clear mg hrm hq0 ex hr0 hq hxs hp hv k hi hl hw h20 hf hr F T; omega)) (by rw [show ((0 : Int) + (i : Nat)).toNat = i by (clear mg hrm hq0 ex hr0 hq hxs hp hv k hi hl hw h20 hf hr F T; omega), ← ex]; simp [show i < xs.length by (clear mg hrm hq0 ex hr0 hq hxs hp hv k hw h20 hr F T; omega)])
        simp only [ai, Option.some.injEq, exists_eq_left']
        try walk_at "rd"
        refine ⟨_, hq0, _, at_ints (by decide) (show (0 : Int).toNat < r.length by (clear ai mg hq0 ex hr0 hq hxs hp hv k hi hl hw h20 hf hr F T; omega)), rfl, ?_⟩
        refine ite2 (fun h0 => ?_) (fun h0 => ?_)
        · have hne : gi r 0 ≠ 0 := fun z => h0 (by show V.int (gi r 0) = _; rw [z])
          rw [if_pos hne] at hq
          refine ite2 (fun hi0 => ?_) (fun hi0 => ?_)
          · have e0 : i = 0 := by (clear hne h0 ai mg hrm hq0 ex hr0 hq hxs hp hv k hi hl hw h20 hf hr F T; omega)
            subst e0
            refine k _ _ (Same.refl _) ?_
            unfold pivP
            rw [hq]
            exact hv
          · obtain ⟨i, rfl⟩ : ∃ i', i = i' + 1 := ⟨i - 1, by (clear hne h0 ai mg hrm hq0 ex hr0 hq hxs hp hv k hi hl hw h20 hf hr F T; omega)⟩
            refine ⟨⟨_, .inl (.inl hq0)⟩, ?_⟩
            refine comp_any (n := r.length) (B := fun _ => none) (Pσ := fun σ => ∃ e, σ = [e]) (ds := (r.map fun x => -x).map Dt.int) (fun b o e => by cases e) ⟨_, rfl⟩ (by simp) (by (clear hi0 ai mg ex hr0 hq hi hne h0 hq0 hxs hp hv k hl hw h20 hf hr F T; omega)) (fun j H2 hj s2 => ⟨_, .int (r[j]), .inl (.inl (s2 _ _ hq0)), by simp [hj]⟩) (fun H2 s2 => ⟨_, .inl (.inl (s2 _ _ hq0)), by simp⟩) ?_ ?_
            · rintro D j x d σ' H2 H2' hD hDo hs2 hj hdj ⟨rfl, hy⟩ ⟨e2, rfl⟩ R kR
              have hx := hy _ (.inl (.inl (hs2 _ _ hq0)))
              rw [List.getElem?_map, List.getElem?_eq_getElem hj] at hx
              cases hx
              walk_at "rd"
              refine kR _ _ _ ⟨_, rfl⟩ (Same.refl _) ?_
              have : d = .int (-(r[j])) := by
                rw [List.getElem?_map, List.getElem?_map, List.getElem?_eq_getElem hj] at hdj
                exact (Option.some.inj hdj).symm
              rw [this]
              rfl
            · intro D H1 hD s1 rep
              have rep1 : Rep H1 (.ref D) (dI (r.map fun x => -x)) := Rep.mono newH_same _ rep
              refine ⟨by decide, fun p1 n1 => ⟨xs, (s1.trans (Same.new n1)) _ _ hp, fun p2 n2 => ?_⟩⟩
              have c1 : cutV xs (some 1) (some (0 + ((i + 1 : Nat) : Int))) = (xs.drop 1).take i := by
                rw [Int.zero_add]
                exact cut_mid xs 1 (i + 1) (by (clear n2 n1 rep1 rep s1 hD hi0 ai mg ex hr0 hq hi hne h0 hrm hq0 hxs hp hv k hl hw h20 hf hr F T; omega)) (by (clear n2 n1 rep1 rep s1 hD hi0 ai mg ex hr0 hq hne h0 hrm hq0 hxs hp hv k hw h20 hr F T; omega))
              have c2 : cutV xs (some (0 + ((i + 1 : Nat) : Int) + 1)) none = xs.drop (i + 2) := by
                rw [Int.zero_add]
                exact cut_from xs (i + 2) (by (clear c1 n2 n1 rep1 rep s1 hD hi0 ai mg ex hr0 hq hne h0 hrm hq0 hxs hp hv k hw h20 hr F T; omega))
              rw [c1]
              have S2 : Same H1 (upd (upd H1 p1 (HO.lst [V.ref D])) p2 (HO.lst ((xs.drop 1).take i))) := (Same.new n1).trans (Same.new n2)
              have a2 : upd (upd H1 p1 (HO.lst [V.ref D])) p2 (HO.lst ((xs.drop 1).take i)) p1 = some (.lst [.ref D]) := (Same.new n2) _ _ upd_same
              have b2 : upd (upd H1 p1 (HO.lst [V.ref D])) p2 (HO.lst ((xs.drop 1).take i)) p2 = some (.lst ((xs.drop 1).take i)) := upd_same
              generalize upd (upd H1 p1 (HO.lst [V.ref D])) p2 (HO.lst ((xs.drop 1).take i)) = H2 at *
              refine ⟨_, a2, (by rw [List.length_take]; show 1 + min i _ ≤ sizeLine; exact Nat.le_of_lt (small1000 (by (clear b2 a2 S2 c2 c1 n2 n1 rep1 rep s1 hD hi0 ai mg ex hr0 hq hne h0 hrm hq0 hxs hp hv k hw hr F T; omega)))), fun p3 n3 => ?_⟩
              have S3 : Same H1 (upd H2 p3 (HO.lst ([V.ref D] ++ (xs.drop 1).take i))) := S2.trans (Same.new n3)
              have a3 := upd_same (H := H2) (a := p3) (o := HO.lst ([V.ref D] ++ (xs.drop 1).take i))
              generalize upd H2 p3 (HO.lst ([V.ref D] ++ (xs.drop 1).take i)) = H3 at *
              have x0 : atI xs 0 = some (xs[0]'(by (clear a3 S3 n3 b2 a2 S2 c2 c1 n2 n1 rep1 rep s1 hD hi0 ai mg ex hr0 hq hne h0 hrm hq0 hxs hp hv k hw hr F T; omega))) := atI_nn (by decide) (by show xs[0]? = _; simp [show 0 < xs.length by (clear a3 S3 n3 b2 a2 S2 c2 c1 n2 n1 rep1 rep s1 hD hi0 ai mg ex hr0 hq hne h0 hrm hq0 hxs hp hv k hw hr F T; omega)])
              refine ⟨xs, (s1.trans S3) _ _ hp, _, x0, by decide, fun p4 n4 => ?_⟩
              have S4 : Same H1 (upd H3 p4 (HO.lst [xs[0]'(by (clear n4 x0 a3 S3 n3 b2 a2 S2 c2 c1 n2 n1 rep1 rep s1 hD hi0 ai mg ex hr0 hq hne h0 hrm hq0 hxs hp hv k hw hr F T; omega))])) := S3.trans (Same.new n4)
              have a4 := (Same.new n4 (o := HO.lst [xs[0]'(by (clear S4 n4 x0 a3 S3 n3 b2 a2 S2 c2 c1 n2 n1 rep1 rep s1 hD hi0 ai mg ex hr0 hq hne h0 hrm hq0 hxs hp hv k hw hr F T; omega))])) _ _ a3
              generalize upd H3 p4 (HO.lst [xs[0]'(by (clear a4 S4 n4 x0 a3 S3 n3 b2 a2 S2 c2 c1 n2 n1 rep1 rep s1 hD hi0 ai mg ex hr0 hq hne h0 hrm hq0 hxs hp hv k hw hr F T; omega))]) = H4 at *
              have l1 : ([V.ref D] ++ (xs.drop 1).take i).length ≤ 30 := by simp; (clear a4 S4 n4 x0 a3 S3 n3 b2 a2 S2 c2 c1 n2 n1 rep1 rep s1 hD hi0 ai mg ex hr0 hq hne h0 hrm hq0 hxs hp hv k hw hr F T; omega)
              refine ⟨_, a4, Nat.le_of_lt (small1000 (by (clear a4 S4 n4 x0 a3 S3 n3 b2 a2 S2 c2 c1 n2 n1 rep1 rep s1 hD hi0 ai mg ex hr0 hq hi hne h0 hrm hq0 hxs hp hv k hl hw h20 hf hr F T; omega))), fun p5 n5 => ?_⟩
              have S5 : Same H1 (upd H4 p5 (HO.lst ([V.ref D] ++ (xs.drop 1).take i ++ [xs[0]'(by (clear n5 l1 a4 S4 n4 x0 a3 S3 n3 b2 a2 S2 c2 c1 n2 n1 rep1 rep s1 hD hi0 ai mg ex hr0 hq hne h0 hrm hq0 hxs hp hv k hw hr F T; omega))]))) := S4.trans (Same.new n5)
              have a5 := upd_same (H := H4) (a := p5) (o := HO.lst ([V.ref D] ++ (xs.drop 1).take i ++ [xs[0]'(by (clear S5 n5 l1 a4 S4 n4 x0 a3 S3 n3 b2 a2 S2 c2 c1 n2 n1 rep1 rep s1 hD hi0 ai mg ex hr0 hq hne h0 hrm hq0 hxs hp hv k hw hr F T; omega))]))
              generalize upd H4 p5 (HO.lst ([V.ref D] ++ (xs.drop 1).take i ++ [xs[0]'(by (clear a5 S5 n5 l1 a4 S4 n4 x0 a3 S3 n3 b2 a2 S2 c2 c1 n2 n1 rep1 rep s1 hD hi0 ai mg ex hr0 hq hne h0 hrm hq0 hxs hp hv k hw hr F T; omega))])) = H5 at *
              refine ⟨xs, (s1.trans S5) _ _ hp, fun p6 n6 => ?_⟩
              rw [c2]
              have S6 : Same H1 (upd H5 p6 (HO.lst (xs.drop (i + 2)))) := S5.trans (Same.new n6)
              have a6 := (Same.new n6 (o := HO.lst (xs.drop (i + 2)))) _ _ a5
              generalize upd H5 p6 (HO.lst (xs.drop (i + 2))) = H6 at *
              have l2 : ([V.ref D] ++ (xs.drop 1).take i ++ [xs[0]'(by (clear a6 S6 n6 a5 S5 n5 l1 a4 S4 n4 x0 a3 S3 n3 b2 a2 S2 c2 c1 n2 n1 rep1 rep s1 hD hi0 ai mg ex hr0 hq hne h0 hrm hq0 hxs hp hv k hw hr F T; omega))]).length + (xs.drop (i + 2)).length ≤ 100 := by simp; (clear a6 S6 n6 a5 S5 n5 l1 a4 S4 n4 x0 a3 S3 n3 b2 a2 S2 c2 c1 n2 n1 rep1 rep s1 hD hi0 ai mg ex hr0 hq hne h0 hrm hq0 hxs hp hv k hw hr F T; omega)
              refine ⟨_, a6, Nat.le_of_lt (small1000 (by (clear a6 S6 n6 a5 S5 n5 l1 a4 S4 n4 x0 a3 S3 n3 b2 a2 S2 c2 c1 n2 n1 rep1 rep s1 hD hi0 ai mg ex hr0 hq hne h0 hrm hq0 hxs hp hv k hw hr F T; omega))), fun p7 n7 => k _ _ ((s1.trans S6).trans (Same.new n7)) ⟨p7, _, rfl, upd_same, ?_⟩⟩
              have S7 := S6.trans (Same.new n7 (o := HO.lst ([V.ref D] ++ (xs.drop 1).take i ++ [xs[0]'(by (clear n7 l2 a6 S6 n6 a5 S5 n5 l1 a4 S4 n4 x0 a3 S3 n3 b2 a2 S2 c2 c1 n2 n1 rep1 rep s1 hD hi0 ai mg ex hr0 hq hne h0 hrm hq0 hxs hp hv k hw hr F T; omega))] ++ xs.drop (i + 2))))
              have T7 := s1.trans S7
              unfold pivP
              rw [hq]
              dsimp only
              rw [mg, List.map_append, List.map_append, List.map_append, List.map_take, List.map_drop, List.map_drop]
              refine Reps.append (Reps.append (Reps.append ⟨_, _, rfl, Rep.mono S7 _ rep1, rfl⟩ (Reps_take _ (Reps_drop _ (Reps.mono T7 _ hxs)))) ⟨_, _, rfl, ?_, rfl⟩) (Reps_drop _ (Reps.mono T7 _ hxs))
              obtain ⟨q1, r1, hr1, ex1, hq1⟩ := rep_mat hxs (i := 0) (x := xs[0]'(by (clear T7 S7 n7 l2 a6 S6 n6 a5 S5 n5 l1 a4 S4 n4 x0 a3 S3 n3 b2 a2 S2 c2 c1 n2 n1 rep1 rep s1 hD hi0 ai mg ex hr0 hq hne h0 hrm hq0 hxs hp hv k hw hr F T; omega))) (by simp [show 0 < xs.length by (clear T7 S7 n7 l2 a6 S6 n6 a5 S5 n5 l1 a4 S4 n4 x0 a3 S3 n3 b2 a2 S2 c2 c1 n2 n1 rep1 rep s1 hD hi0 ai mg ex hr0 hq hne h0 hrm hq0 hxs hp hv k hw hr F T; omega)])
              have mg1 : m.getD 0 [] = r1 := by rw [List.getD_eq_getElem?_getD, hr1]; rfl
              have R0 := Rep.mono T7 _ (rep_of_ints hq1)
              rw [← ex1, ← mg1] at R0
              exact R0
        · have hz : gi r 0 = 0 := by
            by_cases z : gi r 0 = 0
            · exact z
            · exact absurd (fun w => z (by have := V.int.inj w; exact this)) h0
          rw [if_neg (by simp [hz])] at hq
          try walk_at "rd"
          exact hq
      · rintro σ H' ⟨e, z, rfl, rfl, hq⟩
        walk_at "rd"
        refine ⟨by decide, fun q hq' => k _ _ (Same.new hq') ?_⟩
        rw [Nat.sub_self] at hq
        unfold pivP
        rw [hq]
        exact ⟨q, [], rfl, upd_same, rfl⟩
end Rim5
set_option Elab.async false
set_option linter.all false
set_option maxRecDepth 100000
set_option maxHeartbeats 4000000
namespace Rim5
open PySem PySem.Spec PyProof.Rows L2 RimM RimD
local macro_rules | `(tactic| walk_at "rd") => `(tactic| first | (dsimp only [tSeq, tAsg, gName, tTup, tLst, tCons, tNil, tVar, tC, tCB, tOp, rI, rI0, tTest, tIfS, tNext, tRet, tRetN, tDrop, tB, tAnd, tOr, tNot, tAndV, tOrV, tNotV, rU, tUn, tBM0, tBM, rBits, tCall, L2.start, rIxTH, rIxLH, rLenH, rEqTH, rEq, rNe, scal, tyV, CMul, CMulB, CDivB, CDivF, CPow, List.map_cons, List.map_nil, List.length_cons, List.length_nil, List.replicate, List.cons_append, List.nil_append, List.set_cons_zero, List.set_cons_succ, List.getElem?_cons_zero, List.getElem?_cons_succ, gSub, rSetL, rCat, iRng1, tPar, iList, tComp, pick, tYes, iZip, gTup, gCons, gNil, rSum, rListH, List.map, iRng2, iRngD, tSl, rSlH, tPart, tNoPart, tPar3]; try simp only [tSeq, tAsg, gName, tTup, tLst, tCons, tNil, tVar, tC, tCB, tOp, rI, rI0, tTest, tIfS, tNext, tRet, tRetN, tDrop, tB, tAnd, tOr, tNot, tAndV, tOrV, tNotV, rU, tUn, tBM0, tBM, rBits, tCall, L2.start, rIxTH, rIxLH, rLenH, rEqTH, rEq, rNe, scal, tyV, CMul, CMulB, CDivB, CDivF, CPow, List.map_cons, List.map_nil, List.length_cons, List.length_nil, List.replicate, List.cons_append, List.nil_append, List.append_nil, List.set_cons_zero, List.set_cons_succ, List.getElem?_cons_zero, List.getElem?_cons_succ, Option.some.injEq, List.cons.injEq, V.int.injEq, V.bl.injEq, V.str.injEq, V.ref.injEq, V.ty.injEq, HO.tup.injEq, HO.lst.injEq, exists_eq_left, exists_eq_left', exists_and_left, and_assoc, and_true, true_and, upd_same, atI_0, atI_1, atI_2, Nat.zero_add, Nat.reduceAdd, Nat.reduceSub, decide_eq_true_eq, Bool.not_eq_true', decide_eq_false_iff_not, reduceCtorEq, false_or, or_false, true_or, or_true, plainT_int, plainT_bool, plainT_tuple, plainT_list, plainT_str, Bool.false_eq_true, if_false, if_true, Bool.not_false, Bool.not_true, Bool.not_not, gSub, rSetL, ixN_00, upd_upd, rCat, iRng1, tFor_eq, tPar, iList, tComp, pick, tYes, iZip, gTup, gCons, gNil, rSum, rListH, List.map, Option.bind, iRng2, iRngD, tSl, rSlH, tPart, tNoPart, tPar3]) | simp only [tSeq, tAsg, gName, tTup, tLst, tCons, tNil, tVar, tC, tCB, tOp, rI, rI0, tTest, tIfS, tNext, tRet, tRetN, tDrop, tB, tAnd, tOr, tNot, tAndV, tOrV, tNotV, rU, tUn, tBM0, tBM, rBits, tCall, L2.start, rIxTH, rIxLH, rLenH, rEqTH, rEq, rNe, scal, tyV, CMul, CMulB, CDivB, CDivF, CPow, List.map_cons, List.map_nil, List.length_cons, List.length_nil, List.replicate, List.cons_append, List.nil_append, List.append_nil, List.set_cons_zero, List.set_cons_succ, List.getElem?_cons_zero, List.getElem?_cons_succ, Option.some.injEq, List.cons.injEq, V.int.injEq, V.bl.injEq, V.str.injEq, V.ref.injEq, V.ty.injEq, HO.tup.injEq, HO.lst.injEq, exists_eq_left, exists_eq_left', exists_and_left, and_assoc, and_true, true_and, upd_same, atI_0, atI_1, atI_2, Nat.zero_add, Nat.reduceAdd, Nat.reduceSub, decide_eq_true_eq, Bool.not_eq_true', decide_eq_false_iff_not, reduceCtorEq, false_or, or_false, true_or, or_true, plainT_int, plainT_bool, plainT_tuple, plainT_list, plainT_str, Bool.false_eq_true, if_false, if_true, Bool.not_false, Bool.not_true, Bool.not_not, gSub, rSetL, ixN_00, upd_upd, rCat, iRng1, tFor_eq, tPar, iList, tComp, pick, tYes, iZip, gTup, gCons, gNil, rSum, rListH, List.map, Option.bind, iRng2, iRngD, tSl, rSlH, tPart, tNoPart, tPar3])
variable {P : Program} {w : World} {K : PySem.W.Frag} {mg : Str → Option Value} {base : Heap}
theorem piv_ne {m ord : List (List Int)} {free : Nat} (h : pivP m free = ord) (hf : free ≤ m.length) (hn : ord ≠ []) {w : Nat} (hw : Rect w m) : ord.length = m.length ∧ Rect w ord ∧ gi (ord.getD 0 []) 0 ≠ 0 := by
  unfold pivP at h
  split at h
  · exact absurd h.symm hn
  · rename_i e
    subst h
    obtain ⟨_, _, c⟩ := firstP_some e
    exact ⟨rfl, hw, c⟩
  · rename_i k e
    obtain ⟨_, hk, c⟩ := firstP_some e
    have hk' : k + 1 < m.length := by (clear c h e hw hn; omega)
    subst h
    have at' := piv_at hk'
    have ln := piv_len hk'
    generalize ([(m.getD (k + 1) []).map fun x => -x] ++ (m.drop 1).take k ++ [m.getD 0 []] ++ m.drop (k + 2)) = ord at *
    refine ⟨ln, ⟨fun r hr => ?_⟩, ?_⟩
    · obtain ⟨i, hi, rfl⟩ := List.mem_iff_getElem.mp hr
      have e : ord[i] = ord.getD i [] := by rw [List.getD_eq_getElem?_getD, List.getElem?_eq_getElem hi]; rfl
      rw [e, at']
      split
      · rw [List.length_map]; exact hw.at hk'
      · split
        · exact hw.at (by (clear e hr at' hn hk' c hk hw hf; omega))
        · exact hw.at (by (clear e hr at' hn hk' c hk hw hf; omega))
    · have c' : gi (m.getD (k + 1) []) 0 ≠ 0 := c
      rw [at', if_pos rfl, gi_map (by rfl)]
      (clear ln at' hn hk' c hk e hw hf; omega)
theorem bits_of_le {x : Int} {B : Nat} (h : x.natAbs ≤ 2 ^ B) : Builtin.Int.intBits x ≤ B + 1 := by
  by_cases e : x = 0
  · subst e
    exact Nat.le_trans (show Builtin.Int.intBits 0 ≤ 0 by decide +kernel) (Nat.zero_le _)
  · have h0 : x.natAbs ≠ 0 := by omega
    have : x.natAbs.log2 < B + 1 := (Nat.log2_lt h0).mpr (Nat.lt_of_le_of_lt h (Nat.pow_lt_pow_right (by decide) (by (clear h0 e h; omega))))
    rw [bits_pos e]
    (clear h0 e h; omega)
theorem log_of_le {x : Int} {B : Nat} (h0 : x ≠ 0) (h : x.natAbs ≤ 2 ^ B) (hB : B < 8999) : x.natAbs.log2 < 9000 := by
  have := bits_of_le h
  rw [bits_pos h0] at this
  omega
noncomputable abbrev s_swept : Stmt := PySem.Challenge.pw_rimread_k05_solved.main.body.getD 19 (.Pass ⟨0, 0, 0, 0⟩)
theorem sc_swept : FnScope ["rows", "before", "left", "free", "ordered", "pivot_row"] ["rows"] (defScope s_swept) := ⟨rfl, rfl, rfl, by decide +kernel, rfl, by decide +kernel, by decide +kernel⟩
theorem lk_swept_0 : (defScope s_swept).names.lookup ("rows" : Str) = some PySem.NameKind.local := by decide +kernel
theorem lk_swept_1 : (defScope s_swept).names.lookup ("before" : Str) = some PySem.NameKind.cell := by decide +kernel
theorem lk_swept_2 : (defScope s_swept).names.lookup ("left" : Str) = some PySem.NameKind.local := by decide +kernel
theorem lk_swept_3 : (defScope s_swept).names.lookup ("free" : Str) = some PySem.NameKind.local := by decide +kernel
theorem lk_swept_4 : (defScope s_swept).names.lookup ("ordered" : Str) = some PySem.NameKind.local := by decide +kernel
theorem lk_swept_5 : (defScope s_swept).names.lookup ("pivot_row" : Str) = some PySem.NameKind.cell := by decide +kernel
theorem gk_swept_len : (defScope s_swept).names.lookup ("len" : Str) = some PySem.NameKind.globalImplicit := by decide +kernel
theorem gk_swept_range : (defScope s_swept).names.lookup ("range" : Str) = some PySem.NameKind.globalImplicit := by decide +kernel
theorem gk_swept_with_pivot : (defScope s_swept).names.lookup ("with_pivot" : Str) = some PySem.NameKind.globalImplicit := by decide +kernel
noncomputable def Min (C : Nat) (m : List (List Int)) : Prop := ∀ (t : Nat) (ρ κ : Nat → Nat), t ≤ m.length + 1 → (∀ i, ρ i < m.length) → (D t fun i j => ma m (ρ i) (κ j)).natAbs ≤ 2 ^ C
theorem mem_le {L : List (List Int)} {C n : Nat} (hn : L.length = n) (h : ∀ r j, r < n → (ma L r j).natAbs ≤ 2 ^ C) : ∀ row ∈ L, ∀ x ∈ row, x.natAbs ≤ 2 ^ C := fun row hr x hx => by
  obtain ⟨i, hi, rfl⟩ := List.mem_iff_getElem.mp hr
  obtain ⟨j, hj, rfl⟩ := List.mem_iff_getElem.mp hx
  have := h i j (by (clear hx hj hr h; omega))
  unfold ma gi at this
  rw [List.getD_eq_getElem?_getD, List.getD_eq_getElem?_getD, List.getElem?_eq_getElem hi] at this
  simpa [hj] using this
noncomputable def sp_swp : Sp := fun vs H Q _ => ∃ (v : V) (m : List (List Int)) (w C : Nat), vs = [v] ∧ Rep H v (dM m) ∧ m.length ≤ w ∧ w ≤ 100 ∧ m.length ≤ 16 ∧ Rect w m ∧ Min C m ∧ C ≤ 8000 ∧
  ∀ x H' left, Same H H' → H' x = some (.tup [.int (sweepP m.length 1 m).1, left]) → Rep H' left (dM (sweepP m.length 1 m).2) → ((sweepP m.length 1 m).1 ≠ 0 → (sweepP m.length 1 m).2.length = m.length ∧ Rect (w - m.length) (sweepP m.length 1 m).2 ∧ ∀ row ∈ (sweepP m.length 1 m).2, ∀ z ∈ row, z.natAbs ≤ 2 ^ C) → Q (.ref x) H'
theorem ok_swept (T : Txt K mg) (F : Fn0 K mg "swept" s_swept) (C_with_pivot : Cal P w K mg base "with_pivot" ["rows", "free"] 1 sp_piv) (C_lessened : Cal P w K mg base "lessened" ["row", "pivot_row", "before"] 1 sp_lsn) : Cal P w K mg base "swept" ["rows"] 2 sp_swp := by
  refine cal_of F sc_swept (fun _ _ _ _ _ _ us hl => match us, hl with | [_], _ => rfl) ?len ?body
  case len => rintro vs H Q E ⟨a, b, c, d, rfl, _⟩; rfl
  case body =>
    intro f cdv A outer s H vs Q E hr h
    obtain ⟨v, m, w, C, rfl, hv, hmw, w100, h5, hw, hC, c8, k⟩ := h
    obtain ⟨p, xs, rfl, hp, hxs⟩ := id hv
    have hl : xs.length = m.length := by rw [hxs.length, List.length_map]
    refine' ⟨_, ?D, ?R⟩
    case D =>
      refine' pss_cons ?g1 ?g2
      case g1 =>
        refine' ps_setc (i := 1) sc_swept.nd rfl lk_swept_1 rfl ?g3 rfl
        case g3 => exact pe_int
      case g2 =>
        refine' pss_cons ?g4 ?g5
        case g4 =>
          refine' ps_set1 (i := 2) sc_swept.nd rfl lk_swept_2 ?g6
          case g6 => exact pv1 0 rfl lk_swept_0
        case g5 =>
          refine' pss_cons ?g7 ?g8
          case g7 =>
            refine' ps_for PassesOwn.never rfl ?g9 ?g10 ?g11
            case g9 =>
              refine' pi_rangeD gk_swept_range T.n_range ?g12
              case g12 =>
                refine' pa_c ?g13 ?g14
                case g13 =>
                  refine' pe_callE call_lenH gk_swept_len T.n_len bt_len ?g15
                  case g15 =>
                    refine' pa_c ?g16 ?g17
                    case g16 => exact pv1 0 rfl lk_swept_0
                    case g17 => exact pa_nil
                case g14 =>
                  refine' pa_c ?g18 ?g19
                  case g18 => exact pe_int
                  case g19 =>
                    refine' pa_c ?g20 ?g21
                    case g20 =>
                      refine' pe_un un_neg ?g22
                      case g22 => exact pe_int
                    case g21 => exact pa_nil
            case g10 => exact pg_name1 (i := 3) sc_swept.nd rfl lk_swept_3
            case g11 =>
              refine' pss_cons ?g23 ?g24
              case g23 =>
                refine' ps_set1 (i := 4) sc_swept.nd rfl lk_swept_4 ?g25
                case g25 =>
                  refine' pe_callD C_with_pivot (hr.mono (by decide)) gk_swept_with_pivot ?g26
                  case g26 =>
                    refine' pa_c ?g27 ?g28
                    case g27 => exact pv1 2 rfl lk_swept_2
                    case g28 =>
                      refine' pa_c ?g29 ?g30
                      case g29 => exact pv1 3 rfl lk_swept_3
                      case g30 => exact pa_nil
              case g24 =>
                refine' pss_cons ?g31 ?g32
                case g31 =>
                  refine' ps_if ?g33 ?g34 ?g35
                  case g33 =>
                    refine' pt_cmpR op_eq ?g36 ?g37 (nomark _)
                    case g36 =>
                      refine' pe_callE call_lenH gk_swept_len T.n_len bt_len ?g38
                      case g38 =>
                        refine' pa_c ?g39 ?g40
                        case g39 => exact pv1 4 rfl lk_swept_4
                        case g40 => exact pa_nil
                    case g37 => exact pe_int
                  case g34 =>
                    refine' pss_one ?g41
                    case g41 =>
                      refine' ps_ret ?g42
                      case g42 =>
                        refine' pe_tup ?g43
                        case g43 =>
                          refine' pa_c ?g44 ?g45
                          case g44 => exact pe_int
                          case g45 =>
                            refine' pa_c ?g46 ?g47
                            case g46 =>
                              refine' pe_lst ?g48
                              case g48 => exact pa_nil
                            case g47 => exact pa_nil
                  case g35 => exact pss_nil
                case g32 =>
                  refine' pss_cons ?g49 ?g50
                  case g49 =>
                    refine' ps_setc (i := 5) sc_swept.nd rfl lk_swept_5 rfl ?g51 rfl
                    case g51 =>
                      refine' pe_ix ix_listH ?g52 ?g53 (fun _ _ => rfl)
                      case g52 => exact pv1 4 rfl lk_swept_4
                      case g53 => exact pe_int
                  case g50 =>
                    refine' pss_cons ?g54 ?g55
                    case g54 =>
                      refine' ps_set1 (i := 2) sc_swept.nd rfl lk_swept_2 ?g56
                      case g56 =>
                        refine' pe_op op_cat ?g57 ?g58
                        case g57 =>
                          refine' pe_comp (N' := ["row", "pivot_row", "before"]) (ix := [none, some 5, some 1]) rfl rfl (scp_of ?g59) ?g60 (fun _ _ _ => ?g61) (fun _ _ _ => ?g62) (fun _ _ _ => ?g63)
                          case g59 => exact (by show scpB (defScope s_swept) ["rows", "before", "left", "free", "ordered", "pivot_row"] _ _ _ = true; decide +kernel)
                          case g60 =>
                            refine' pi_listK (K := K) rfl ?g64
                            case g64 =>
                              refine' pe_slice sl_listH ?g65 ?g66 ?g67
                              case g65 => exact pv1 4 rfl lk_swept_4
                              case g66 =>
                                refine' po_some ?g68
                                case g68 => exact pe_int
                              case g67 => exact po_none
                          case g61 => exact pg_name1 (i := 0) (by show List.Nodup (["row", "pivot_row", "before"] : List Str); decide +kernel) rfl rfl
                          case g62 => exact pf_nil
                          case g63 =>
                            refine' pe_callD C_lessened (hr.mono (by decide)) rfl ?g69
                            case g69 =>
                              refine' pa_c ?g70 ?g71
                              case g70 => exact pv1 0 rfl rfl
                              case g71 =>
                                refine' pa_c ?g72 ?g73
                                case g72 => exact pvc 1 rfl rfl
                                case g73 =>
                                  refine' pa_c ?g74 ?g75
                                  case g74 => exact pvc 2 rfl rfl
                                  case g75 => exact pa_nil
                        case g58 =>
                          refine' pe_lst ?g76
                          case g76 =>
                            refine' pa_c ?g77 ?g78
                            case g77 =>
                              refine' pe_slice sl_listH ?g79 ?g80 ?g81
                              case g79 => exact pvc 5 rfl lk_swept_5
                              case g80 =>
                                refine' po_some ?g82
                                case g82 => exact pe_int
                              case g81 => exact po_none
                            case g78 => exact pa_nil
                    case g55 =>
                      refine' pss_one ?g83
                      case g83 =>
                        refine' ps_setc (i := 1) sc_swept.nd rfl lk_swept_1 rfl ?g84 rfl
                        case g84 =>
                          refine' pe_ix ix_listH ?g85 ?g86 (fun _ _ => rfl)
                          case g85 => exact pvc 5 rfl lk_swept_5
                          case g86 => exact pe_int
          case g8 =>
            refine' pss_one ?g87
            case g87 =>
              refine' ps_ret ?g88
              case g88 =>
                refine' pe_tup ?g89
                case g89 =>
                  refine' pa_c ?g90 ?g91
                  case g90 => exact pvc 1 rfl lk_swept_1
                  case g91 =>
                    refine' pa_c ?g92 ?g93
                    case g92 => exact pv1 2 rfl lk_swept_2
                    case g93 => exact pa_nil
    case R =>
      walk_at "rd"
      refine ⟨_, .inl hp, ?_⟩
      try walk_at "rd"
      refine ⟨by decide, by (clear hxs hp hv k c8 hC hw w100 hmw hr C_lessened C_with_pivot F T; omega), by (clear hxs hp hv k c8 hC hw w100 hmw hr C_lessened C_with_pivot F T; omega), ?_⟩
      rw [show ((xs.length : Int) - 0).toNat = m.length by (clear hxs hp hv k c8 hC hw w100 hmw hr C_lessened C_with_pivot F T; omega)]
      have one_le : ∀ e : Nat, (1 : Int).natAbs ≤ 2 ^ e := fun e => Nat.one_le_two_pow
      refine go_down (fun i σ H' => ∃ (b : Int) (L : List (List Int)) (lv : V) (e3 e4 e5 : Option V), σ = [some (.ref p), some (.int b), some lv, e3, e4, e5] ∧ Same H H' ∧ Rep H' lv (dM L) ∧ L.length = m.length ∧ Rect (w - i) L ∧ b ≠ 0 ∧ b.natAbs ≤ 2 ^ C ∧ Dv b m.length (ma L) ∧ Mg b m.length i (ma L) (ma m) m.length ∧ sweepP (m.length - i) b L = sweepP m.length 1 m)
        ⟨1, m, _, _, _, _, rfl, Same.refl _, hv, rfl, hw, by decide, one_le _, Dv_one _ _, Mg_one _ _, rfl⟩ ?_ ?_
      · rintro i σ H' hi ⟨b, L, lv, e3, e4, e5, rfl, s1, repL, hL, rect, b0, bB, hdv, hmg, hsw⟩
        obtain ⟨fr, hfr⟩ : ∃ fr, m.length - i = fr + 1 := ⟨m.length - i - 1, by (clear hsw hmg hdv bB b0 rect repL s1 one_le hxs hp hv k c8 hC hw h5 w100 hmw hr C_lessened C_with_pivot F T; omega)⟩
        rw [hfr] at hsw
        rw [show (xs.length : Int) - (i : Nat) = ((fr + 1 : Nat) : Int) by (clear hsw hmg hdv bB b0 rect repL s1 one_le hxs hp hv k c8 hC hw h5 w100 hmw hr C_lessened C_with_pivot F T; omega)]
        walk_at "rd"
        refine ⟨lv, L, fr + 1, rfl, repL, by (clear hsw hmg hdv bB b0 rect repL s1 one_le hxs hp hv k c8 hC hw h5 w100 hmw hr C_lessened C_with_pivot F T; omega), by (clear hfr hsw hmg hdv bB b0 rect repL s1 hi one_le hxs hp hv k c8 hC hw w100 hmw hr C_lessened C_with_pivot F T; omega), fun r hr => by rw [rect.w r hr]; (clear hr hfr hsw hmg hdv bB b0 rect repL s1 one_le hxs hp hv k c8 hC hw h5 C_lessened C_with_pivot F T; omega), fun x H1 s2 rep1 => ?_⟩
        obtain ⟨po, ys, rfl, hpo, hys⟩ := id rep1
        have hly : ys.length = (pivP L (fr + 1)).length := by rw [hys.length, List.length_map]
        walk_at "rd"
        refine ⟨_, .inl hpo, ?_⟩
        refine ite2 (fun h0 => ?_) (fun h0 => ?_)
        · have e0 : pivP L (fr + 1) = [] := List.length_eq_zero_iff.mp (by (clear hys hpo rep1 s2 hfr hsw hmg hdv bB b0 rect hL repL s1 hi one_le hl hxs hp hv k c8 hC hw h5 w100 hmw hr C_lessened C_with_pivot F T; omega))
          refine ⟨by decide, fun l1 n1 => ⟨by decide, fun t1 n2 => ?_⟩⟩
          rw [sweepP, e0] at hsw
          dsimp only at hsw
          refine k _ _ (.ref l1) (((s1.trans s2).trans (Same.new n1)).trans (Same.new n2)) ?_ ?_ fun hne => ?_
          · rw [upd_same, ← hsw]
          · rw [← hsw]
            exact ⟨l1, [], rfl, (Same.new n2) _ _ upd_same, rfl⟩
          · rw [← hsw] at hne
            exact absurd rfl hne
        · have ne : pivP L (fr + 1) ≠ [] := fun z => h0 (by rw [hly, z]; rfl)
          obtain ⟨ol, orect, o0⟩ := piv_ne rfl (by (clear ne hys hpo rep1 s2 hsw hmg hdv bB b0 rect repL s1 one_le hxs hp hv k c8 hC hw h5 w100 hmw hr C_lessened C_with_pivot F T; omega)) ne rect
          obtain ⟨piv, others, eo⟩ : ∃ piv others, pivP L (fr + 1) = piv :: others := by
            cases z : pivP L (fr + 1) with
            | nil => exact absurd z ne
            | cons a l => exact ⟨a, l, rfl⟩
          rw [← hL] at hdv hmg
          have omg := piv_mg (free := fr + 1) (by (clear eo orect ne hys hpo rep1 s2 hsw hmg hdv bB b0 rect repL s1 one_le hxs hp hv k c8 hC hw w100 hmw hr C_lessened C_with_pivot F T; omega)) hmg eo (by simp)
          have obd : ∀ row ∈ piv :: others, ∀ x ∈ row, x.natAbs ≤ 2 ^ C := mem_le (n := L.length) (by rw [eo] at ol; exact ol) fun r j hr => Mg_le omg (fun t ρ κ ht hρ => hC t ρ κ (by (clear hρ hr omg eo o0 orect ne h0 hly hys hpo rep1 s2 hfr hsw hmg hdv bB b0 rect repL s1 one_le hxs hp hv k c8 hC hw h5 w100 hmw C_lessened C_with_pivot F T; omega)) fun i => by have := hρ i; (clear hρ ht hr omg eo o0 orect ne h0 hly hys hpo rep1 s2 hfr hsw hmg hdv bB b0 rect repL s1 hi one_le hxs hp hv k c8 hC hw h5 w100 hmw C_lessened C_with_pivot F T; omega)) hr
          rw [sweepP, eo] at hsw
          rw [eo] at hys ol orect o0 hly
          have pn : gi piv 0 ≠ 0 := o0
          have ol' : others.length + 1 = L.length := ol
          obtain ⟨ndv, nmg⟩ := sweep_nextA (w := w - i) (by (clear obd omg eo hsw hys orect ne hpo rep1 s2 hmg hdv bB b0 rect repL s1 one_le hxs hp hv k c8 hC hw w100 hmw hr C_lessened C_with_pivot F T; omega)) (by (clear pn obd omg eo hsw hys orect o0 hly ne h0 hpo rep1 s2 hfr hmg hdv bB b0 rect repL s1 one_le hxs hp hv k c8 hC hw h5 w100 hr C_lessened C_with_pivot F T; omega)) rect b0 hdv hmg eo pn orect ol'
          rw [hL] at ndv nmg
          dsimp only at hsw
          obtain ⟨y0, ys', rfl, rp0, rps⟩ := id hys
          obtain ⟨q0, rfl, hq0⟩ := rep_ints rp0
          have pl : piv.length = w - i := orect.w _ List.mem_cons_self
          have pbd : ∀ x ∈ piv, x.natAbs ≤ 2 ^ C := obd _ List.mem_cons_self
          have lys : ys'.length = others.length := by rw [rps.length, List.length_map]
          simp only [hpo, Option.some.injEq, HO.lst.injEq, exists_eq_left']
          walk_at "rd"
          intro ps nps
          have c1 : cutV (V.ref q0 :: ys') (some 1) none = ys' := cut_from (V.ref q0 :: ys') 1 (by simp)
          rw [c1]
          have S12 : Same H1 (upd H1 ps (HO.lst ys')) := Same.new nps
          have hps := upd_same (H := H1) (a := ps) (o := HO.lst ys')
          generalize upd H1 ps (HO.lst ys') = H2 at *
          refine ⟨⟨_, .inl (.inl hps)⟩, ?_⟩
          refine comp_any (n := ys'.length) (B := H2) (Pσ := fun σ => ∃ e, σ = [e, some (.ref q0), some (.int b)]) (ds := (others.map (lessP piv b)).map dI) (Same.refl _) ⟨_, rfl⟩ (by simp [lys]) (by (clear hps S12 c1 nps pbd pl rp0 hys h0 hpo hq0 rps nmg ndv pn obd omg eo hsw orect o0 ne rep1 s2 hfr hmg hdv bB b0 rect repL s1 hi one_le hxs hp hv k c8 hC hw w100 hmw hr C_lessened C_with_pivot F T; omega)) (fun j H' hj s' => ⟨ys', ys'[j], .inl (.inl (s' _ _ hps)), by simp [hj]⟩) (fun H' s' => ⟨ys', .inl (.inl (s' _ _ hps)), Nat.le_refl _⟩) ?_ ?_
          · rintro D j x d σ' H' H'' hD hDo hs' hj hdj ⟨rfl, hy⟩ ⟨e, rfl⟩ R kR
            have hx := hy ys' (.inl (.inl (hs' _ _ hps)))
            obtain ⟨q, r, hr1, rfl, hq⟩ := rep_mat rps hx
            have rm : r ∈ piv :: others := List.mem_cons_of_mem _ (List.mem_of_getElem? hr1)
            have rl : r.length = w - i := orect.w r rm
            walk_at "rd"
            refine ⟨_, _, r, piv, b, rfl, rep_of_ints (hs' _ _ (S12 _ _ hq)), rep_of_ints (hs' _ _ (S12 _ _ hq0)), by (clear rm hx hy hq hr1 kR hs' hDo hdj hj hD hps S12 c1 nps lys pbd rp0 hys hly h0 hpo hq0 rps nmg ndv ol' pn obd omg eo hsw ol orect o0 ne rep1 s2 hfr hmg hdv bB b0 rect hL repL s1 hi one_le hl hxs hp hv k c8 hC hw h5 w100 hmw hr C_lessened C_with_pivot F T; omega), by (clear rm hx hy hq hr1 kR hs' hDo hdj hj hD hps S12 c1 nps pbd rp0 hys h0 hpo hq0 rps nmg ndv pn obd omg eo hsw orect o0 ne rep1 s2 hfr hmg hdv bB b0 rect repL s1 one_le hxs hp hv k c8 hC hw h5 w100 hr C_lessened C_with_pivot F T; omega), by (clear rm hx hy hq hr1 kR hs' hDo hdj hj hD hps S12 c1 nps lys pbd pl rp0 hys hly h0 hpo hq0 rps nmg ndv ol' pn obd omg eo hsw ol orect o0 ne rep1 s2 hfr hmg hdv bB b0 rect hL repL s1 hi one_le hl hxs hp hv k c8 hC hw h5 hmw hr C_lessened C_with_pivot F T; omega), b0, log_of_le b0 bB (by (clear rl rm hx hy hq hr1 kR hs' hDo hdj hj hD hps S12 c1 nps lys pbd pl rp0 hys hly h0 hpo hq0 rps nmg ndv ol' pn obd omg eo hsw ol orect o0 ne rep1 s2 hfr hmg hdv bB b0 rect hL repL s1 hi one_le hl hxs hp hv k hC hw h5 w100 hmw hr C_lessened C_with_pivot F T; omega)), fun x hx => ?_, fun x hx => ?_, fun x H3 s3 rep => kR _ _ _ ⟨_, rfl⟩ s3 ?_⟩
            · have := bits_of_le (obd r rm x hx); (clear hx rl rm hy hq hr1 kR hs' hDo hdj hj hD hps S12 c1 nps lys pbd pl rp0 hys hly h0 hpo hq0 rps nmg ndv ol' pn obd omg eo hsw ol orect o0 ne rep1 s2 hfr hmg hdv bB b0 rect hL repL s1 hi one_le hl hxs hp hv k hC hw h5 w100 hmw hr C_lessened C_with_pivot F T; omega)
            · have := bits_of_le (pbd x hx); (clear hx rl rm hy hq hr1 kR hs' hDo hdj hj hD hps S12 c1 nps lys pbd pl rp0 hys hly h0 hpo hq0 rps nmg ndv ol' pn obd omg eo hsw ol orect o0 ne rep1 s2 hfr hmg hdv bB b0 rect hL repL s1 hi one_le hl hxs hp hv k hC hw h5 w100 hmw hr C_lessened C_with_pivot F T; omega)
            · have : d = dI (lessP piv b r) := by
                rw [List.getElem?_map, List.getElem?_map, hr1] at hdj
                exact (Option.some.inj hdj).symm
              rw [this]
              exact Rep.mono (new_cut hs' hDo) _ rep
          · intro D H3 hD s3 rep
            obtain ⟨_, zs, e, hz, hzs⟩ := Rep.mono newH_same _ rep
            cases e
            have hlz : zs.length = others.length := by rw [hzs.length, List.length_map, List.length_map]
            have hq3 := s3 _ _ (S12 _ _ hq0)
            have c2 : cutV (piv.map V.int) (some 1) none = (piv.drop 1).map V.int := by
              rw [List.map_drop]
              exact cut_from (piv.map V.int) 1 (by simp; (clear hq3 hz hzs rep s3 hD hps S12 c1 nps pbd rp0 hys h0 hpo hq0 rps nmg ndv pn obd omg eo hsw orect o0 ne rep1 s2 hfr hmg hdv bB b0 rect repL s1 one_le hxs hp hv k c8 hC hw h5 w100 hr C_lessened C_with_pivot F T; omega))
            refine ⟨_, hq3, fun p4 n4 => ⟨by decide, fun p5 n5 => ?_⟩⟩
            rw [c2] at n5 ⊢
            have a4 := (Same.new n5 (o := HO.lst [V.ref p4])) _ _ upd_same
            have S5 : Same H3 (upd (upd H3 p4 (HO.lst ((piv.drop 1).map V.int))) p5 (HO.lst [V.ref p4])) := (Same.new n4).trans (Same.new n5)
            generalize upd (upd H3 p4 (HO.lst ((piv.drop 1).map V.int))) p5 (HO.lst [V.ref p4]) = H5 at *
            refine ⟨D, rfl, zs, S5 _ _ hz, Nat.le_of_lt (small1000 (by (clear S5 a4 n5 n4 c2 hq3 hz hzs rep s3 hD hps S12 c1 nps pbd pl rp0 hys h0 hpo hq0 rps nmg ndv pn obd omg eo hsw orect o0 ne rep1 s2 hfr hmg hdv bB b0 rect repL s1 hi one_le hxs hp hv k c8 hC hw w100 hmw hr C_lessened C_with_pivot F T; omega))), fun p6 n6 => ?_⟩
            have S6 := S5.trans (Same.new n6 (o := HO.lst (zs ++ [V.ref p4])))
            refine ⟨_, S6 _ _ hq3, _, at_ints (by decide) (show (0 : Int).toNat < piv.length by (clear S6 n6 S5 a4 n5 n4 c2 hq3 hz hzs rep s3 hD hps S12 c1 nps pbd rp0 hys h0 hpo hq0 rps nmg ndv pn obd omg eo hsw orect o0 ne rep1 s2 hfr hmg hdv bB b0 rect repL s1 one_le hxs hp hv k c8 hC hw h5 w100 hr C_lessened C_with_pivot F T; omega)), _, rfl, ((s1.trans s2).trans S12).trans (s3.trans S6), others.map (lessP piv b) ++ [piv.drop 1], ⟨p6, _, rfl, upd_same, ?_⟩, by simp; (clear S6 n6 S5 a4 n5 n4 c2 hq3 hlz hz hzs rep s3 hD hps S12 c1 nps lys pbd pl rp0 hys hly h0 hpo hq0 rps nmg ndv pn obd omg eo hsw orect o0 ne rep1 s2 hfr hmg hdv bB b0 rect repL s1 hi one_le hxs hp hv k c8 hC hw h5 w100 hmw hr C_lessened C_with_pivot F T; omega), ⟨fun r hr => ?_⟩, pn, ?_, ndv, nmg, ?_⟩
            · rw [List.map_append]
              exact Reps.append (Reps.mono S6 _ hzs) ⟨_, _, rfl, rep_of_ints ((Same.new n6) _ _ a4), rfl⟩
            · rcases List.mem_append.mp hr with hr | hr
              · obtain ⟨r', hr', rfl⟩ := List.mem_map.mp hr
                have := orect.w r' (List.mem_cons_of_mem _ hr')
                unfold lessP
                simp
                (clear hr hr' S6 n6 S5 a4 n5 n4 c2 hq3 hz hzs rep s3 hD hps S12 c1 nps pbd rp0 hys h0 hpo hq0 rps nmg ndv pn obd omg eo hsw orect o0 ne rep1 s2 hfr hmg hdv bB b0 rect repL s1 one_le hxs hp hv k c8 hC hw h5 w100 C_lessened C_with_pivot F T; omega)
              · rw [List.mem_singleton.mp hr]
                simp
                (clear hr S6 n6 S5 a4 n5 n4 c2 hq3 hz hzs rep s3 hD hps S12 c1 nps pbd rp0 hys h0 hpo hq0 rps nmg ndv pn obd omg eo hsw orect o0 ne rep1 s2 hfr hmg hdv bB b0 rect repL s1 one_le hxs hp hv k c8 hC hw h5 w100 C_lessened C_with_pivot F T; omega)
            · exact gi_le pbd 0
            · rw [show m.length - (i + 1) = fr by (clear S6 n6 S5 a4 n5 n4 c2 hq3 hz hzs rep s3 hD hps S12 c1 nps pbd pl rp0 hys hpo hq0 rps nmg ndv obd omg eo hsw orect ne rep1 s2 hmg hdv bB b0 rect repL s1 one_le hxs hp hv k c8 hC hw w100 hr C_lessened C_with_pivot F T; omega)]
              exact hsw
      · rintro σ H' ⟨b, L, lv, e3, e4, e5, rfl, s1, repL, hL, rect, b0, bB, hdv, hmg, hsw⟩
        rw [Nat.sub_self, sweepP] at hsw
        walk_at "rd"
        refine ⟨by decide, fun t nt => k _ _ lv (s1.trans (Same.new nt)) ?_ ?_ fun hne => ?_⟩
        · rw [upd_same, ← hsw]
        · rw [← hsw]
          exact Rep.mono (Same.new nt) _ repL
        · rw [← hsw]
          exact ⟨hL, rect, mem_le (n := m.length) hL fun r j hr => Mg_le hmg (fun t ρ κ ht hρ => hC t ρ κ ht hρ) hr⟩
end Rim5
set_option Elab.async false
set_option linter.all false
set_option maxRecDepth 100000
set_option maxHeartbeats 4000000
namespace Rim5
open PySem PySem.Spec PyProof.Rows L2 RimM RimD
local macro_rules | `(tactic| walk_at "rd") => `(tactic| first | (dsimp only [tSeq, tAsg, gName, tTup, tLst, tCons, tNil, tVar, tC, tCB, tOp, rI, rI0, tTest, tIfS, tNext, tRet, tRetN, tDrop, tB, tAnd, tOr, tNot, tAndV, tOrV, tNotV, rU, tUn, tBM0, tBM, rBits, tCall, L2.start, rIxTH, rIxLH, rLenH, rEqTH, rEq, rNe, scal, tyV, CMul, CMulB, CDivB, CDivF, CPow, List.map_cons, List.map_nil, List.length_cons, List.length_nil, List.replicate, List.cons_append, List.nil_append, List.set_cons_zero, List.set_cons_succ, List.getElem?_cons_zero, List.getElem?_cons_succ, gSub, rSetL, rCat, iRng1, tPar, iList, tComp, pick, tYes, iZip, gTup, gCons, gNil, rSum, rListH, List.map, iRng2, iRngD, tSl, rSlH, tPart, tNoPart, tPar3]; try simp only [tSeq, tAsg, gName, tTup, tLst, tCons, tNil, tVar, tC, tCB, tOp, rI, rI0, tTest, tIfS, tNext, tRet, tRetN, tDrop, tB, tAnd, tOr, tNot, tAndV, tOrV, tNotV, rU, tUn, tBM0, tBM, rBits, tCall, L2.start, rIxTH, rIxLH, rLenH, rEqTH, rEq, rNe, scal, tyV, CMul, CMulB, CDivB, CDivF, CPow, List.map_cons, List.map_nil, List.length_cons, List.length_nil, List.replicate, List.cons_append, List.nil_append, List.append_nil, List.set_cons_zero, List.set_cons_succ, List.getElem?_cons_zero, List.getElem?_cons_succ, Option.some.injEq, List.cons.injEq, V.int.injEq, V.bl.injEq, V.str.injEq, V.ref.injEq, V.ty.injEq, HO.tup.injEq, HO.lst.injEq, exists_eq_left, exists_eq_left', exists_and_left, and_assoc, and_true, true_and, upd_same, atI_0, atI_1, atI_2, Nat.zero_add, Nat.reduceAdd, Nat.reduceSub, decide_eq_true_eq, Bool.not_eq_true', decide_eq_false_iff_not, reduceCtorEq, false_or, or_false, true_or, or_true, plainT_int, plainT_bool, plainT_tuple, plainT_list, plainT_str, Bool.false_eq_true, if_false, if_true, Bool.not_false, Bool.not_true, Bool.not_not, gSub, rSetL, ixN_00, upd_upd, rCat, iRng1, tFor_eq, tPar, iList, tComp, pick, tYes, iZip, gTup, gCons, gNil, rSum, rListH, List.map, Option.bind, iRng2, iRngD, tSl, rSlH, tPart, tNoPart, tPar3]) | simp only [tSeq, tAsg, gName, tTup, tLst, tCons, tNil, tVar, tC, tCB, tOp, rI, rI0, tTest, tIfS, tNext, tRet, tRetN, tDrop, tB, tAnd, tOr, tNot, tAndV, tOrV, tNotV, rU, tUn, tBM0, tBM, rBits, tCall, L2.start, rIxTH, rIxLH, rLenH, rEqTH, rEq, rNe, scal, tyV, CMul, CMulB, CDivB, CDivF, CPow, List.map_cons, List.map_nil, List.length_cons, List.length_nil, List.replicate, List.cons_append, List.nil_append, List.append_nil, List.set_cons_zero, List.set_cons_succ, List.getElem?_cons_zero, List.getElem?_cons_succ, Option.some.injEq, List.cons.injEq, V.int.injEq, V.bl.injEq, V.str.injEq, V.ref.injEq, V.ty.injEq, HO.tup.injEq, HO.lst.injEq, exists_eq_left, exists_eq_left', exists_and_left, and_assoc, and_true, true_and, upd_same, atI_0, atI_1, atI_2, Nat.zero_add, Nat.reduceAdd, Nat.reduceSub, decide_eq_true_eq, Bool.not_eq_true', decide_eq_false_iff_not, reduceCtorEq, false_or, or_false, true_or, or_true, plainT_int, plainT_bool, plainT_tuple, plainT_list, plainT_str, Bool.false_eq_true, if_false, if_true, Bool.not_false, Bool.not_true, Bool.not_not, gSub, rSetL, ixN_00, upd_upd, rCat, iRng1, tFor_eq, tPar, iList, tComp, pick, tYes, iZip, gTup, gCons, gNil, rSum, rListH, List.map, Option.bind, iRng2, iRngD, tSl, rSlH, tPart, tNoPart, tPar3])
variable {P : Program} {w : World} {K : PySem.W.Frag} {mg : Str → Option Value} {base : Heap}
noncomputable def cols (g : List (List (Int × Int))) : List (List (Int × Int)) := match g with
  | [] => []
  | r :: _ => (List.range r.length).map fun j => g.map fun row => row.getD j (0, 1)
noncomputable abbrev s_columns_of : Stmt := PySem.Challenge.pw_rimread_k05_solved.main.body.getD 15 (.Pass ⟨0, 0, 0, 0⟩)
theorem sc_columns_of : FnScope ["grid"] ["grid"] (defScope s_columns_of) := ⟨rfl, rfl, rfl, by decide +kernel, rfl, by decide +kernel, by decide +kernel⟩
theorem lk_columns_of_0 : (defScope s_columns_of).names.lookup ("grid" : Str) = some PySem.NameKind.cell := by decide +kernel
theorem gk_columns_of_len : (defScope s_columns_of).names.lookup ("len" : Str) = some PySem.NameKind.globalImplicit := by decide +kernel
theorem gk_columns_of_range : (defScope s_columns_of).names.lookup ("range" : Str) = some PySem.NameKind.globalImplicit := by decide +kernel
noncomputable def sp_cols : Sp := fun vs H Q _ => ∃ v g c, vs = [v] ∧ Rep H v (.lst (g.map dRow)) ∧ (∀ r ∈ g, r.length = c) ∧ c ≤ 16 ∧ g.length ≤ 16 ∧ ∀ x H', Same H H' → Rep H' x (.lst ((cols g).map dRow)) → Q x H'
theorem rep_rows {H : Hp} {xs : List V} {g : List (List (Int × Int))} {i : Nat} {x : V} (h : Reps H xs (g.map dRow)) (e : xs[i]? = some x) : ∃ q ys r, g[i]? = some r ∧ x = .ref q ∧ H q = some (.lst ys) ∧ Reps H ys (r.map dF) := by
  obtain ⟨d, hd, hr⟩ := h.of_get e
  rw [List.getElem?_map] at hd
  cases z : g[i]? with
  | none => rw [z] at hd; cases hd
  | some r =>
    rw [z] at hd
    cases hd
    obtain ⟨q, ys, e1, e2, e3⟩ := hr
    exact ⟨q, ys, r, rfl, e1, e2, e3⟩
theorem ok_columns_of (T : Txt K mg) (F : Fn0 K mg "columns_of" s_columns_of) : Cal P w K mg base "columns_of" ["grid"] 1 sp_cols := by
  refine cal_of F sc_columns_of (fun _ _ _ _ _ _ us hl => match us, hl with | [_], _ => rfl) ?len ?body
  case len => rintro vs H Q E ⟨a, b, c, rfl, _⟩; rfl
  case body =>
    intro f cdv A outer s H vs Q E hr h
    obtain ⟨v, g, c, rfl, hv, hc, c8, g8, k⟩ := h
    obtain ⟨p, xs, rfl, hp, hxs⟩ := id hv
    have hl : xs.length = g.length := by rw [hxs.length, List.length_map]
    refine' ⟨_, ?D, ?R⟩
    case D =>
      refine' pss_cons ?g1 ?g2
      case g1 =>
        refine' ps_if ?g3 ?g4 ?g5
        case g3 =>
          refine' pt_cmpR op_eq ?g6 ?g7 (nomark _)
          case g6 =>
            refine' pe_callE call_lenH gk_columns_of_len T.n_len bt_len ?g8
            case g8 =>
              refine' pa_c ?g9 ?g10
              case g9 => exact pvc 0 rfl lk_columns_of_0
              case g10 => exact pa_nil
          case g7 => exact pe_int
        case g4 =>
          refine' pss_one ?g11
          case g11 =>
            refine' ps_ret ?g12
            case g12 =>
              refine' pe_lst ?g13
              case g13 => exact pa_nil
        case g5 => exact pss_nil
      case g2 =>
        refine' pss_one ?g14
        case g14 =>
          refine' ps_ret ?g15
          case g15 =>
            refine' pe_comp (N' := ["j", "grid"]) (ix := [none, some 0]) rfl rfl (scp_of ?g16) ?g17 (fun _ _ _ => ?g18) (fun _ _ _ => ?g19) (fun _ _ _ => ?g20)
            case g16 => exact (by show scpB (defScope s_columns_of) ["grid"] _ _ _ = true; decide +kernel)
            case g17 =>
              refine' pi_range1 gk_columns_of_range T.n_range ?g21
              case g21 =>
                refine' pa_c ?g22 ?g23
                case g22 =>
                  refine' pe_callE call_lenH gk_columns_of_len T.n_len bt_len ?g24
                  case g24 =>
                    refine' pa_c ?g25 ?g26
                    case g25 =>
                      refine' pe_ix ix_listH ?g27 ?g28 (fun _ _ => rfl)
                      case g27 => exact pvc 0 rfl lk_columns_of_0
                      case g28 => exact pe_int
                    case g26 => exact pa_nil
                case g23 => exact pa_nil
            case g18 => exact pg_namec (i := 0) (by show List.Nodup (["j", "grid"] : List Str); decide +kernel) rfl rfl rfl
            case g19 => exact pf_nil
            case g20 =>
              refine' pe_comp (N' := ["row", "j"]) (ix := [none, some 0]) rfl rfl (scp_of ?g29) ?g30 (fun _ _ _ => ?g31) (fun _ _ _ => ?g32) (fun _ _ _ => ?g33)
              case g29 => exact (by show scpB (relS _ (defScope s_columns_of)) ["j", "grid"] _ _ _ = true; decide +kernel)
              case g30 =>
                refine' pi_listK (K := K) rfl ?g34
                case g34 => exact pvc 1 rfl rfl
              case g31 => exact pg_name1 (i := 0) (by show List.Nodup (["row", "j"] : List Str); decide +kernel) rfl rfl
              case g32 => exact pf_nil
              case g33 =>
                refine' pe_ix ix_listH ?g35 ?g36 (fun _ _ => rfl)
                case g35 => exact pv1 0 rfl rfl
                case g36 => exact pvc 1 rfl rfl
    case R =>
      walk_at "rd"
      refine ⟨xs, .inl hp, ?_⟩
      refine ite2 (fun h0 => ⟨by decide, fun q hq => k _ _ (Same.new hq) ?_⟩) (fun h0 => ?_)
      · have : g = [] := List.length_eq_zero_iff.mp (by (clear hq hxs hp hv k g8 c8 hc hr F T; omega))
        subst this
        exact ⟨q, [], rfl, upd_same, rfl⟩
      · simp only [hp, Option.some.injEq, HO.lst.injEq, exists_eq_left']
        have hpos : 0 < xs.length := by (clear hxs hp hv k c8 hc hr F T; omega)
        obtain ⟨q0, ys0, r0, hr0, e0, hq0, hys0⟩ := rep_rows hxs (i := 0) (x := xs[0]) (by simp [hpos])
        have hl0 : ys0.length = c := by rw [hys0.length, List.length_map]; exact hc r0 (List.mem_of_getElem? hr0)
        have e1 : cols g = (List.range c).map fun j => g.map fun row => row.getD j (0, 1) := by
          cases g with
          | nil => cases hr0
          | cons r g' =>
            show (List.range r.length).map _ = _
            rw [hc r List.mem_cons_self]
        refine ⟨_, atI_nn (by decide) (show xs[(0 : Int).toNat]? = some xs[0] by simp [hpos]), q0, e0, ys0, .inl hq0, by (clear e1 hys0 hq0 e0 hr0 hpos h0 hl hxs hp hv k g8 hc hr F T; omega), by (clear e1 hys0 hq0 e0 hr0 hpos h0 hl hxs hp hv k g8 hc hr F T; omega), ?_⟩
        rw [hl0]
        refine comp_any (n := c) (B := fun _ => none) (Pσ := fun σ => ∃ e, σ = [e, some (.ref p)]) (ds := (cols g).map dRow) (fun b o e => by cases e) ⟨_, rfl⟩ (by simp [e1]) (by (clear e1 hys0 hq0 e0 hr0 hpos h0 hl hxs hp hv k g8 hc hr F T; omega)) (fun i H' hi s' => by show i < Int.toNat (c : Int); (clear s' e1 hys0 hq0 e0 hr0 hpos h0 hl hxs hp hv k g8 hc hr F T; omega)) (fun H' s' => by show Int.toNat (c : Int) ≤ c; (clear s' e1 hys0 hq0 e0 hr0 hpos h0 hl hxs hp hv k g8 hc hr F T; omega)) ?_ (fun D H' hD s' rep => k _ _ s' rep)
        rintro D j x d σ' H' H'' hD ⟨od, hDo⟩ hs' hj hdj ⟨rfl, rfl⟩ ⟨e, rfl⟩ R kR
        have hp' := hs' _ _ hp
        have hd : d = dRow (g.map fun row => row.getD j (0, 1)) := by
          rw [e1, List.getElem?_map, List.getElem?_map, List.getElem?_range hj] at hdj
          exact (Option.some.inj hdj).symm
        walk_at "rd"
        refine ⟨⟨xs, .inl (.inl hp')⟩, ?_⟩
        refine comp_any (n := xs.length) (B := onlyH D od) (Pσ := fun σ => ∃ e, σ = [e, some (.int (0 + j))]) (ds := (g.map fun row => row.getD j (0, 1)).map dF) (only_same hDo) ⟨_, rfl⟩ (by simp [hl]) (by (clear hd hp' kR hs' hDo hdj hj hD e1 hl0 hys0 hq0 e0 hr0 h0 hxs hp hv k c8 hc hr F T; omega)) (fun i H2 hi s2 => ⟨xs, xs[i], .inl (.inl (s2 _ _ hp')), by simp [hi]⟩) (fun H2 s2 => ⟨xs, .inl (.inl (s2 _ _ hp')), Nat.le_refl _⟩) ?_ ?_
        · rintro D2 i x d2 σ2 H2 H2' hD2 hD2o hs2 hi hdi ⟨rfl, hy⟩ ⟨e2, rfl⟩ R2 kR2
          have hx := hy xs (.inl (.inl (hs2 _ _ hp')))
          obtain ⟨q, ys, row, hrow, rfl, hq, hys⟩ := rep_rows hxs hx
          have hrl : ys.length = c := by rw [hys.length, List.length_map]; exact hc row (List.mem_of_getElem? hrow)
          have hjy : j < ys.length := by (clear hys hq hx hy hrow kR2 hs2 hD2o hdi hi hD2 hd hp' kR hs' hDo hdj hD e1 hys0 hq0 e0 hr0 hpos h0 hl hxs hp hv k g8 c8 hc hr F T; omega)
          obtain ⟨q2, z, hz, e3, hq2⟩ := rep_at hys (i := j) (x := ys[j]) (by simp [hjy])
          have hq' := hs2 _ _ (hs' _ _ hq)
          walk_at "rd"
          simp only [hq', Option.some.injEq, HO.lst.injEq, exists_eq_left']
          refine ⟨_, atI_nn (by (clear hq' hq2 e3 hz hjy hrl hys hq hx hy hrow kR2 hs2 hD2o hdi hi hD2 hd hp' kR hs' hDo hdj hj hD e1 hl0 hys0 hq0 e0 hr0 hpos h0 hl hxs hp hv k g8 c8 hc hr F T; omega)) (show ys[((0 : Int) + (j : Nat)).toNat]? = some ys[j] by rw [show ((0 : Int) + (j : Nat)).toNat = j by (clear hq' hq2 e3 hz hjy hrl hys hq hx hy hrow kR2 hs2 hD2o hdi hi hD2 hd hp' kR hs' hDo hdj hj hD e1 hl0 hys0 hq0 e0 hr0 hpos h0 hl hxs hp hv k g8 c8 hc hr F T; omega)]; simp [hjy]), ?_⟩
          refine kR2 _ _ _ ⟨_, rfl⟩ (Same.refl _) ?_
          have hd2 : d2 = dF z := by
            rw [List.getElem?_map, List.getElem?_map, hrow] at hdi
            have : row.getD j (0, 1) = z := by rw [List.getD_eq_getElem?_getD, hz]; rfl
            rw [← this]
            exact (Option.some.inj hdi).symm
          rw [hd2, e3]
          refine Rep.mono (old_only (hs'.trans hs2) hD (hs'.free hD2)) _ (show Rep H (.ref q2) (dF z) from ⟨q2, _, rfl, hq2, _, _, rfl, rfl, _, _, rfl, rfl, rfl⟩)
        · intro D2 H3 hD2 s3 rep
          refine kR _ _ _ ⟨_, rfl⟩ s3 ?_
          rw [hd]
          exact Rep.mono new_only _ rep
noncomputable def dCol (c : List (Int × Int)) : Dt := .tup [.lst ((tops c (lcmB c)).map Dt.int), .int (lcmB c)]
theorem rep_clr {H : Hp} {v : V} {ns : List Int} {L : Int} (h : Rep H v (.tup [.lst (ns.map Dt.int), .int L])) : ∃ p q, v = .ref p ∧ H p = some (.tup [.ref q, .int L]) ∧ H q = some (.lst (ns.map V.int)) := by
  obtain ⟨p, xs, e, hp, x, r', e1, ⟨q, ys, e2, hq, hys⟩, y, r'', e3, hy, e4⟩ := h
  cases hy
  subst e1 e2 e3 e4
  rw [reps_ints hys] at hq
  exact ⟨p, q, e, hp, hq⟩
noncomputable def augR (g cs : List (List (Int × Int))) (k : Nat) : List Int := tops (g.getD k []) (lcmB (g.getD k [])) ++ cs.map fun c => lcmB (g.getD k []) * gi (tops c (lcmB c)) k
noncomputable def aug (g cs : List (List (Int × Int))) : List (List Int) := (List.range g.length).map (augR g cs)
noncomputable abbrev s_cleared_together : Stmt := PySem.Challenge.pw_rimread_k05_solved.main.body.getD 20 (.Pass ⟨0, 0, 0, 0⟩)
theorem sc_cleared_together : FnScope ["grid", "columns", "rows", "k", "whole"] ["grid", "columns"] (defScope s_cleared_together) := ⟨rfl, rfl, rfl, by decide +kernel, rfl, by decide +kernel, by decide +kernel⟩
theorem lk_cleared_together_0 : (defScope s_cleared_together).names.lookup ("grid" : Str) = some PySem.NameKind.local := by decide +kernel
theorem lk_cleared_together_1 : (defScope s_cleared_together).names.lookup ("columns" : Str) = some PySem.NameKind.local := by decide +kernel
theorem lk_cleared_together_2 : (defScope s_cleared_together).names.lookup ("rows" : Str) = some PySem.NameKind.local := by decide +kernel
theorem lk_cleared_together_3 : (defScope s_cleared_together).names.lookup ("k" : Str) = some PySem.NameKind.cell := by decide +kernel
theorem lk_cleared_together_4 : (defScope s_cleared_together).names.lookup ("whole" : Str) = some PySem.NameKind.cell := by decide +kernel
theorem gk_cleared_together_cleared : (defScope s_cleared_together).names.lookup ("cleared" : Str) = some PySem.NameKind.globalImplicit := by decide +kernel
theorem gk_cleared_together_len : (defScope s_cleared_together).names.lookup ("len" : Str) = some PySem.NameKind.globalImplicit := by decide +kernel
theorem gk_cleared_together_range : (defScope s_cleared_together).names.lookup ("range" : Str) = some PySem.NameKind.globalImplicit := by decide +kernel
noncomputable def sp_ct : Sp := fun vs H Q _ => ∃ (v u : V) (g cs : List (List (Int × Int))), vs = [v, u] ∧ Rep H v (.lst (g.map dRow)) ∧ Rep H u (.lst (cs.map dCol)) ∧ g.length ≤ 12 ∧ cs.length ≤ 3 ∧ (∀ r ∈ g, r.length = g.length ∧ ∀ p ∈ r, Sm p) ∧ (∀ c ∈ cs, c.length = g.length ∧ ∀ p ∈ c, Sm p) ∧
  ∀ x H', Same H H' → Rep H' x (dM (aug g cs)) → Q x H'
theorem tops_le {r : List (Int × Int)} (h : ∀ p ∈ r, Sm p) (h5 : r.length ≤ 12) : ∀ x ∈ tops r (lcmB r), Builtin.Int.intBits x ≤ 83 := fun x hx => by
  obtain ⟨e, he, rfl⟩ := List.mem_map.mp hx
  have bb := (bot_lcm h).bits
  have bl : Builtin.Int.intBits (lcmB r / e.2) ≤ 73 := PyProof.Rows.bits_of_natAbs_le (b := lcmB r) (by have := Int.natAbs_ediv_le_natAbs (lcmB r) e.2; (clear bb hx he h5 h; omega)) (by (clear hx he h; omega))
  have z := PyProof.Rows.bits_mul (h e he).top bl
  (clear bl bb hx he h5 h; omega)
theorem ok_cleared_together (T : Txt K mg) (F : Fn0 K mg "cleared_together" s_cleared_together) (C_cleared : Cal P w K mg base "cleared" ["entries"] 3 sp_cleared) : Cal P w K mg base "cleared_together" ["grid", "columns"] 4 sp_ct := by
  refine cal_of F sc_cleared_together (fun _ _ _ _ _ _ us hl => match us, hl with | [_, _], _ => rfl) ?len ?body
  case len => rintro vs H Q E ⟨a, b, c, d, rfl, _⟩; rfl
  case body =>
    intro f cdv A outer s H vs Q E hr h
    obtain ⟨v, u, g, cs, rfl, hv, hu, g12, c3, hg, hc, k⟩ := h
    obtain ⟨p, xs, rfl, hp, hxs⟩ := id hv
    obtain ⟨pc, xc, rfl, hpc, hxc⟩ := id hu
    have hl : xs.length = g.length := by rw [hxs.length, List.length_map]
    have hlc : xc.length = cs.length := by rw [hxc.length, List.length_map]
    refine' ⟨_, ?D, ?R⟩
    case D =>
      refine' pss_cons ?g1 ?g2
      case g1 =>
        refine' ps_set1 (i := 2) sc_cleared_together.nd rfl lk_cleared_together_2 ?g3
        case g3 =>
          refine' pe_lst ?g4
          case g4 => exact pa_nil
      case g2 =>
        refine' pss_cons ?g5 ?g6
        case g5 =>
          refine' ps_for PassesOwn.never rfl ?g7 ?g8 ?g9
          case g7 =>
            refine' pi_range1 gk_cleared_together_range T.n_range ?g10
            case g10 =>
              refine' pa_c ?g11 ?g12
              case g11 =>
                refine' pe_callE call_lenH gk_cleared_together_len T.n_len bt_len ?g13
                case g13 =>
                  refine' pa_c ?g14 ?g15
                  case g14 => exact pv1 0 rfl lk_cleared_together_0
                  case g15 => exact pa_nil
              case g12 => exact pa_nil
          case g8 => exact pg_namec (i := 3) sc_cleared_together.nd rfl lk_cleared_together_3 rfl
          case g9 =>
            refine' pss_cons ?g16 ?g17
            case g16 =>
              refine' ps_setc (i := 4) sc_cleared_together.nd rfl lk_cleared_together_4 rfl ?g18 rfl
              case g18 =>
                refine' pe_callD C_cleared (hr.mono (by decide)) gk_cleared_together_cleared ?g19
                case g19 =>
                  refine' pa_c ?g20 ?g21
                  case g20 =>
                    refine' pe_ix ix_listH ?g22 ?g23 (fun _ _ => rfl)
                    case g22 => exact pv1 0 rfl lk_cleared_together_0
                    case g23 => exact pvc 3 rfl lk_cleared_together_3
                  case g21 => exact pa_nil
            case g17 =>
              refine' pss_one ?g24
              case g24 =>
                refine' ps_expr1 ?g25
                case g25 =>
                  refine' pe_bm PySem.F.plainAttrs_list PySem.F.slot_list_append PySem.F.type_list_append mt_append ?g26 ?g27
                  case g26 => exact pv1 2 rfl lk_cleared_together_2
                  case g27 =>
                    refine' pa_c ?g28 ?g29
                    case g28 =>
                      refine' pe_op op_cat ?g30 ?g31
                      case g30 =>
                        refine' pe_ix ix_tupH ?g32 ?g33 (fun _ _ => rfl)
                        case g32 => exact pvc 4 rfl lk_cleared_together_4
                        case g33 => exact pe_int
                      case g31 =>
                        refine' pe_comp (N' := ["column", "whole", "k"]) (ix := [none, some 4, some 3]) rfl rfl (scp_of ?g34) ?g35 (fun _ _ _ => ?g36) (fun _ _ _ => ?g37) (fun _ _ _ => ?g38)
                        case g34 => exact (by show scpB (defScope s_cleared_together) ["grid", "columns", "rows", "k", "whole"] _ _ _ = true; decide +kernel)
                        case g35 =>
                          refine' pi_listK (K := K) rfl ?g39
                          case g39 => exact pv1 1 rfl lk_cleared_together_1
                        case g36 => exact pg_name1 (i := 0) (by show List.Nodup (["column", "whole", "k"] : List Str); decide +kernel) rfl rfl
                        case g37 => exact pf_nil
                        case g38 =>
                          refine' pe_op op_mulB ?g40 ?g41
                          case g40 =>
                            refine' pe_ix ix_tupH ?g42 ?g43 (fun _ _ => rfl)
                            case g42 => exact pvc 1 rfl rfl
                            case g43 => exact pe_int
                          case g41 =>
                            refine' pe_ix ix_listH ?g44 ?g45 (fun _ _ => rfl)
                            case g44 =>
                              refine' pe_ix ix_tupH ?g46 ?g47 (fun _ _ => rfl)
                              case g46 => exact pv1 0 rfl rfl
                              case g47 => exact pe_int
                            case g45 => exact pvc 2 rfl rfl
                    case g29 => exact pa_nil
        case g6 =>
          refine' pss_one ?g48
          case g48 =>
            refine' ps_ret ?g49
            case g49 => exact pv1 2 rfl lk_cleared_together_2
    case R =>
      walk_at "rd"
      refine ⟨by decide, fun l nl => ?_⟩
      have hp1 := (Same.new nl (o := HO.lst [])) _ _ hp
      refine ⟨_, .inl hp1, by (clear hp1 nl hlc hxc hpc hu hxs hp hv k hc hg c3 hr C_cleared F T; omega), by (clear hp1 nl hlc hxc hpc hu hxs hp hv k hc hg c3 hr C_cleared F T; omega), ?_⟩
      rw [hl, show Int.toNat (g.length : Int) = g.length by (clear hp1 nl hlc hxc hpc hu hxs hp hv k hc hg c3 hr C_cleared F T; omega)]
      refine go_range (fun i σ H' => ∃ (e3 e4 : Option V) (ys : List V), σ = [some (.ref p), some (.ref pc), some (.ref l), e3, e4] ∧ Same H H' ∧ H' l = some (.lst ys) ∧ Reps (cutH (fun _ => none) l H') ys (((List.range i).map (augR g cs)).map dI)) ⟨none, none, [], rfl, Same.new nl, upd_same, rfl⟩ ?_ ?_
      · rintro i σ H' hi ⟨e3, e4, ys, rfl, s1, hl1, reps⟩
        have ly : ys.length = i := by rw [reps.length]; simp
        obtain ⟨q, zs, r, hr0, ex, hq, hzs⟩ := rep_rows hxs (i := i) (x := xs[i]'(by (clear reps hl1 s1 hp1 nl hlc hxc hpc hu hxs hp hv k hc hg c3 g12 hr C_cleared F T; omega))) (by simp [show i < xs.length by (clear reps hl1 s1 hp1 nl hlc hxc hpc hu hxs hp hv k hc hg c3 g12 hr C_cleared F T; omega)])
        obtain ⟨rl, rs⟩ := hg r (List.mem_of_getElem? hr0)
        have gd : g.getD i [] = r := by rw [List.getD_eq_getElem?_getD, hr0]; rfl
        have bot := bot_lcm rs
        have bb := bot.bits
        walk_at "rd"
        refine ⟨xs, s1 _ _ hp, .ref q, atI_nn (by (clear bb bot gd rs rl hzs hq ex hr0 reps hl1 s1 hi hp1 nl hlc hl hxc hpc hu hxs hp hv k hc hg c3 g12 hr C_cleared F T; omega)) (show xs[((0 : Int) + (i : Nat)).toNat]? = some (.ref q) by rw [show ((0 : Int) + (i : Nat)).toNat = i by (clear bb bot gd rs rl hzs hq ex hr0 reps hl1 s1 hi hp1 nl hlc hl hxc hpc hu hxs hp hv k hc hg c3 g12 hr C_cleared F T; omega), ← ex]; simp [show i < xs.length by (clear bb bot gd rs hzs hq ex hr0 reps hl1 s1 hp1 nl hlc hxc hpc hu hxs hp hv k hc hg c3 g12 hr C_cleared F T; omega)]), ?_⟩
        refine ⟨_, r, rfl, ⟨q, zs, rfl, s1 _ _ hq, Reps.mono s1 _ hzs⟩, rs, by (clear bb bot gd rs hzs hq ex hr0 ly reps hl1 s1 hi hp1 nl hlc hxc hpc hu hxs hp hv k hc hg c3 hr C_cleared F T; omega), fun x1 H1 s2 rep1 => ?_⟩
        obtain ⟨t, q1, rfl, ht, hq1⟩ := rep_clr rep1
        obtain ⟨nt, ht1⟩ := newH_of ht
        obtain ⟨nq, hq2⟩ := newH_of hq1
        have hl2 := s2 _ _ hl1
        have hpc1 := s2 _ _ (s1 _ _ hpc)
        have hxc1 := Reps.mono (s1.trans s2) _ hxc
        refine ⟨.inl ⟨_, .inl (.inl hl2)⟩, t, rfl, _, ht1, _, atI_0, ⟨xc, .inl (.inl hpc1)⟩, ?_⟩
        refine comp_any (n := xc.length) (B := H1) (Pσ := fun σ => ∃ e, σ = [e, some (.ref t), some (.int (0 + i))]) (ds := (cs.map fun c => lcmB r * gi (tops c (lcmB c)) i).map Dt.int) (Same.refl _) ⟨_, rfl⟩ (by simp [hlc]) (by (clear hxc1 hpc1 hl2 hq2 nq ht1 nt hq1 ht rep1 s2 bb bot gd rs rl hzs hq ex hr0 ly reps hl1 s1 hi hp1 nl hl hxc hpc hu hxs hp hv k hc hg g12 hr C_cleared F T; omega)) (fun j H' hj s' => ⟨xc, xc[j], .inl (.inl (s' _ _ hpc1)), by simp [hj]⟩) (fun H' s' => ⟨xc, .inl (.inl (s' _ _ hpc1)), Nat.le_refl _⟩) ?_ ?_
        · rintro D j x d σ' H3 H3' hD hDo s3 hj hdj ⟨rfl, hy⟩ ⟨e, rfl⟩ R kR
          have hx := hy xc (.inl (.inl (s3 _ _ hpc1)))
          obtain ⟨dc, hdc, rdc⟩ := hxc1.of_get hx
          rw [List.getElem?_map] at hdc
          have hcj : cs[j]? = some (cs[j]'(by (clear rdc hdc hx kR hy s3 hDo hdj hD hxc1 hpc1 hl2 hq2 nq ht1 nt hq1 ht rep1 s2 bb bot gd rs rl hzs hq ex hr0 ly reps hl1 s1 hi hp1 nl hl hxc hpc hu hxs hp hv k hc hg c3 g12 hr C_cleared F T; omega))) := List.getElem?_eq_getElem _
          have hcm := List.getElem_mem (show j < cs.length by (clear hcj rdc hdc hx kR hy s3 hDo hdj hD hxc1 hpc1 hl2 hq2 nq ht1 nt hq1 ht rep1 s2 bb bot gd rs rl hzs hq ex hr0 ly reps hl1 s1 hi hp1 nl hl hxc hpc hu hxs hp hv k hc hg c3 g12 hr C_cleared F T; omega))
          generalize cs[j]'(by (clear hcm hcj rdc hdc hx kR hy s3 hDo hdj hD hxc1 hpc1 hl2 hq2 nq ht1 nt hq1 ht rep1 s2 bb bot gd rs rl hzs hq ex hr0 ly reps hl1 s1 hi hp1 nl hl hxc hpc hu hxs hp hv k hc hg c3 g12 hr C_cleared F T; omega)) = c at hcj hcm
          rw [hcj] at hdc
          cases hdc
          obtain ⟨cl, csm⟩ := hc c hcm
          obtain ⟨tc, qc, rfl, htc, hqc⟩ := rep_clr (ns := tops c (lcmB c)) (L := lcmB c) rdc
          have lt : i < (tops c (lcmB c)).length := by simp [tops]; (clear hqc htc rdc hx hy csm hcm hcj kR s3 hDo hdj hj hD hxc1 hpc1 hl2 hq2 nq ht1 nt hq1 ht rep1 s2 bb bot gd rs hzs hq ex hr0 reps hl1 s1 hp1 nl hlc hxc hpc hu hxs hp hv k hc hg c3 g12 hr C_cleared F T; omega)
          have gb := gi_bits (tops_le csm (by (clear lt hqc htc rdc hx hy csm hcm hcj kR s3 hDo hdj hj hD hxc1 hpc1 hl2 hq2 nq ht1 nt hq1 ht rep1 s2 bb bot gd rs hzs hq ex hr0 ly reps hl1 s1 hi hp1 nl hlc hxc hpc hu hxs hp hv k hc hg c3 hr C_cleared F T; omega))) i
          have hd2 : d = .int (lcmB r * gi (tops c (lcmB c)) i) := by
            rw [List.getElem?_map, List.getElem?_map, hcj] at hdj
            exact (Option.some.inj hdj).symm
          walk_at "rd"
          have a1 := at_ints (r := tops c (lcmB c)) (i := (0 : Int) + (i : Nat)) (by (clear hd2 gb lt hqc htc rdc hx hy csm cl hcm hcj kR s3 hDo hdj hj hD hxc1 hpc1 hl2 hq2 nq ht1 nt hq1 ht rep1 s2 bb bot gd rs rl hzs hq ex hr0 reps hl1 s1 hi hp1 nl hlc hl hxc hpc hu hxs hp hv k hc hg c3 g12 hr C_cleared F T; omega)) (by (clear hd2 gb hqc htc rdc hx hy csm cl hcm hcj kR s3 hDo hdj hj hD hxc1 hpc1 hl2 hq2 nq ht1 nt hq1 ht rep1 s2 bb bot gd rs rl hzs hq ex hr0 reps hl1 s1 hi hp1 nl hlc hl hxc hpc hu hxs hp hv k hc hg c3 g12 hr C_cleared F T; omega))
          rw [show ((0 : Int) + (i : Nat)).toNat = i by (clear a1 hd2 gb lt hqc htc rdc hx hy csm cl hcm hcj kR s3 hDo hdj hj hD hxc1 hpc1 hl2 hq2 nq ht1 nt hq1 ht rep1 s2 bb bot gd rs rl hzs hq ex hr0 reps hl1 s1 hi hp1 nl hlc hl hxc hpc hu hxs hp hv k hc hg c3 g12 hr C_cleared F T; omega)] at a1
          refine ⟨_, s3 _ _ ht1, _, atI_1, _, s3 _ _ htc, _, atI_0, qc, rfl, _, s3 _ _ hqc, _, a1, _, rfl, _, rfl, by (clear a1 hd2 lt hqc htc rdc hx hy csm hcm hcj kR s3 hDo hdj hj hD hxc1 hpc1 hl2 hq2 nq ht1 nt hq1 ht rep1 s2 bot gd rs hzs hq ex hr0 reps hl1 s1 hp1 nl hlc hxc hpc hu hxs hp hv k hc hg c3 hr C_cleared F T; omega), kR _ _ _ ⟨_, rfl⟩ (Same.refl _) ?_⟩
          rw [hd2]
          rfl
        · intro D H3 hD s3 rep
          obtain ⟨_, vs, eD, hDD, hvs⟩ := rep
          cases eD
          have e3 := reps_ints hvs
          subst e3
          obtain ⟨nD, hD3⟩ := newH_of hDD
          refine ⟨q1, rfl, D, rfl, _, s3 _ _ hq2, _, hD3, Nat.le_of_lt (small1000 (by simp [tops]; (clear hD3 nD hDD hvs s3 hD hxc1 hpc1 hl2 hq2 nq ht1 nt hq1 ht rep1 s2 bb bot gd rs hzs hq ex hr0 reps hl1 s1 hp1 nl hxc hpc hu hxs hp hv k hc hg hr C_cleared F T; omega))), fun p4 n4 => ?_⟩
          have S4 : Same H3 (upd H3 p4 (HO.lst ((tops r (lcmB r)).map V.int ++ (cs.map fun c => lcmB r * gi (tops c (lcmB c)) i).map V.int))) := Same.new n4
          have hl3 := s3 _ _ hl2
          have p4l : p4 ≠ l := (ne_of_none hl3 n4).symm
          refine ⟨l, ys, .ref p4, rfl, rfl, S4 _ _ hl3, small1000 (by (clear p4l hl3 S4 n4 hD3 nD hDD hvs s3 hD hxc1 hpc1 hl2 hq2 nq ht1 nt hq1 ht rep1 s2 bb bot gd rs hzs hq ex hr0 reps hl1 s1 hp1 nl hlc hxc hpc hu hxs hp hv k hc hg c3 hr C_cleared F T; omega)), fun b o hb => ?_, _, upd_same, ?_⟩
          · rw [upd_ne (ne_of_none hb nl)]
            exact S4 _ _ (s3 _ _ (s2 _ _ (s1 _ _ hb)))
          · rw [cutH_upd, List.range_succ, List.map_append, List.map_append]
            refine (Reps.mono (cutH_mono ((s2.trans s3).trans S4)) _ reps).append ⟨_, _, rfl, ?_, rfl⟩
            unfold augR
            rw [gd]
            refine rep_of_ints ?_
            rw [cutH_at p4l rfl, upd_same, List.map_append]
      · rintro σ H' ⟨e3, e4, ys, rfl, s1, hl1, reps⟩
        walk_at "rd"
        exact k _ _ s1 ⟨l, ys, rfl, hl1, Reps.mono cutH_same _ reps⟩
end Rim5
set_option Elab.async false
set_option linter.all false
set_option maxRecDepth 100000
set_option maxHeartbeats 4000000
namespace Rim5
open PySem PySem.Spec PyProof.Rows L2 RimM RimD
local macro_rules | `(tactic| walk_at "rd") => `(tactic| first | (dsimp only [tSeq, tAsg, gName, tTup, tLst, tCons, tNil, tVar, tC, tCB, tOp, rI, rI0, tTest, tIfS, tNext, tRet, tRetN, tDrop, tB, tAnd, tOr, tNot, tAndV, tOrV, tNotV, rU, tUn, tBM0, tBM, rBits, tCall, L2.start, rIxTH, rIxLH, rLenH, rEqTH, rEq, rNe, scal, tyV, CMul, CMulB, CDivB, CDivF, CPow, List.map_cons, List.map_nil, List.length_cons, List.length_nil, List.replicate, List.cons_append, List.nil_append, List.set_cons_zero, List.set_cons_succ, List.getElem?_cons_zero, List.getElem?_cons_succ, gSub, rSetL, rCat, iRng1, tPar, iList, tComp, pick, tYes, iZip, gTup, gCons, gNil, rSum, rListH, List.map, iRng2, iRngD, tSl, rSlH, tPart, tNoPart, tPar3]; try simp only [tSeq, tAsg, gName, tTup, tLst, tCons, tNil, tVar, tC, tCB, tOp, rI, rI0, tTest, tIfS, tNext, tRet, tRetN, tDrop, tB, tAnd, tOr, tNot, tAndV, tOrV, tNotV, rU, tUn, tBM0, tBM, rBits, tCall, L2.start, rIxTH, rIxLH, rLenH, rEqTH, rEq, rNe, scal, tyV, CMul, CMulB, CDivB, CDivF, CPow, List.map_cons, List.map_nil, List.length_cons, List.length_nil, List.replicate, List.cons_append, List.nil_append, List.append_nil, List.set_cons_zero, List.set_cons_succ, List.getElem?_cons_zero, List.getElem?_cons_succ, Option.some.injEq, List.cons.injEq, V.int.injEq, V.bl.injEq, V.str.injEq, V.ref.injEq, V.ty.injEq, HO.tup.injEq, HO.lst.injEq, exists_eq_left, exists_eq_left', exists_and_left, and_assoc, and_true, true_and, upd_same, atI_0, atI_1, atI_2, Nat.zero_add, Nat.reduceAdd, Nat.reduceSub, decide_eq_true_eq, Bool.not_eq_true', decide_eq_false_iff_not, reduceCtorEq, false_or, or_false, true_or, or_true, plainT_int, plainT_bool, plainT_tuple, plainT_list, plainT_str, Bool.false_eq_true, if_false, if_true, Bool.not_false, Bool.not_true, Bool.not_not, gSub, rSetL, ixN_00, upd_upd, rCat, iRng1, tFor_eq, tPar, iList, tComp, pick, tYes, iZip, gTup, gCons, gNil, rSum, rListH, List.map, Option.bind, iRng2, iRngD, tSl, rSlH, tPart, tNoPart, tPar3]) | simp only [tSeq, tAsg, gName, tTup, tLst, tCons, tNil, tVar, tC, tCB, tOp, rI, rI0, tTest, tIfS, tNext, tRet, tRetN, tDrop, tB, tAnd, tOr, tNot, tAndV, tOrV, tNotV, rU, tUn, tBM0, tBM, rBits, tCall, L2.start, rIxTH, rIxLH, rLenH, rEqTH, rEq, rNe, scal, tyV, CMul, CMulB, CDivB, CDivF, CPow, List.map_cons, List.map_nil, List.length_cons, List.length_nil, List.replicate, List.cons_append, List.nil_append, List.append_nil, List.set_cons_zero, List.set_cons_succ, List.getElem?_cons_zero, List.getElem?_cons_succ, Option.some.injEq, List.cons.injEq, V.int.injEq, V.bl.injEq, V.str.injEq, V.ref.injEq, V.ty.injEq, HO.tup.injEq, HO.lst.injEq, exists_eq_left, exists_eq_left', exists_and_left, and_assoc, and_true, true_and, upd_same, atI_0, atI_1, atI_2, Nat.zero_add, Nat.reduceAdd, Nat.reduceSub, decide_eq_true_eq, Bool.not_eq_true', decide_eq_false_iff_not, reduceCtorEq, false_or, or_false, true_or, or_true, plainT_int, plainT_bool, plainT_tuple, plainT_list, plainT_str, Bool.false_eq_true, if_false, if_true, Bool.not_false, Bool.not_true, Bool.not_not, gSub, rSetL, ixN_00, upd_upd, rCat, iRng1, tFor_eq, tPar, iList, tComp, pick, tYes, iZip, gTup, gCons, gNil, rSum, rListH, List.map, Option.bind, iRng2, iRngD, tSl, rSlH, tPart, tNoPart, tPar3])
variable {P : Program} {w : World} {K : PySem.W.Frag} {mg : Str → Option Value} {base : Heap}
theorem pe_gref {X : Cx} {x : Str} {C : Addr} {pos : Pos} (hg : Gl X x) (hm : X.mg x = some (.ref C)) (hd : (x == ("__debug__" : Str)) = false := by decide) : PE X (.Name x pos) (tC (.ref C)) := pe_glob (v := .ref C) hg hm rfl hd
structure Exs (K : PySem.W.Frag) (mg : Str → Option Value) (CR CA CN CP CW : Addr) : Prop where
  m_RimError : mg "RimError" = some (.ref CR)
  m_NoAnswer : mg "NoAnswer" = some (.ref CA)
  m_NoNet : mg "NoNet" = some (.ref CN)
  m_NoPlane : mg "NoPlane" = some (.ref CP)
  m_NoWorth : mg "NoWorth" = some (.ref CW)
  own_NoAnswer : ExC K CA
  hnd_RimError : HnC K CR
  sub : PySem.W.mroIn K CA (.ref CR) = some true
  kit : KitE K CA
  isA : PySem.W.kitOne K (.ref CA) (.ref CA) = some true
  isV : PySem.W.kitOne K (.ref CA) (.type "ValueError") = some true
  isN : PySem.W.kitAny K (.ref CA) [.ref CN, .ref CP, .ref CW] = some false
variable {CR CA CN CP CW : Addr}
noncomputable def nums (g : List (List (Int × Int))) : List (List Int) := g.map fun r => tops r (lcmB r)
noncomputable def solP (g o : List (List (Int × Int))) : List (List (Int × Int)) := (sweepP g.length 1 (aug g (cols o))).2.map fun row => List.zipWith (fun t c => nf t ((sweepP g.length 1 (aug g (cols o))).1 * lcmB c)) row (cols o)
structure In (g o : List (List (Int × Int))) (n c : Nat) : Prop where
  gl : g.length = n
  n12 : n ≤ 12
  gr : ∀ r ∈ g, r.length = n ∧ ∀ p ∈ r, Sm p
  ol : o.length = n
  c1 : 1 ≤ c
  c3 : c ≤ 3
  orow : ∀ r ∈ o, r.length = c ∧ ∀ p ∈ r, Sm p
theorem sm01 : Sm (0, 1) := ⟨by decide, by decide +kernel, by decide +kernel⟩
theorem In.co {g o : List (List (Int × Int))} {n c : Nat} (h : In g o n c) (hn : 0 < n) : cols o = (List.range c).map (fun j => o.map fun row => row.getD j (0, 1)) ∧ (cols o).length = c ∧ ∀ x ∈ cols o, x.length = n ∧ ∀ p ∈ x, Sm p := by
  have e : cols o = (List.range c).map (fun j => o.map fun row => row.getD j (0, 1)) := by
    cases ho : o with
    | nil => have := h.ol; rw [ho] at this; simp at this; omega
    | cons r o' =>
      show (List.range r.length).map _ = _
      rw [(h.orow r (by rw [ho]; exact List.mem_cons_self)).1]
  refine ⟨e, by rw [e]; simp, fun x hx => ?_⟩
  rw [e] at hx
  obtain ⟨j, hj, rfl⟩ := List.mem_map.mp hx
  refine ⟨by rw [List.length_map, h.ol], fun p hp => ?_⟩
  obtain ⟨row, hr, rfl⟩ := List.mem_map.mp hp
  rw [List.getD_eq_getElem?_getD]
  cases q : row[j]? with
  | none => exact sm01
  | some y => exact (h.orow row hr).2 y (List.mem_of_getElem? q)
theorem aug_len (g cs : List (List (Int × Int))) : (aug g cs).length = g.length := by simp [aug]
theorem aug_at (g cs : List (List (Int × Int))) {k : Nat} (hk : k < g.length) : (aug g cs).getD k [] = augR g cs k := by
  unfold aug
  rw [List.getD_eq_getElem?_getD, List.getElem?_map, List.getElem?_range hk]
  rfl
theorem row_mem {g : List (List (Int × Int))} {k : Nat} (hk : k < g.length) : g.getD k [] ∈ g := by
  rw [List.getD_eq_getElem?_getD, List.getElem?_eq_getElem hk]
  exact List.getElem_mem _
theorem nums_at {g : List (List (Int × Int))} {k : Nat} (hk : k < g.length) : (nums g).getD k [] = tops (g.getD k []) (lcmB (g.getD k [])) := by
  unfold nums
  rw [List.getD_eq_getElem?_getD, List.getElem?_map, List.getElem?_eq_getElem hk, List.getD_eq_getElem?_getD, List.getElem?_eq_getElem hk]
  rfl
theorem In.lf {g o : List (List (Int × Int))} {n c : Nat} (h : In g o n c) (hn : 0 < n) : (∀ k j, k < n → j < n → ma (aug g (cols o)) k j = ma (nums g) k j) ∧ (∀ k q, k < n → q < c → ma (aug g (cols o)) k (n + q) = lcmB (g.getD k []) * gi (tops ((cols o).getD q []) (lcmB ((cols o).getD q []))) k) ∧ Rect (n + c) (aug g (cols o)) := by
  obtain ⟨ec, cl, cr⟩ := h.co hn
  have tl : ∀ k, k < n → (tops (g.getD k []) (lcmB (g.getD k []))).length = n := fun k hk => by
    rw [tops, List.length_map]
    exact (h.gr _ (row_mem (by rw [h.gl]; exact hk))).1
  refine ⟨fun k j hk hj => ?_, fun k q hk hq => ?_, ⟨fun r hr => ?_⟩⟩
  · unfold ma
    rw [aug_at g _ (by rw [h.gl]; exact hk), nums_at (by rw [h.gl]; exact hk), augR]
    unfold gi
    rw [List.getD_eq_getElem?_getD, List.getElem?_append_left (by rw [tl k hk]; exact hj), ← List.getD_eq_getElem?_getD]
  · unfold ma
    rw [aug_at g _ (by rw [h.gl]; exact hk), augR]
    have hq' : (cols o)[q]? = some ((cols o)[q]'(by (clear hk tl cr ec hn h; omega))) := List.getElem?_eq_getElem _
    have hd : (cols o).getD q [] = (cols o)[q]'(by (clear hq' hk tl cr ec hn h; omega)) := by rw [List.getD_eq_getElem?_getD, hq']; rfl
    rw [hd]
    show ((tops (g.getD k []) (lcmB (g.getD k [])) ++ (cols o).map fun c => lcmB (g.getD k []) * gi (tops c (lcmB c)) k).getD (n + q) 0) = _
    rw [List.getD_eq_getElem?_getD, List.getElem?_append_right (by rw [tl k hk]; (clear hd hq' hq hk tl cr cl ec hn h; omega)), tl k hk, show n + q - n = q by (clear hd hq' hq hk tl cr cl ec hn h; omega), List.getElem?_map, hq']
    rfl
  · obtain ⟨k, hk, rfl⟩ := List.mem_map.mp hr
    have := List.mem_range.mp hk
    rw [augR, List.length_append, List.length_map, cl, tl k (by rw [← h.gl]; exact this)]
theorem nat_of_bits {x : Int} {n : Nat} (h : Builtin.Int.intBits x ≤ n) : x.natAbs ≤ 2 ^ n := by
  by_cases e : x = 0
  · subst e; exact Nat.zero_le _
  · rw [bits_pos e] at h
    exact Nat.le_of_lt ((Nat.log2_lt (by omega)).mp (by omega))
theorem In.mn {g o : List (List (Int × Int))} {n c : Nat} (h : In g o n c) (hn : 0 < n) : Min 2080 (aug g (cols o)) := fun t ρ κ ht hρ => by
  obtain ⟨ec, cl, cr⟩ := h.co hn
  rw [aug_len, h.gl] at ht hρ
  have n12 := h.n12
  refine Nat.le_trans (D_le4 (B := 156) (n := t) (by (clear cr cl ec hρ h; omega)) fun i j _ _ => ?_) (Nat.pow_le_pow_right (by decide) ?_)
  · have hk := hρ i
    have gm := h.gr _ (row_mem (k := ρ i) (by rw [h.gl]; exact hk))
    have lb := (bot_lcm gm.2).bits
    show (gi ((aug g (cols o)).getD (ρ i) []) (κ j)).natAbs ≤ _
    rw [aug_at g _ (by rw [h.gl]; exact hk)]
    refine gi_le (fun x hx => ?_) _
    rcases List.mem_append.mp hx with hx | hx
    · exact Nat.le_trans (nat_of_bits (tops_le gm.2 (by (clear hx lb hk cr cl ec hρ ht h; omega)) x hx)) (Nat.pow_le_pow_right (by decide) (by decide))
    · obtain ⟨cc, hcc, rfl⟩ := List.mem_map.mp hx
      have gb := gi_bits (tops_le (cr cc hcc).2 (by rw [(cr cc hcc).1]; (clear hx hcc lb gm hk cr cl ec hρ ht hn h; omega))) (ρ i)
      exact nat_of_bits (Nat.le_trans (PyProof.Rows.bits_mul (show Builtin.Int.intBits (lcmB (g.getD (ρ i) [])) ≤ 73 by (clear gb hx hcc hk cr cl ec hρ ht h; omega)) gb) (by decide))
  · calc (156 + 4) * t ≤ 160 * 13 := Nat.mul_le_mul_left _ (by (clear cr cl ec hρ h; omega))
      _ ≤ 2080 := by decide
theorem In.dle {g o : List (List (Int × Int))} {n c : Nat} (h : In g o n c) : (D n (ma (nums g))).natAbs ≤ 2 ^ 1044 := by
  have n12 := h.n12
  refine Nat.le_trans (D_le4 (B := 83) (n := n) (by omega) fun i j hi hj => ?_) (Nat.pow_le_pow_right (by decide) (by omega))
  show (gi ((nums g).getD i []) j).natAbs ≤ _
  rw [nums_at (by rw [h.gl]; exact hi)]
  have gm := h.gr _ (row_mem (k := i) (by rw [h.gl]; exact hi))
  exact gi_le (fun x hx => nat_of_bits (tops_le gm.2 (by (clear hx hj hi h; omega)) x hx)) j
noncomputable abbrev s_solved : Stmt := PySem.Challenge.pw_rimread_k05_solved.main.body.getD 21 (.Pass ⟨0, 0, 0, 0⟩)
theorem sc_solved : FnScope ["grid", "other", "columns", "outcome", "bottoms"] ["grid", "other"] (defScope s_solved) := ⟨rfl, rfl, rfl, by decide +kernel, rfl, by decide +kernel, by decide +kernel⟩
theorem lk_solved_0 : (defScope s_solved).names.lookup ("grid" : Str) = some PySem.NameKind.local := by decide +kernel
theorem lk_solved_1 : (defScope s_solved).names.lookup ("other" : Str) = some PySem.NameKind.local := by decide +kernel
theorem lk_solved_2 : (defScope s_solved).names.lookup ("columns" : Str) = some PySem.NameKind.local := by decide +kernel
theorem lk_solved_3 : (defScope s_solved).names.lookup ("outcome" : Str) = some PySem.NameKind.cell := by decide +kernel
theorem lk_solved_4 : (defScope s_solved).names.lookup ("bottoms" : Str) = some PySem.NameKind.cell := by decide +kernel
theorem gk_solved_NoAnswer : (defScope s_solved).names.lookup ("NoAnswer" : Str) = some PySem.NameKind.globalImplicit := by decide +kernel
theorem gk_solved_cleared_together : (defScope s_solved).names.lookup ("cleared_together" : Str) = some PySem.NameKind.globalImplicit := by decide +kernel
theorem gk_solved_columns_of : (defScope s_solved).names.lookup ("columns_of" : Str) = some PySem.NameKind.globalImplicit := by decide +kernel
theorem gk_solved_len : (defScope s_solved).names.lookup ("len" : Str) = some PySem.NameKind.globalImplicit := by decide +kernel
theorem gk_solved_swept : (defScope s_solved).names.lookup ("swept" : Str) = some PySem.NameKind.globalImplicit := by decide +kernel
noncomputable def sp_solv : Sp := fun vs H Q _ => ∃ (v u : V) (g o : List (List (Int × Int))) (n c : Nat), vs = [v, u] ∧ Rep H v (.lst (g.map dRow)) ∧ Rep H u (.lst (o.map dRow)) ∧ In g o n c ∧ (0 < n → D n (ma (nums g)) ≠ 0) ∧ ∀ x H', Same H H' → Rep H' x (.lst ((solP g o).map dRow)) → (0 < n → (sweepP n 1 (aug g (cols o))).2.length = n ∧ Rect c (sweepP n 1 (aug g (cols o))).2 ∧ ∀ row ∈ (sweepP n 1 (aug g (cols o))).2, ∀ z ∈ row, z.natAbs ≤ 2 ^ 2080) → Q x H'
theorem In.dt {g o : List (List (Int × Int))} {n c : Nat} (h : In g o n c) (hn : 0 < n) : (sweepP g.length 1 (aug g (cols o))).1 = D n (ma (nums g)) := by
  obtain ⟨l1, l2, l3⟩ := h.lf hn
  have := sweep_is l3 (by rw [aug_len, h.gl]; (clear l3 l2 l1 hn h; omega))
  rw [aug_len] at this
  rw [this, h.gl]
  exact D_congr fun i j hi hj => l1 i j hi hj
theorem ok_solved (T : Txt K mg) (F : Fn0 K mg "solved" s_solved) (C_columns_of : Cal P w K mg base "columns_of" ["grid"] 1 sp_cols) (C_cleared : Cal P w K mg base "cleared" ["entries"] 3 sp_cleared) (C_cleared_together : Cal P w K mg base "cleared_together" ["grid", "columns"] 4 sp_ct) (C_swept : Cal P w K mg base "swept" ["rows"] 2 sp_swp) (C_fraction : Cal P w K mg base "fraction" ["top", "bottom"] 2 sp_fraction) : Cal P w K mg base "solved" ["grid", "other"] 5 sp_solv := by
  refine cal_of F sc_solved (fun _ _ _ _ _ _ us hl => match us, hl with | [_, _], _ => rfl) ?len ?body
  case len => rintro vs H Q E ⟨a, b, c, d, e, f, rfl, _⟩; rfl
  case body =>
    intro f cdv A outer s H vs Q E hr h
    obtain ⟨v, u, g, o, n, c, rfl, hv, hu, hin, hdet, k⟩ := h
    have n12 := hin.n12
    have c1 := hin.c1
    have c3 := hin.c3
    refine' ⟨_, ?D, ?R⟩
    case D =>
      refine' pss_cons ?g1 ?g2
      case g1 =>
        refine' ps_comp (i := 2) (N' := ["column"]) (ix := [none]) rfl rfl sc_solved.nd rfl lk_solved_2 rfl (scp_of ?g3) ?g4 (fun _ _ _ => ?g5) (fun _ _ _ => ?g6) (fun _ _ _ => ?g7)
        case g3 => exact (by show scpB (defScope s_solved) ["grid", "other", "columns", "outcome", "bottoms"] _ _ _ = true; decide +kernel)
        case g4 =>
          refine' pi_listK (K := K) rfl ?g8
          case g8 =>
            refine' pe_callD C_columns_of (hr.mono (by decide)) gk_solved_columns_of ?g9
            case g9 =>
              refine' pa_c ?g10 ?g11
              case g10 => exact pv1 1 rfl lk_solved_1
              case g11 => exact pa_nil
        case g5 => exact pg_name1 (i := 0) (by show List.Nodup (["column"] : List Str); decide +kernel) rfl rfl
        case g6 => exact pf_nil
        case g7 =>
          refine' pe_callD C_cleared (hr.mono (by decide)) rfl ?g12
          case g12 =>
            refine' pa_c ?g13 ?g14
            case g13 => exact pv1 0 rfl rfl
            case g14 => exact pa_nil
      case g2 =>
        refine' pss_cons ?g15 ?g16
        case g15 =>
          refine' ps_if ?g17 ?g18 ?g19
          case g17 =>
            refine' pt_cmpR op_eq ?g20 ?g21 (nomark _)
            case g20 =>
              refine' pe_callE call_lenH gk_solved_len T.n_len bt_len ?g22
              case g22 =>
                refine' pa_c ?g23 ?g24
                case g23 => exact pv1 2 rfl lk_solved_2
                case g24 => exact pa_nil
            case g21 => exact pe_int
          case g18 =>
            refine' pss_one ?g25
            case g25 =>
              refine' ps_ret ?g26
              case g26 =>
                refine' pe_comp (N' := ["row"]) (ix := [none]) rfl rfl (scp_of ?g27) ?g28 (fun _ _ _ => ?g29) (fun _ _ _ => ?g30) (fun _ _ _ => ?g31)
                case g27 => exact (by show scpB (defScope s_solved) ["grid", "other", "columns", "outcome", "bottoms"] _ _ _ = true; decide +kernel)
                case g28 =>
                  refine' pi_listK (K := K) rfl ?g32
                  case g32 => exact pv1 1 rfl lk_solved_1
                case g29 => exact pg_name1 (i := 0) (by show List.Nodup (["row"] : List Str); decide +kernel) rfl rfl
                case g30 => exact pf_nil
                case g31 =>
                  refine' pe_lst ?g33
                  case g33 => exact pa_nil
          case g19 => exact pss_nil
        case g16 =>
          refine' pss_cons ?g34 ?g35
          case g34 =>
            refine' ps_setc (i := 3) sc_solved.nd rfl lk_solved_3 rfl ?g36 rfl
            case g36 =>
              refine' pe_callD C_swept (hr.mono (by decide)) gk_solved_swept ?g37
              case g37 =>
                refine' pa_c ?g38 ?g39
                case g38 =>
                  refine' pe_callD C_cleared_together (hr.mono (by decide)) gk_solved_cleared_together ?g40
                  case g40 =>
                    refine' pa_c ?g41 ?g42
                    case g41 => exact pv1 0 rfl lk_solved_0
                    case g42 =>
                      refine' pa_c ?g43 ?g44
                      case g43 => exact pv1 2 rfl lk_solved_2
                      case g44 => exact pa_nil
                case g39 => exact pa_nil
          case g35 =>
            refine' pss_cons ?g45 ?g46
            case g45 =>
              refine' ps_if ?g47 ?g48 ?g49
              case g47 =>
                refine' pt_cmpR op_eq ?g50 ?g51 (nomark _)
                case g50 =>
                  refine' pe_ix ix_tupH ?g52 ?g53 (fun _ _ => rfl)
                  case g52 => exact pvc 3 rfl lk_solved_3
                  case g53 => exact pe_int
                case g51 => exact pe_int
              case g48 =>
                refine' pss_one ?g54
                case g54 => exact ps_never
              case g49 => exact pss_nil
            case g46 =>
              refine' pss_cons ?g55 ?g56
              case g55 =>
                refine' ps_setc (i := 4) sc_solved.nd rfl lk_solved_4 rfl ?g57 rfl
                case g57 =>
                  refine' pe_comp (N' := ["column", "outcome"]) (ix := [none, some 3]) rfl rfl (scp_of ?g58) ?g59 (fun _ _ _ => ?g60) (fun _ _ _ => ?g61) (fun _ _ _ => ?g62)
                  case g58 => exact (by show scpB (defScope s_solved) ["grid", "other", "columns", "outcome", "bottoms"] _ _ _ = true; decide +kernel)
                  case g59 =>
                    refine' pi_listK (K := K) rfl ?g63
                    case g63 => exact pv1 2 rfl lk_solved_2
                  case g60 => exact pg_name1 (i := 0) (by show List.Nodup (["column", "outcome"] : List Str); decide +kernel) rfl rfl
                  case g61 => exact pf_nil
                  case g62 =>
                    refine' pe_op op_mulB ?g64 ?g65
                    case g64 =>
                      refine' pe_ix ix_tupH ?g66 ?g67 (fun _ _ => rfl)
                      case g66 => exact pvc 1 rfl rfl
                      case g67 => exact pe_int
                    case g65 =>
                      refine' pe_ix ix_tupH ?g68 ?g69 (fun _ _ => rfl)
                      case g68 => exact pv1 0 rfl rfl
                      case g69 => exact pe_int
              case g56 =>
                refine' pss_one ?g70
                case g70 =>
                  refine' ps_ret ?g71
                  case g71 =>
                    refine' pe_comp (N' := ["row", "bottoms"]) (ix := [none, some 4]) rfl rfl (scp_of ?g72) ?g73 (fun _ _ _ => ?g74) (fun _ _ _ => ?g75) (fun _ _ _ => ?g76)
                    case g72 => exact (by show scpB (defScope s_solved) ["grid", "other", "columns", "outcome", "bottoms"] _ _ _ = true; decide +kernel)
                    case g73 =>
                      refine' pi_listK (K := K) rfl ?g77
                      case g77 =>
                        refine' pe_ix ix_tupH ?g78 ?g79 (fun _ _ => rfl)
                        case g78 => exact pvc 3 rfl lk_solved_3
                        case g79 => exact pe_int
                    case g74 => exact pg_name1 (i := 0) (by show List.Nodup (["row", "bottoms"] : List Str); decide +kernel) rfl rfl
                    case g75 => exact pf_nil
                    case g76 =>
                      refine' pe_comp (N' := ["top", "bottom"]) (ix := [none, none]) rfl rfl (scp_of ?g80) ?g81 (fun _ _ _ => ?g82) (fun _ _ _ => ?g83) (fun _ _ _ => ?g84)
                      case g80 => exact (by show scpB (relS _ (defScope s_solved)) ["row", "bottoms"] _ _ _ = true; decide +kernel)
                      case g81 =>
                        refine' pi_zip (K := K) rfl rfl T.n_zip ?g85
                        case g85 =>
                          refine' pa_c ?g86 ?g87
                          case g86 => exact pv1 0 rfl rfl
                          case g87 =>
                            refine' pa_c ?g88 ?g89
                            case g88 => exact pvc 1 rfl rfl
                            case g89 => exact pa_nil
                      case g82 =>
                        refine' pg_tupK (K := K) (n := 2) rfl rfl ?g90
                        case g90 =>
                          refine' pgs_cons ?g91 ?g92
                          case g91 => exact pg_name1 (i := 0) (by show List.Nodup (["top", "bottom"] : List Str); decide +kernel) rfl rfl
                          case g92 =>
                            refine' pgs_cons ?g93 ?g94
                            case g93 => exact pg_name1 (i := 1) (by show List.Nodup (["top", "bottom"] : List Str); decide +kernel) rfl rfl
                            case g94 => exact pgs_nil
                      case g83 => exact pf_nil
                      case g84 =>
                        refine' pe_callD C_fraction (hr.mono (by decide)) rfl ?g95
                        case g95 =>
                          refine' pa_c ?g96 ?g97
                          case g96 => exact pv1 0 rfl rfl
                          case g97 =>
                            refine' pa_c ?g98 ?g99
                            case g98 => exact pv1 1 rfl rfl
                            case g99 => exact pa_nil
    case R =>
      walk_at "rd"
      refine ⟨u, o, c, rfl, hu, fun r hr => (hin.orow r hr).1, by (clear n12 k hdet hin hu hv hr C_fraction C_swept C_cleared_together C_cleared C_columns_of F T; omega), by rw [hin.ol]; (clear c3 c1 k hdet hin hu hv hr C_fraction C_swept C_cleared_together C_cleared C_columns_of F T; omega), fun x H1 s1 rep1 => ?_⟩
      obtain ⟨pc, xc, rfl, hpc, hxc⟩ := id rep1
      have lxc : xc.length = (cols o).length := by rw [hxc.length, List.length_map]
      have cco : (cols o).length ≤ 3 ∧ ∀ x ∈ cols o, x.length ≤ 16 ∧ ∀ p ∈ x, Sm p := by
        by_cases hn : 0 < n
        · obtain ⟨e1, e2, e3⟩ := hin.co hn
          exact ⟨by (clear e3 e1 hn lxc hxc hpc rep1 s1 n12 k hdet hin hu hv hr C_fraction C_swept C_cleared_together C_cleared C_columns_of F T; omega), fun x hx => ⟨by rw [(e3 x hx).1]; (clear hx e3 e2 e1 lxc hxc hpc rep1 s1 c3 c1 k hdet hin hu hv hr C_fraction C_swept C_cleared_together C_cleared C_columns_of F T; omega), (e3 x hx).2⟩⟩
        · have : o = [] := List.length_eq_zero_iff.mp (by rw [hin.ol]; (clear lxc hxc hpc rep1 s1 c3 c1 k hdet hin hu hv hr C_fraction C_swept C_cleared_together C_cleared C_columns_of F T; omega))
          subst this
          exact ⟨by show 0 ≤ 3; (clear lxc hxc rep1 k hin hu hn hpc s1 c3 c1 n12 hdet hv hr C_fraction C_swept C_cleared_together C_cleared C_columns_of F T; omega), fun x hx => by cases hx⟩
      try walk_at "rd"
      refine ⟨⟨xc, .inl (.inl hpc)⟩, ?_⟩
      refine comp_any (n := xc.length) (B := H1) (Pσ := fun σ => ∃ e, σ = [e]) (ds := (cols o).map dCol) (Same.refl _) ⟨_, rfl⟩ (by simp [lxc]) (by (clear hxc hpc rep1 s1 c3 c1 n12 k hdet hin hu hv hr C_fraction C_swept C_cleared_together C_cleared C_columns_of F T; omega)) (fun i H' hi s' => ⟨xc, xc[i], .inl (.inl (s' _ _ hpc)), by simp [hi]⟩) (fun H' s' => ⟨xc, .inl (.inl (s' _ _ hpc)), Nat.le_refl _⟩) ?_ ?_
      · rintro D i x d σ' H2 H2' hD hDo s2 hi hdi ⟨rfl, hy⟩ ⟨e, rfl⟩ R kR
        have hx := hy xc (.inl (.inl (s2 _ _ hpc)))
        obtain ⟨q, zs, r, hr0, rfl, hq, hzs⟩ := rep_rows hxc hx
        obtain ⟨r16, rsm⟩ := cco.2 r (List.mem_of_getElem? hr0)
        walk_at "rd"
        refine ⟨_, r, rfl, ⟨q, zs, rfl, s2 _ _ hq, Reps.mono s2 _ hzs⟩, rsm, r16, fun x3 H3 s3 rep3 => kR _ _ _ ⟨_, rfl⟩ s3 ?_⟩
        have : d = dCol r := by rw [List.getElem?_map, hr0] at hdi; exact (Option.some.inj hdi).symm
        rw [this]
        exact Rep.mono (new_cut s2 hDo) _ rep3
      · intro Dc H2 hDc s2 repc
        obtain ⟨_, ys, e, hD2, rys⟩ := Rep.mono newH_same _ repc
        cases e
        have lys : ys.length = (cols o).length := by rw [rys.length, List.length_map]
        have S2 := s1.trans s2
        refine ⟨Dc, rfl, ys, .inl hD2, ?_⟩
        by_cases hn : 0 < n
        · obtain ⟨e1, e2, e3⟩ := hin.co hn
          obtain ⟨l1, l2, l3⟩ := hin.lf hn
          have gl := hin.gl
          have al : (aug g (cols o)).length = n := by rw [aug_len, gl]
          rw [if_neg (by rw [lys, e2]; (clear al gl l3 l2 l1 e3 e1 hn S2 hD2 rys repc s2 hDc cco lxc hxc hpc rep1 s1 n12 k hdet hin hu hv hr C_fraction C_swept C_cleared_together C_cleared C_columns_of F T; omega))]
          refine ⟨v, .ref Dc, g, cols o, rfl, Rep.mono S2 _ hv, ⟨Dc, ys, rfl, hD2, rys⟩, by (clear l3 l2 l1 e3 e2 e1 S2 lys hD2 rys repc s2 hDc cco lxc hxc hpc rep1 s1 c3 c1 k hdet hin hu hv hr C_fraction C_swept C_cleared_together C_cleared C_columns_of F T; omega), by (clear al gl l3 l2 l1 e3 e1 hn S2 hD2 rys repc s2 hDc cco lxc hxc hpc rep1 s1 n12 k hdet hin hu hv hr C_fraction C_swept C_cleared_together C_cleared C_columns_of F T; omega), by rw [gl]; exact hin.gr, by rw [gl]; exact e3, fun x H3 s3 rep3 => ?_⟩
          refine ⟨x, aug g (cols o), n + c, 2080, rfl, rep3, by (clear rep3 s3 l3 l2 l1 e3 e1 hn S2 hD2 rys repc s2 hDc cco lxc hxc hpc rep1 s1 n12 k hdet hin hu hv hr C_fraction C_swept C_cleared_together C_cleared C_columns_of F T; omega), by (clear rep3 s3 l3 l2 l1 e3 e1 S2 hD2 rys repc s2 hDc cco lxc hxc hpc rep1 s1 k hdet hin hu hv hr C_fraction C_swept C_cleared_together C_cleared C_columns_of F T; omega), by (clear rep3 s3 l3 l2 l1 e3 e2 e1 S2 lys hD2 rys repc s2 hDc cco lxc hxc hpc rep1 s1 c3 c1 k hdet hin hu hv hr C_fraction C_swept C_cleared_together C_cleared C_columns_of F T; omega), l3, hin.mn hn, by (clear rep3 s3 al gl l3 l2 l1 e3 e2 e1 hn S2 lys hD2 rys repc s2 hDc cco lxc hxc hpc rep1 s1 c3 c1 n12 k hdet hin hu hv hr C_fraction C_swept C_cleared_together C_cleared C_columns_of F T; omega), fun y H4 left s4 hy repL fin => ?_⟩
          have dd := hin.dt hn
          have d0 := hdet hn
          rw [al] at hy repL fin
          rw [gl] at dd
          refine ⟨y, rfl, _, hy, _, atI_0, rfl, ?_⟩
          rw [dd]
          rw [if_neg (fun z => d0 (V.int.inj z))]
          try walk_at "rd"
          have hDc4 := s4 _ _ (s3 _ _ hD2)
          have rys4 := Reps.mono (s3.trans s4) _ rys
          have dbits := bits_of_le hin.dle
          obtain ⟨fl, frect, fle⟩ := fin (by rw [dd]; exact d0)
          rw [show n + c - n = c by (clear fle frect fl dbits rys4 hDc4 d0 dd fin repL hy s4 rep3 s3 al gl l3 l2 l1 e3 e1 hn S2 hD2 rys repc s2 hDc cco lxc hxc hpc rep1 s1 n12 k hdet hin hu hv hr C_fraction C_swept C_cleared_together C_cleared C_columns_of F T; omega)] at frect
          have e5 : solP g o = (sweepP n 1 (aug g (cols o))).2.map fun row => List.zipWith (fun t c => nf t (D n (ma (nums g)) * lcmB c)) row (cols o) := by unfold solP; rw [gl, dd]
          rw [dd] at hy
          generalize (sweepP n 1 (aug g (cols o))).2 = Lf at *
          generalize D n (ma (nums g)) = d at *
          refine ⟨⟨ys, .inl (.inl hDc4)⟩, ?_⟩
          have lcb : ∀ cc ∈ cols o, 0 < lcmB cc ∧ Builtin.Int.intBits (lcmB cc) ≤ 97 := fun cc hcc => by
            obtain ⟨a1, a2⟩ := cco.2 cc hcc
            have := bot_lcm a2
            exact ⟨this.pos, by have := this.bits; (clear a2 hcc e5 dbits d0 dd hy hdet fle frect fl fin repL k rys4 hDc4 s4 rep3 s3 al gl l3 l2 l1 e3 e2 e1 hn S2 lys hD2 rys repc s2 hDc cco lxc hxc hpc rep1 s1 c3 c1 n12 hin hu hv hr C_fraction C_swept C_cleared_together C_cleared C_columns_of F T; omega)⟩
          refine comp_any (n := ys.length) (B := H4) (Pσ := fun σ => ∃ e, σ = [e, some (.ref y)]) (ds := ((cols o).map fun cc => d * lcmB cc).map Dt.int) (Same.refl _) ⟨_, rfl⟩ (by simp [lys]) (by (clear lcb e5 dbits d0 dd hy hdet fle frect fl fin repL k rys4 hDc4 s4 rep3 s3 al gl l3 l2 l1 e3 e1 hn S2 hD2 rys repc s2 hDc cco lxc hxc hpc rep1 s1 n12 hin hu hv hr C_fraction C_swept C_cleared_together C_cleared C_columns_of F T; omega)) (fun i H' hi s' => ⟨ys, ys[i], .inl (.inl (s' _ _ hDc4)), by simp [hi]⟩) (fun H' s' => ⟨ys, .inl (.inl (s' _ _ hDc4)), Nat.le_refl _⟩) ?_ ?_
          · rintro D i x d2 σ' H5 H5' hD hDo s5 hi hdi ⟨rfl, hyy⟩ ⟨e, rfl⟩ R kR
            have hx := hyy ys (.inl (.inl (s5 _ _ hDc4)))
            obtain ⟨dc, hdc, rdc⟩ := rys4.of_get hx
            rw [List.getElem?_map] at hdc
            have hci : (cols o)[i]? = some ((cols o)[i]'(by (clear rdc hdc hx kR hyy s5 hDo hdi hD lcb e5 dbits d0 dd hy hdet fle frect fl fin repL k rys4 hDc4 s4 rep3 s3 al gl l3 l2 l1 e3 e2 e1 hn S2 hD2 rys repc s2 hDc cco lxc hxc hpc rep1 s1 c3 c1 n12 hin hu hv hr C_fraction C_swept C_cleared_together C_cleared C_columns_of F T; omega))) := List.getElem?_eq_getElem _
            have hcm := List.getElem_mem (show i < (cols o).length by (clear hci rdc hdc hx kR hyy s5 hDo hdi hD lcb e5 dbits d0 dd hy hdet fle frect fl fin repL k rys4 hDc4 s4 rep3 s3 al gl l3 l2 l1 e3 e2 e1 hn S2 hD2 rys repc s2 hDc cco lxc hxc hpc rep1 s1 c3 c1 n12 hin hu hv hr C_fraction C_swept C_cleared_together C_cleared C_columns_of F T; omega))
            generalize (cols o)[i]'(by (clear hcm hci rdc hdc hx kR hyy s5 hDo hdi hD lcb e5 dbits d0 dd hy hdet fle frect fl fin repL k rys4 hDc4 s4 rep3 s3 al gl l3 l2 l1 e3 e2 e1 hn S2 hD2 rys repc s2 hDc cco lxc hxc hpc rep1 s1 c3 c1 n12 hin hu hv hr C_fraction C_swept C_cleared_together C_cleared C_columns_of F T; omega)) = cc at hci hcm
            rw [hci] at hdc
            cases hdc
            obtain ⟨tc, qc, rfl, htc, hqc⟩ := rep_clr (ns := tops cc (lcmB cc)) (L := lcmB cc) rdc
            have lb := (lcb cc hcm).2
            have hd2 : d2 = .int (d * lcmB cc) := by
              rw [List.getElem?_map, List.getElem?_map, hci] at hdi
              exact (Option.some.inj hdi).symm
            walk_at "rd"
            refine ⟨_, s5 _ _ hy, _, atI_0, _, s5 _ _ htc, _, atI_1, _, rfl, _, rfl, by (clear hd2 hqc htc rdc hx hyy hcm hci kR s5 hDo hdi hi hD lcb e5 d0 dd hy hdet fle frect fl fin repL k rys4 hDc4 s4 rep3 s3 al gl l3 l2 l1 e3 e2 e1 hn S2 lys hD2 rys repc s2 hDc cco lxc hxc hpc rep1 s1 c3 c1 n12 hin hu hv hr C_fraction C_swept C_cleared_together C_cleared C_columns_of F T; omega), kR _ _ _ ⟨_, rfl⟩ (Same.refl _) ?_⟩
            rw [hd2]
            rfl
          · intro Db H5 hDb s5 repb
            obtain ⟨_, bs, eD, hDD, hbs⟩ := Rep.mono newH_same _ repb
            cases eD
            have e3' := reps_ints hbs
            subst e3'
            obtain ⟨pl, xl, rfl, hpl, hxl⟩ := id repL
            have hpl5 := s5 _ _ hpl
            have hxl5 := Reps.mono s5 _ hxl
            have lxl : xl.length = Lf.length := by rw [hxl.length, List.length_map]
            refine ⟨_, s5 _ _ hy, _, atI_1, pl, rfl, ⟨xl, .inl (.inl hpl5)⟩, ?_⟩
            refine comp_any (n := xl.length) (B := H5) (Pσ := fun σ => ∃ e, σ = [e, some (.ref Db)]) (ds := (solP g o).map dRow) (Same.refl _) ⟨_, rfl⟩ (by rw [e5]; simp [lxl]) (by (clear hxl5 hpl5 hxl hpl hy repL hDD hbs repb s5 hDb lcb e5 dbits d0 dd hdet fle frect fin k rys4 hDc4 s4 rep3 s3 l3 l2 l1 e3 e2 e1 S2 lys hD2 rys repc s2 hDc cco lxc hxc hpc rep1 s1 c3 c1 hin hu hv hr C_fraction C_swept C_cleared_together C_cleared C_columns_of F T; omega)) (fun i H' hi s' => ⟨xl, xl[i], .inl (.inl (s' _ _ hpl5)), by simp [hi]⟩) (fun H' s' => ⟨xl, .inl (.inl (s' _ _ hpl5)), Nat.le_refl _⟩) ?_ (fun D H6 hD s6 rep => k _ _ (((S2.trans s3).trans s4).trans (s5.trans s6)) (Rep.mono newH_same _ rep) fun _ => ⟨fl, frect, fle⟩)
            rintro D i x dr σ' H6 H6' hD hDo s6 hi hdi ⟨rfl, hyy⟩ ⟨e, rfl⟩ R kR
            have hx := hyy xl (.inl (.inl (s6 _ _ hpl5)))
            obtain ⟨q, row, hr0, rfl, hq⟩ := rep_mat hxl5 hx
            have rm := List.mem_of_getElem? hr0
            have rl : row.length = c := frect.w row rm
            have hdr : dr = dRow (List.zipWith (fun t c => nf t (d * lcmB c)) row (cols o)) := by
              rw [List.getElem?_map, e5, List.getElem?_map, hr0] at hdi
              exact (Option.some.inj hdi).symm
            have hq6 := s6 _ _ hq
            have hb6 := s6 _ _ hDD
            walk_at "rd"
            refine ⟨⟨_, .inl (.inl hq6)⟩, ⟨_, .inl (.inl hb6)⟩, ?_⟩
            refine comp_any (n := c) (B := _) (Pσ := fun σ => ∃ a b, σ = [a, b]) (ds := (List.zipWith (fun t c => nf t (d * lcmB c)) row (cols o)).map dF) (Same.refl _) ⟨_, _, rfl⟩ (by simp [rl, e2]) (by (clear hb6 hq6 hdr rm hx hyy hq hr0 kR s6 hDo hdi hi hD lxl hxl5 hpl5 hxl hpl hy repL hDD hbs repb s5 hDb lcb e5 dbits d0 dd hdet fle frect fl fin k rys4 hDc4 s4 rep3 s3 al gl l3 l2 l1 e3 e1 hn S2 hD2 rys repc s2 hDc cco lxc hxc hpc rep1 s1 n12 hin hu hv hr C_fraction C_swept C_cleared_together C_cleared C_columns_of F T; omega))
              (fun j H' hj s' => ⟨_, _, .int (row[j]'(by (clear s' hb6 hq6 hdr rm hx hyy hq hr0 kR s6 hDo hdi hi hD lxl hxl5 hpl5 hxl hpl hy repL hDD hbs repb s5 hDb lcb e5 dbits d0 dd hdet fle frect fl fin k rys4 hDc4 s4 rep3 s3 al gl l3 l2 l1 e3 e1 hn S2 hD2 rys repc s2 hDc cco lxc hxc hpc rep1 s1 c3 c1 n12 hin hu hv hr C_fraction C_swept C_cleared_together C_cleared C_columns_of F T; omega))), .int (d * lcmB ((cols o)[j]'(by (clear s' hb6 hq6 hdr rm hx hyy hq hr0 kR s6 hDo hdi hi hD lxl hxl5 hpl5 hxl hpl hy repL hDD hbs repb s5 hDb lcb e5 dbits d0 dd hdet fle frect fl fin k rys4 hDc4 s4 rep3 s3 al gl l3 l2 l1 e3 e1 hn S2 hD2 rys repc s2 hDc cco lxc hxc hpc rep1 s1 c3 c1 n12 hin hu hv hr C_fraction C_swept C_cleared_together C_cleared C_columns_of F T; omega)))), .inl (.inl (s' _ _ hq6)), .inl (.inl (s' _ _ hb6)), by simp [show j < row.length by (clear s' hb6 hq6 hdr rm hx hyy hq hr0 kR s6 hDo hdi hi hD lxl hxl5 hpl5 hxl hpl hy repL hDD hbs repb s5 hDb lcb e5 dbits d0 dd hdet fle frect fl fin k rys4 hDc4 s4 rep3 s3 al gl l3 l2 l1 e3 e1 hn S2 hD2 rys repc s2 hDc cco lxc hxc hpc rep1 s1 c3 c1 n12 hin hu hv hr C_fraction C_swept C_cleared_together C_cleared C_columns_of F T; omega)], by simp [show j < (cols o).length by (clear s' hb6 hq6 hdr rm hx hyy hq hr0 kR s6 hDo hdi hi hD lxl hxl5 hpl5 hxl hpl hy repL hDD hbs repb s5 hDb lcb e5 dbits d0 dd hdet fle frect fl fin k rys4 hDc4 s4 rep3 s3 al gl l3 l2 l1 e3 e1 hn S2 hD2 rys repc s2 hDc cco lxc hxc hpc rep1 s1 c3 c1 n12 hin hu hv hr C_fraction C_swept C_cleared_together C_cleared C_columns_of F T; omega)]⟩) (fun H' s' => ⟨_, _, .inl (.inl (s' _ _ hq6)), .inl (.inl (s' _ _ hb6)), .inl (by simp [rl])⟩) ?_ ?_
            · rintro D2 j x2 d2 σ2 H7 H7' hD2' hDo2 s7 hj hdj ⟨t, xx, yy, rfl, hT, rfl, hxx, hyy2⟩ ⟨a1, a2, rfl⟩ R2 kR2
              have hx' := hxx _ (.inl (.inl (s7 _ _ hq6)))
              have hy' := hyy2 _ (.inl (.inl (s7 _ _ hb6)))
              have r1 : row[j]? = some (row[j]'(by (clear hy' hx' kR2 hyy2 hxx hT hdj s7 hDo2 hD2' hb6 hq6 hdr rm hx hyy hq hr0 kR s6 hDo hdi hi hD lxl hxl5 hpl5 hxl hpl hy repL hDD hbs repb s5 hDb lcb e5 dbits d0 dd hdet fle frect fl fin k rys4 hDc4 s4 rep3 s3 al gl l3 l2 l1 e3 e1 hn S2 hD2 rys repc s2 hDc cco lxc hxc hpc rep1 s1 c3 c1 n12 hin hu hv hr C_fraction C_swept C_cleared_together C_cleared C_columns_of F T; omega))) := List.getElem?_eq_getElem _
              have r2 : (cols o)[j]? = some ((cols o)[j]'(by (clear r1 hy' hx' kR2 hyy2 hxx hT hdj s7 hDo2 hD2' hb6 hq6 hdr rm hx hyy hq hr0 kR s6 hDo hdi hi hD lxl hxl5 hpl5 hxl hpl hy repL hDD hbs repb s5 hDb lcb e5 dbits d0 dd hdet fle frect fl fin k rys4 hDc4 s4 rep3 s3 al gl l3 l2 l1 e3 e1 hn S2 hD2 rys repc s2 hDc cco lxc hxc hpc rep1 s1 c3 c1 n12 hin hu hv hr C_fraction C_swept C_cleared_together C_cleared C_columns_of F T; omega))) := List.getElem?_eq_getElem _
              have m1 := List.getElem_mem (show j < row.length by (clear r2 r1 hy' hx' kR2 hyy2 hxx hT hdj s7 hDo2 hD2' hb6 hq6 hdr rm hx hyy hq hr0 kR s6 hDo hdi hi hD lxl hxl5 hpl5 hxl hpl hy repL hDD hbs repb s5 hDb lcb e5 dbits d0 dd hdet fle frect fl fin k rys4 hDc4 s4 rep3 s3 al gl l3 l2 l1 e3 e1 hn S2 hD2 rys repc s2 hDc cco lxc hxc hpc rep1 s1 c3 c1 n12 hin hu hv hr C_fraction C_swept C_cleared_together C_cleared C_columns_of F T; omega))
              have m2 := List.getElem_mem (show j < (cols o).length by (clear m1 r2 r1 hy' hx' kR2 hyy2 hxx hT hdj s7 hDo2 hD2' hb6 hq6 hdr rm hx hyy hq hr0 kR s6 hDo hdi hi hD lxl hxl5 hpl5 hxl hpl hy repL hDD hbs repb s5 hDb lcb e5 dbits d0 dd hdet fle frect fl fin k rys4 hDc4 s4 rep3 s3 al gl l3 l2 l1 e3 e1 hn S2 hD2 rys repc s2 hDc cco lxc hxc hpc rep1 s1 c3 c1 n12 hin hu hv hr C_fraction C_swept C_cleared_together C_cleared C_columns_of F T; omega))
              have hd2 : d2 = dF (nf (row[j]'(by (clear m2 m1 r2 r1 hy' hx' kR2 hyy2 hxx hT hdj s7 hDo2 hD2' hb6 hq6 hdr rm hx hyy hq hr0 kR s6 hDo hdi hi hD lxl hxl5 hpl5 hxl hpl hy repL hDD hbs repb s5 hDb lcb e5 dbits d0 dd hdet fle frect fl fin k rys4 hDc4 s4 rep3 s3 al gl l3 l2 l1 e3 e1 hn S2 hD2 rys repc s2 hDc cco lxc hxc hpc rep1 s1 c3 c1 n12 hin hu hv hr C_fraction C_swept C_cleared_together C_cleared C_columns_of F T; omega))) (d * lcmB ((cols o)[j]'(by (clear m2 m1 r2 r1 hy' hx' kR2 hyy2 hxx hT hdj s7 hDo2 hD2' hb6 hq6 hdr rm hx hyy hq hr0 kR s6 hDo hdi hi hD lxl hxl5 hpl5 hxl hpl hy repL hDD hbs repb s5 hDb lcb e5 dbits d0 dd hdet fle frect fl fin k rys4 hDc4 s4 rep3 s3 al gl l3 l2 l1 e3 e1 hn S2 hD2 rys repc s2 hDc cco lxc hxc hpc rep1 s1 c3 c1 n12 hin hu hv hr C_fraction C_swept C_cleared_together C_cleared C_columns_of F T; omega))))) := by
                rw [List.getElem?_map, List.getElem?_zipWith, r1, r2] at hdj
                exact (Option.some.inj hdj).symm
              rw [List.getElem?_map, r1] at hx'
              rw [List.getElem?_map, List.getElem?_map, r2] at hy'
              generalize row[j]'(by (clear hd2 m2 m1 r2 r1 hy' hx' kR2 hyy2 hxx hT hdj s7 hDo2 hD2' hb6 hq6 hdr rm hx hyy hq hr0 kR s6 hDo hdi hi hD lxl hxl5 hpl5 hxl hpl hy repL hDD hbs repb s5 hDb lcb e5 dbits d0 dd hdet fle frect fl fin k rys4 hDc4 s4 rep3 s3 al gl l3 l2 l1 e3 e1 hn S2 hD2 rys repc s2 hDc cco lxc hxc hpc rep1 s1 c3 c1 n12 hin hu hv hr C_fraction C_swept C_cleared_together C_cleared C_columns_of F T; omega)) = tt at *
              generalize (cols o)[j]'(by (clear hd2 m1 r1 hx' m2 r2 hy' kR2 hyy2 hxx hT hdj s7 hDo2 hD2' hb6 hq6 hdr rm hx hyy hq hr0 kR s6 hDo hdi hi hD lxl hxl5 hpl5 hxl hpl hy repL hDD hbs repb s5 hDb lcb e5 dbits d0 dd hdet fle frect fl fin k rys4 hDc4 s4 rep3 s3 al gl l3 l2 l1 e3 e1 hn S2 hD2 rys repc s2 hDc cco lxc hxc hpc rep1 s1 c3 c1 n12 hin hu hv hr C_fraction C_swept C_cleared_together C_cleared C_columns_of F T; omega)) = cc at *
              obtain rfl : V.int tt = xx := Option.some.inj hx'
              obtain rfl : V.int (d * lcmB cc) = yy := Option.some.inj hy'
              obtain ⟨lc0, lcb2⟩ := lcb cc m2
              have tb := bits_of_le (fle row rm tt m1)
              have db2 := PyProof.Rows.bits_mul dbits lcb2
              have S8 : Same H7 (upd H7 t (HO.tup [.int tt, .int (d * lcmB cc)])) := Same.new hT
              walk_at "rd"
              refine ⟨_, .inl (.inl upd_same), rfl, _, _, rfl, _, _, rfl, rfl, ?_⟩
              try walk_at "rd"
              refine ⟨tt, d * lcmB cc, rfl, Int.mul_ne_zero d0 (by (clear S8 db2 tb lcb2 hy' hyy2 hx' hxx hd2 m2 r2 m1 r1 kR2 hT hdj hj s7 hDo2 hD2' hb6 hq6 hdr rl rm hx hyy hq hr0 kR s6 hDo hdi hi hD lxl hxl5 hpl5 hxl hpl hy repL hDD hbs repb s5 hDb lcb e5 dbits d0 dd hdet fle frect fl fin k rys4 hDc4 s4 rep3 s3 al gl l3 l2 l1 e3 e2 e1 hn S2 lys hD2 rys repc s2 hDc cco lxc hxc hpc rep1 s1 c3 c1 n12 hin hu hv hr C_fraction C_swept C_cleared_together C_cleared C_columns_of F T; omega)), by (clear S8 db2 lcb2 lc0 hy' hyy2 hx' hxx hd2 m2 r2 m1 r1 kR2 hT hdj hj s7 hDo2 hD2' hb6 hq6 hdr rl rm hx hyy hq hr0 kR s6 hDo hdi hi hD lxl hxl5 hpl5 hxl hpl hy repL hDD hbs repb s5 hDb lcb e5 dbits d0 dd hdet fle frect fl fin k rys4 hDc4 s4 rep3 s3 al gl l3 l2 l1 e3 e2 e1 hn S2 lys hD2 rys repc s2 hDc cco lxc hxc hpc rep1 s1 c3 c1 n12 hin hu hv hr C_fraction C_swept C_cleared_together C_cleared C_columns_of F T; omega), by (clear S8 tb lcb2 lc0 hy' hyy2 hx' hxx hd2 m2 r2 m1 r1 kR2 hT hdj hj s7 hDo2 hD2' hb6 hq6 hdr rl rm hx hyy hq hr0 kR s6 hDo hdi hi hD lxl hxl5 hpl5 hxl hpl hy repL hDD hbs repb s5 hDb lcb e5 dbits d0 dd hdet fle frect fl fin k rys4 hDc4 s4 rep3 s3 al gl l3 l2 l1 e3 e2 e1 hn S2 lys hD2 rys repc s2 hDc cco lxc hxc hpc rep1 s1 c3 c1 n12 hin hu hv hr C_fraction C_swept C_cleared_together C_cleared C_columns_of F T; omega), fun pz Hz sz nz hz => kR2 _ _ _ ⟨_, _, rfl⟩ (S8.trans sz) ?_⟩
              rw [hd2]
              obtain ⟨oD, hoD⟩ := hDo2
              have pD : pz ≠ D2 := (ne_of_none (S8 _ _ hoD) nz).symm
              exact ⟨pz, _, rfl, by rw [cutH_at pD (s7.free (S8.free nz))]; exact hz, _, _, rfl, rfl, _, _, rfl, rfl, rfl⟩
            · intro D2 H7 hD2' s7 rep7
              refine kR _ _ _ ⟨_, rfl⟩ s7 ?_
              rw [hdr]
              exact Rep.mono (new_cut s6 hDo) _ rep7
        · have e0 : o = [] := List.length_eq_zero_iff.mp (by rw [hin.ol]; (clear S2 lys hD2 rys repc s2 hDc cco lxc hxc hpc rep1 s1 c3 c1 k hdet hin hu hv hr C_fraction C_swept C_cleared_together C_cleared C_columns_of F T; omega))
          have g0 : g = [] := List.length_eq_zero_iff.mp (by rw [hin.gl]; (clear e0 S2 lys hD2 rys repc s2 hDc cco lxc hxc hpc rep1 s1 c3 c1 k hdet hin hu hv hr C_fraction C_swept C_cleared_together C_cleared C_columns_of F T; omega))
          subst e0 g0
          rw [if_pos (by rw [lys]; rfl)]
          obtain ⟨po, xo, rfl, hpo, hxo⟩ := id hu
          cases hxo
          have hpo2 := S2 _ _ hpo
          refine ⟨po, rfl, ⟨[], .inl (.inl hpo2)⟩, ?_⟩
          refine comp_any (n := 0) (B := fun _ => none) (Pσ := fun σ => True) (ds := []) (fun b o e => by cases e) trivial rfl (by (clear hpo2 hpo hu k hin hdet hv lys rys repc cco lxc hxc rep1 hn S2 hD2 s2 hDc hpc s1 c3 c1 n12 hr C_fraction C_swept C_cleared_together C_cleared C_columns_of F T; omega)) (fun i H' hi s' => by (clear s' hpo2 hpo hu k hin hdet hv lys rys repc cco lxc hxc rep1 hn S2 hD2 s2 hDc hpc s1 c3 c1 n12 hr C_fraction C_swept C_cleared_together C_cleared C_columns_of F T; omega)) (fun H' s' => ⟨[], .inl (.inl (s' _ _ hpo2)), Nat.le_refl _⟩) (fun D i x d σ' H' H'' hD hDo s' hi => by (clear s' hDo hD hpo2 hpo hu k hin hdet hv lys rys repc cco lxc hxc rep1 hn S2 hD2 s2 hDc hpc s1 c3 c1 n12 hr C_fraction C_swept C_cleared_together C_cleared C_columns_of F T; omega)) ?_
          intro D H3 hD s3 rep
          exact k _ _ (S2.trans s3) rep fun h => absurd h hn
noncomputable def sp_solvR (CA : Addr) : Sp := fun vs H _ E => ∃ (v u : V) (g o : List (List (Int × Int))) (n c : Nat), vs = [v, u] ∧ Rep H v (.lst (g.map dRow)) ∧ Rep H u (.lst (o.map dRow)) ∧ In g o n c ∧ 0 < n ∧ D n (ma (nums g)) = 0 ∧ ∀ H', Same H H' → E (.ref CA) none H'
theorem rok_solved (T : Txt K mg) (EX : Exs K mg CR CA CN CP CW) (F : Fn0 K mg "solved" s_solved) (C_columns_of : Cal P w K mg base "columns_of" ["grid"] 1 sp_cols) (C_cleared : Cal P w K mg base "cleared" ["entries"] 3 sp_cleared) (C_cleared_together : Cal P w K mg base "cleared_together" ["grid", "columns"] 4 sp_ct) (C_swept : Cal P w K mg base "swept" ["rows"] 2 sp_swp) : CalR P w K mg base "solved" ["grid", "other"] 5 (sp_solvR CA) := by
  refine calR_of F sc_solved (fun _ _ _ _ _ _ us hl => match us, hl with | [_, _], _ => rfl) ?len ?body
  case len => rintro vs H Q E ⟨a, b, c, d, e, f, rfl, _⟩; rfl
  case body =>
    intro f cdv A outer s H vs Q E hr h
    obtain ⟨v, u, g, o, n, c, rfl, hv, hu, hin, hn, hdet, k⟩ := h
    have n12 := hin.n12
    have c1 := hin.c1
    have c3 := hin.c3
    refine' ⟨_, ?D, ?R⟩
    case D =>
      refine' pss_cons ?g1 ?g2
      case g1 =>
        refine' ps_nox ?g3
        case g3 =>
          refine' ps_comp (i := 2) (N' := ["column"]) (ix := [none]) rfl rfl sc_solved.nd rfl lk_solved_2 rfl (scp_of ?g4) ?g5 (fun _ _ _ => ?g6) (fun _ _ _ => ?g7) (fun _ _ _ => ?g8)
          case g4 => exact (by show scpB (defScope s_solved) ["grid", "other", "columns", "outcome", "bottoms"] _ _ _ = true; decide +kernel)
          case g5 =>
            refine' pi_listK (K := K) rfl ?g9
            case g9 =>
              refine' pe_callD C_columns_of (hr.mono (by decide)) gk_solved_columns_of ?g10
              case g10 =>
                refine' pa_c ?g11 ?g12
                case g11 => exact pv1 1 rfl lk_solved_1
                case g12 => exact pa_nil
          case g6 => exact pg_name1 (i := 0) (by show List.Nodup (["column"] : List Str); decide +kernel) rfl rfl
          case g7 => exact pf_nil
          case g8 =>
            refine' pe_callD C_cleared (hr.mono (by decide)) rfl ?g13
            case g13 =>
              refine' pa_c ?g14 ?g15
              case g14 => exact pv1 0 rfl rfl
              case g15 => exact pa_nil
      case g2 =>
        refine' pss_cons ?g16 ?g17
        case g16 =>
          refine' ps_if ?g18 ?g19 ?g20
          case g18 =>
            refine' pt_cmpR op_eq ?g21 ?g22 (nomark _)
            case g21 =>
              refine' pe_callE call_lenH gk_solved_len T.n_len bt_len ?g23
              case g23 =>
                refine' pa_c ?g24 ?g25
                case g24 => exact pv1 2 rfl lk_solved_2
                case g25 => exact pa_nil
            case g22 => exact pe_int
          case g19 =>
            refine' pss_one ?g26
            case g26 => exact ps_never
          case g20 => exact pss_nil
        case g17 =>
          refine' pss_cons ?g27 ?g28
          case g27 =>
            refine' ps_nox ?g29
            case g29 =>
              refine' ps_setc (i := 3) sc_solved.nd rfl lk_solved_3 rfl ?g30 rfl
              case g30 =>
                refine' pe_callD C_swept (hr.mono (by decide)) gk_solved_swept ?g31
                case g31 =>
                  refine' pa_c ?g32 ?g33
                  case g32 =>
                    refine' pe_callD C_cleared_together (hr.mono (by decide)) gk_solved_cleared_together ?g34
                    case g34 =>
                      refine' pa_c ?g35 ?g36
                      case g35 => exact pv1 0 rfl lk_solved_0
                      case g36 =>
                        refine' pa_c ?g37 ?g38
                        case g37 => exact pv1 2 rfl lk_solved_2
                        case g38 => exact pa_nil
                  case g33 => exact pa_nil
          case g28 =>
            refine' pss_cons ?g39 ?g40
            case g39 =>
              refine' ps_if ?g41 ?g42 ?g43
              case g41 =>
                refine' pt_cmpR op_eq ?g44 ?g45 (nomark _)
                case g44 =>
                  refine' pe_ix ix_tupH ?g46 ?g47 (fun _ _ => rfl)
                  case g46 => exact pvc 3 rfl lk_solved_3
                  case g47 => exact pe_int
                case g45 => exact pe_int
              case g42 =>
                refine' pss_one ?g48
                case g48 =>
                  refine' ps_raise EX.own_NoAnswer EX.m_NoAnswer hr.hd gk_solved_NoAnswer ?g49
                  case g49 =>
                    refine' pa_c ?g50 ?g51
                    case g50 => exact pe_str
                    case g51 => exact pa_nil
              case g43 => exact pss_nil
            case g40 => exact pss_never
    case R =>
      walk_at "rd"
      refine ⟨u, o, c, rfl, hu, fun r hr => (hin.orow r hr).1, by (clear n12 k hdet hn hin hu hv hr C_swept C_cleared_together C_cleared C_columns_of F EX T; omega), by rw [hin.ol]; (clear c3 c1 k hdet hin hu hv hr C_swept C_cleared_together C_cleared C_columns_of F EX T; omega), fun x H1 s1 rep1 => ?_⟩
      obtain ⟨pc, xc, rfl, hpc, hxc⟩ := id rep1
      have lxc : xc.length = (cols o).length := by rw [hxc.length, List.length_map]
      obtain ⟨e1, e2, e3⟩ := hin.co hn
      try walk_at "rd"
      refine ⟨⟨xc, .inl (.inl hpc)⟩, ?_⟩
      refine comp_any (n := xc.length) (B := H1) (Pσ := fun σ => ∃ e, σ = [e]) (ds := (cols o).map dCol) (Same.refl _) ⟨_, rfl⟩ (by simp [lxc]) (by (clear e3 e1 hxc hpc rep1 s1 n12 k hdet hn hin hu hv hr C_swept C_cleared_together C_cleared C_columns_of F EX T; omega)) (fun i H' hi s' => ⟨xc, xc[i], .inl (.inl (s' _ _ hpc)), by simp [hi]⟩) (fun H' s' => ⟨xc, .inl (.inl (s' _ _ hpc)), Nat.le_refl _⟩) ?_ ?_
      · rintro D i x d σ' H2 H2' hD hDo s2 hi hdi ⟨rfl, hy⟩ ⟨e, rfl⟩ R kR
        have hx := hy xc (.inl (.inl (s2 _ _ hpc)))
        obtain ⟨q, zs, r, hr0, rfl, hq, hzs⟩ := rep_rows hxc hx
        obtain ⟨r16, rsm⟩ := e3 r (List.mem_of_getElem? hr0)
        walk_at "rd"
        refine ⟨_, r, rfl, ⟨q, zs, rfl, s2 _ _ hq, Reps.mono s2 _ hzs⟩, rsm, by (clear rsm hzs hq hx hy hr0 kR s2 hDo hdi hi hD e3 e2 e1 lxc hxc hpc rep1 s1 c3 c1 k hdet hin hu hv hr C_swept C_cleared_together C_cleared C_columns_of F EX T; omega), fun x3 H3 s3 rep3 => kR _ _ _ ⟨_, rfl⟩ s3 ?_⟩
        have : d = dCol r := by rw [List.getElem?_map, hr0] at hdi; exact (Option.some.inj hdi).symm
        rw [this]
        exact Rep.mono (new_cut s2 hDo) _ rep3
      · intro Dc H2 hDc s2 repc
        obtain ⟨_, ys, e, hD2, rys⟩ := Rep.mono newH_same _ repc
        cases e
        have lys : ys.length = (cols o).length := by rw [rys.length, List.length_map]
        have S2 := s1.trans s2
        obtain ⟨l1, l2, l3⟩ := hin.lf hn
        have gl := hin.gl
        have al : (aug g (cols o)).length = n := by rw [aug_len, gl]
        refine ⟨Dc, rfl, ys, .inl hD2, ?_⟩
        rw [if_neg (by rw [lys, e2]; (clear al gl l3 l2 l1 S2 hD2 rys repc s2 hDc e3 e1 lxc hxc hpc rep1 s1 n12 k hdet hn hin hu hv hr C_swept C_cleared_together C_cleared C_columns_of F EX T; omega))]
        try walk_at "rd"
        refine ⟨v, .ref Dc, g, cols o, rfl, Rep.mono S2 _ hv, ⟨Dc, ys, rfl, hD2, rys⟩, by (clear l3 l2 l1 S2 lys hD2 rys repc s2 hDc e3 e2 e1 lxc hxc hpc rep1 s1 c3 c1 k hdet hin hu hv hr C_swept C_cleared_together C_cleared C_columns_of F EX T; omega), by (clear al gl l3 l2 l1 S2 hD2 rys repc s2 hDc e3 e1 lxc hxc hpc rep1 s1 n12 k hdet hn hin hu hv hr C_swept C_cleared_together C_cleared C_columns_of F EX T; omega), by rw [gl]; exact hin.gr, by rw [gl]; exact e3, fun x H3 s3 rep3 => ?_⟩
        refine ⟨x, aug g (cols o), n + c, 2080, rfl, rep3, by (clear rep3 s3 l3 l2 l1 S2 hD2 rys repc s2 hDc e3 e1 lxc hxc hpc rep1 s1 n12 k hdet hn hin hu hv hr C_swept C_cleared_together C_cleared C_columns_of F EX T; omega), by (clear rep3 s3 l3 l2 l1 S2 hD2 rys repc s2 hDc e3 e1 lxc hxc hpc rep1 s1 k hdet hin hu hv hr C_swept C_cleared_together C_cleared C_columns_of F EX T; omega), by (clear rep3 s3 l3 l2 l1 S2 lys hD2 rys repc s2 hDc e3 e2 e1 lxc hxc hpc rep1 s1 c3 c1 k hdet hin hu hv hr C_swept C_cleared_together C_cleared C_columns_of F EX T; omega), l3, hin.mn hn, by (clear rep3 s3 al gl l3 l2 l1 S2 lys hD2 rys repc s2 hDc e3 e2 e1 lxc hxc hpc rep1 s1 c3 c1 n12 k hdet hn hin hu hv hr C_swept C_cleared_together C_cleared C_columns_of F EX T; omega), fun y H4 left s4 hy repL fin => ?_⟩
        have dd := hin.dt hn
        rw [al] at hy
        rw [gl] at dd
        rw [dd, hdet] at hy
        try walk_at "rd"
        refine ⟨_, hy, _, atI_0, rfl, ?_⟩
        rw [if_pos rfl]
        exact ⟨by decide, k _ ((S2.trans s3).trans s4)⟩
end Rim5
set_option Elab.async false
set_option linter.all false
set_option maxRecDepth 100000
set_option maxHeartbeats 4000000
namespace Rim5
open PySem PySem.Spec PyProof.Rows L2 RimM RimD
local macro_rules | `(tactic| walk_at "rd") => `(tactic| first | (dsimp only [tSeq, tAsg, gName, tTup, tLst, tCons, tNil, tVar, tC, tCB, tOp, rI, rI0, tTest, tIfS, tNext, tRet, tRetN, tDrop, tB, tAnd, tOr, tNot, tAndV, tOrV, tNotV, rU, tUn, tBM0, tBM, rBits, tCall, L2.start, rIxTH, rIxLH, rLenH, rEqTH, rEq, rNe, scal, tyV, CMul, CMulB, CDivB, CDivF, CPow, List.map_cons, List.map_nil, List.length_cons, List.length_nil, List.replicate, List.cons_append, List.nil_append, List.set_cons_zero, List.set_cons_succ, List.getElem?_cons_zero, List.getElem?_cons_succ, gSub, rSetL, rCat, iRng1, tPar, iList, tComp, pick, tYes, iZip, gTup, gCons, gNil, rSum, rListH, List.map, iRng2, iRngD, tSl, rSlH, tPart, tNoPart, tPar3]; try simp only [tSeq, tAsg, gName, tTup, tLst, tCons, tNil, tVar, tC, tCB, tOp, rI, rI0, tTest, tIfS, tNext, tRet, tRetN, tDrop, tB, tAnd, tOr, tNot, tAndV, tOrV, tNotV, rU, tUn, tBM0, tBM, rBits, tCall, L2.start, rIxTH, rIxLH, rLenH, rEqTH, rEq, rNe, scal, tyV, CMul, CMulB, CDivB, CDivF, CPow, List.map_cons, List.map_nil, List.length_cons, List.length_nil, List.replicate, List.cons_append, List.nil_append, List.append_nil, List.set_cons_zero, List.set_cons_succ, List.getElem?_cons_zero, List.getElem?_cons_succ, Option.some.injEq, List.cons.injEq, V.int.injEq, V.bl.injEq, V.str.injEq, V.ref.injEq, V.ty.injEq, HO.tup.injEq, HO.lst.injEq, exists_eq_left, exists_eq_left', exists_and_left, and_assoc, and_true, true_and, upd_same, atI_0, atI_1, atI_2, Nat.zero_add, Nat.reduceAdd, Nat.reduceSub, decide_eq_true_eq, Bool.not_eq_true', decide_eq_false_iff_not, reduceCtorEq, false_or, or_false, true_or, or_true, plainT_int, plainT_bool, plainT_tuple, plainT_list, plainT_str, Bool.false_eq_true, if_false, if_true, Bool.not_false, Bool.not_true, Bool.not_not, gSub, rSetL, ixN_00, upd_upd, rCat, iRng1, tFor_eq, tPar, iList, tComp, pick, tYes, iZip, gTup, gCons, gNil, rSum, rListH, List.map, Option.bind, iRng2, iRngD, tSl, rSlH, tPart, tNoPart, tPar3]) | simp only [tSeq, tAsg, gName, tTup, tLst, tCons, tNil, tVar, tC, tCB, tOp, rI, rI0, tTest, tIfS, tNext, tRet, tRetN, tDrop, tB, tAnd, tOr, tNot, tAndV, tOrV, tNotV, rU, tUn, tBM0, tBM, rBits, tCall, L2.start, rIxTH, rIxLH, rLenH, rEqTH, rEq, rNe, scal, tyV, CMul, CMulB, CDivB, CDivF, CPow, List.map_cons, List.map_nil, List.length_cons, List.length_nil, List.replicate, List.cons_append, List.nil_append, List.append_nil, List.set_cons_zero, List.set_cons_succ, List.getElem?_cons_zero, List.getElem?_cons_succ, Option.some.injEq, List.cons.injEq, V.int.injEq, V.bl.injEq, V.str.injEq, V.ref.injEq, V.ty.injEq, HO.tup.injEq, HO.lst.injEq, exists_eq_left, exists_eq_left', exists_and_left, and_assoc, and_true, true_and, upd_same, atI_0, atI_1, atI_2, Nat.zero_add, Nat.reduceAdd, Nat.reduceSub, decide_eq_true_eq, Bool.not_eq_true', decide_eq_false_iff_not, reduceCtorEq, false_or, or_false, true_or, or_true, plainT_int, plainT_bool, plainT_tuple, plainT_list, plainT_str, Bool.false_eq_true, if_false, if_true, Bool.not_false, Bool.not_true, Bool.not_not, gSub, rSetL, ixN_00, upd_upd, rCat, iRng1, tFor_eq, tPar, iList, tComp, pick, tYes, iZip, gTup, gCons, gNil, rSum, rListH, List.map, Option.bind, iRng2, iRngD, tSl, rSlH, tPart, tNoPart, tPar3])
variable {P : Program} {w : World} {K : PySem.W.Frag} {mg : Str → Option Value} {base : Heap}
noncomputable abbrev s__law_cell_at : Stmt := PySem.Challenge.pw_rimread_k05_solved.main.body.getD 23 (.Pass ⟨0, 0, 0, 0⟩)
theorem sc__law_cell_at : FnScope ["_law_script", "_law_k"] ["_law_script", "_law_k"] (defScope s__law_cell_at) := ⟨rfl, rfl, rfl, by decide +kernel, rfl, by decide +kernel, by decide +kernel⟩
theorem lk__law_cell_at_0 : (defScope s__law_cell_at).names.lookup ("_law_script" : Str) = some PySem.NameKind.local := by decide +kernel
theorem lk__law_cell_at_1 : (defScope s__law_cell_at).names.lookup ("_law_k" : Str) = some PySem.NameKind.local := by decide +kernel
theorem gk__law_cell_at_len : (defScope s__law_cell_at).names.lookup ("len" : Str) = some PySem.NameKind.globalImplicit := by decide +kernel
noncomputable def sp_cell (K : PySem.W.Frag) : Sp := fun vs H Q _ => ∃ (a : Addr) (ns : List Int) (i : Int), vs = [.ref a, .int i] ∧ SqL K H a (ns.map V.int) ∧ 0 ≤ i ∧ ∀ z, Q (.int z) H
theorem ok__law_cell_at (T : Txt K mg) (F : Fn0 K mg "_law_cell_at" s__law_cell_at) : Cal P w K mg base "_law_cell_at" ["_law_script", "_law_k"] 1 (sp_cell K) := by
  refine cal_of F sc__law_cell_at (fun _ _ _ _ _ _ us hl => match us, hl with | [_, _], _ => rfl) ?len ?body
  case len => rintro vs H Q E ⟨a, b, c, rfl, _⟩; rfl
  case body =>
    intro f cdv A outer s H vs Q E hr h
    obtain ⟨a, ns, i, rfl, hS, h0, k⟩ := h
    refine' ⟨_, ?D, ?R⟩
    case D =>
      refine' pss_cons ?g1 ?g2
      case g1 =>
        refine' ps_if ?g3 ?g4 ?g5
        case g3 =>
          refine' pt_cmpR op_lt ?g6 ?g7 (nomark _)
          case g6 => exact pv1 1 rfl lk__law_cell_at_1
          case g7 =>
            refine' pe_callE call_len_seq gk__law_cell_at_len T.n_len bt_len ?g8
            case g8 =>
              refine' pa_c ?g9 ?g10
              case g9 => exact pv1 0 rfl lk__law_cell_at_0
              case g10 => exact pa_nil
        case g4 =>
          refine' pss_one ?g11
          case g11 =>
            refine' ps_ret ?g12
            case g12 =>
              refine' pe_ix (ix_listK (K := K) rfl) ?g13 ?g14 (fun _ _ => rfl)
              case g13 => exact pv1 0 rfl lk__law_cell_at_0
              case g14 => exact pv1 1 rfl lk__law_cell_at_1
        case g5 => exact pss_nil
      case g2 =>
        refine' pss_one ?g15
        case g15 =>
          refine' ps_ret ?g16
          case g16 => exact pe_int
    case R =>
      walk_at "rd"
      refine ⟨_, .inl hS, ?_⟩
      rw [List.length_map]
      refine ite2 (fun hl => ?_) (fun hl => ?_)
      · refine ⟨a, _, i, V.int (ns.getD i.toNat 0), rfl, rfl, hS, atI_nn h0 ?_, k _⟩
        have : i.toNat < ns.length := by (clear k hS hr F T; omega)
        simp [List.getElem?_map, this, List.getD]
      · exact k 0
noncomputable abbrev s__law_big : Stmt := PySem.Challenge.pw_rimread_k05_solved.main.body.getD 24 (.Pass ⟨0, 0, 0, 0⟩)
theorem sc__law_big : FnScope ["_law_script", "_law_at", "_law_by", "_law_prime", "_law_cell", "_law_big_here", "_law_k", "_law_one"] ["_law_script", "_law_at"] (defScope s__law_big) := ⟨rfl, rfl, rfl, by decide +kernel, rfl, by decide +kernel, by decide +kernel⟩
theorem lk__law_big_0 : (defScope s__law_big).names.lookup ("_law_script" : Str) = some PySem.NameKind.local := by decide +kernel
theorem lk__law_big_1 : (defScope s__law_big).names.lookup ("_law_at" : Str) = some PySem.NameKind.local := by decide +kernel
theorem lk__law_big_2 : (defScope s__law_big).names.lookup ("_law_by" : Str) = some PySem.NameKind.local := by decide +kernel
theorem lk__law_big_3 : (defScope s__law_big).names.lookup ("_law_prime" : Str) = some PySem.NameKind.local := by decide +kernel
theorem lk__law_big_4 : (defScope s__law_big).names.lookup ("_law_cell" : Str) = some PySem.NameKind.local := by decide +kernel
theorem lk__law_big_5 : (defScope s__law_big).names.lookup ("_law_big_here" : Str) = some PySem.NameKind.local := by decide +kernel
theorem lk__law_big_6 : (defScope s__law_big).names.lookup ("_law_k" : Str) = some PySem.NameKind.local := by decide +kernel
theorem lk__law_big_7 : (defScope s__law_big).names.lookup ("_law_one" : Str) = some PySem.NameKind.local := by decide +kernel
theorem gk__law_big__law_cell_at : (defScope s__law_big).names.lookup ("_law_cell_at" : Str) = some PySem.NameKind.globalImplicit := by decide +kernel
theorem gk__law_big_range : (defScope s__law_big).names.lookup ("range" : Str) = some PySem.NameKind.globalImplicit := by decide +kernel
noncomputable def sp_big (K : PySem.W.Frag) : Sp := fun vs H Q _ => ∃ (a : Addr) (ns : List Int), vs = [.ref a, .int 0] ∧ SqL K H a (ns.map V.int) ∧ ∀ z H', Same H H' → Q (.int z) H'
theorem by_at {a0 a1 a2 a3 a4 a5 a6 a7 : Int} (i : Int) (h0 : 0 ≤ i) (h1 : i < 8) (P : Int → Prop) (p0 : P a0) (p1 : P a1) (p2 : P a2) (p3 : P a3) (p4 : P a4) (p5 : P a5) (p6 : P a6) (p7 : P a7) :
    ∃ v, atI [V.int a0, .int a1, .int a2, .int a3, .int a4, .int a5, .int a6, .int a7] i = some (.int v) ∧ P v := by
  have : i = 0 ∨ i = 1 ∨ i = 2 ∨ i = 3 ∨ i = 4 ∨ i = 5 ∨ i = 6 ∨ i = 7 := by (clear p7 p6 p5 p4 p3 p2 p1 p0; omega)
  rcases this with rfl | rfl | rfl | rfl | rfl | rfl | rfl | rfl
  · exact ⟨_, rfl, p0⟩
  · exact ⟨_, rfl, p1⟩
  · exact ⟨_, rfl, p2⟩
  · exact ⟨_, rfl, p3⟩
  · exact ⟨_, rfl, p4⟩
  · exact ⟨_, rfl, p5⟩
  · exact ⟨_, rfl, p6⟩
  · exact ⟨_, rfl, p7⟩
theorem ok__law_big (T : Txt K mg) (F : Fn0 K mg "_law_big" s__law_big) (C__law_cell_at : Cal P w K mg base "_law_cell_at" ["_law_script", "_law_k"] 1 (sp_cell K)) : Cal P w K mg base "_law_big" ["_law_script", "_law_at"] 2 (sp_big K) := by
  refine cal_of F sc__law_big (fun _ _ _ _ _ _ us hl => match us, hl with | [_, _], _ => rfl) ?len ?body
  case len => rintro vs H Q E ⟨a, b, rfl, _⟩; rfl
  case body =>
    intro f cdv A outer s H vs Q E hr h
    obtain ⟨a, ns, rfl, hS, k⟩ := h
    refine' ⟨_, ?D, ?R⟩
    case D =>
      refine' pss_cons ?g1 ?g2
      case g1 =>
        refine' ps_set1 (i := 2) sc__law_big.nd rfl lk__law_big_2 ?g3
        case g3 =>
          refine' pe_tup ?g4
          case g4 =>
            refine' pa_c ?g5 ?g6
            case g5 => exact pe_int
            case g6 =>
              refine' pa_c ?g7 ?g8
              case g7 => exact pe_int
              case g8 =>
                refine' pa_c ?g9 ?g10
                case g9 => exact pe_int
                case g10 =>
                  refine' pa_c ?g11 ?g12
                  case g11 => exact pe_int
                  case g12 =>
                    refine' pa_c ?g13 ?g14
                    case g13 => exact pe_int
                    case g14 =>
                      refine' pa_c ?g15 ?g16
                      case g15 => exact pe_int
                      case g16 =>
                        refine' pa_c ?g17 ?g18
                        case g17 => exact pe_int
                        case g18 =>
                          refine' pa_c ?g19 ?g20
                          case g19 => exact pe_int
                          case g20 => exact pa_nil
      case g2 =>
        refine' pss_cons ?g21 ?g22
        case g21 =>
          refine' ps_set1 (i := 3) sc__law_big.nd rfl lk__law_big_3 ?g23
          case g23 =>
            refine' pe_tup ?g24
            case g24 =>
              refine' pa_c ?g25 ?g26
              case g25 => exact pe_int
              case g26 =>
                refine' pa_c ?g27 ?g28
                case g27 => exact pe_int
                case g28 =>
                  refine' pa_c ?g29 ?g30
                  case g29 => exact pe_int
                  case g30 =>
                    refine' pa_c ?g31 ?g32
                    case g31 => exact pe_int
                    case g32 =>
                      refine' pa_c ?g33 ?g34
                      case g33 => exact pe_int
                      case g34 =>
                        refine' pa_c ?g35 ?g36
                        case g35 => exact pe_int
                        case g36 =>
                          refine' pa_c ?g37 ?g38
                          case g37 => exact pe_int
                          case g38 =>
                            refine' pa_c ?g39 ?g40
                            case g39 => exact pe_int
                            case g40 => exact pa_nil
        case g22 =>
          refine' pss_cons ?g41 ?g42
          case g41 =>
            refine' ps_set1 (i := 4) sc__law_big.nd rfl lk__law_big_4 ?g43
            case g43 =>
              refine' pe_callD C__law_cell_at (hr.mono (by decide)) gk__law_big__law_cell_at ?g44
              case g44 =>
                refine' pa_c ?g45 ?g46
                case g45 => exact pv1 0 rfl lk__law_big_0
                case g46 =>
                  refine' pa_c ?g47 ?g48
                  case g47 => exact pv1 1 rfl lk__law_big_1
                  case g48 => exact pa_nil
          case g42 =>
            refine' pss_cons ?g49 ?g50
            case g49 =>
              refine' ps_if ?g51 ?g52 ?g53
              case g51 =>
                refine' pt_cmpR op_ge ?g54 ?g55 (nomark _)
                case g54 => exact pv1 4 rfl lk__law_big_4
                case g55 =>
                  refine' pe_op op_pow ?g56 ?g57
                  case g56 => exact pe_int
                  case g57 => exact pe_int
              case g52 =>
                refine' pss_one ?g58
                case g58 =>
                  refine' ps_ret ?g59
                  case g59 => exact pv1 4 rfl lk__law_big_4
              case g53 => exact pss_nil
            case g50 =>
              refine' pss_cons ?g60 ?g61
              case g60 =>
                refine' ps_set1 (i := 5) sc__law_big.nd rfl lk__law_big_5 ?g62
                case g62 => exact pe_int
              case g61 =>
                refine' pss_cons ?g63 ?g64
                case g63 =>
                  refine' ps_for PassesOwn.never rfl ?g65 ?g66 ?g67
                  case g65 =>
                    refine' pi_range1 gk__law_big_range T.n_range ?g68
                    case g68 =>
                      refine' pa_c ?g69 ?g70
                      case g69 => exact pe_int
                      case g70 => exact pa_nil
                  case g66 => exact pg_name1 (i := 6) sc__law_big.nd rfl lk__law_big_6
                  case g67 =>
                    refine' pss_cons ?g71 ?g72
                    case g71 =>
                      refine' ps_set1 (i := 7) sc__law_big.nd rfl lk__law_big_7 ?g73
                      case g73 =>
                        refine' pe_op op_add ?g74 ?g75
                        case g74 =>
                          refine' pe_op op_add ?g76 ?g77
                          case g76 =>
                            refine' pe_op op_mod ?g78 ?g79
                            case g78 =>
                              refine' pe_callD C__law_cell_at (hr.mono (by decide)) gk__law_big__law_cell_at ?g80
                              case g80 =>
                                refine' pa_c ?g81 ?g82
                                case g81 => exact pv1 0 rfl lk__law_big_0
                                case g82 =>
                                  refine' pa_c ?g83 ?g84
                                  case g83 =>
                                    refine' pe_op op_add ?g85 ?g86
                                    case g85 => exact pv1 1 rfl lk__law_big_1
                                    case g86 =>
                                      refine' pe_op op_mod ?g87 ?g88
                                      case g87 => exact pv1 6 rfl lk__law_big_6
                                      case g88 => exact pe_int
                                  case g84 => exact pa_nil
                            case g79 =>
                              refine' pe_op op_pow ?g89 ?g90
                              case g89 => exact pe_int
                              case g90 => exact pe_int
                          case g77 => exact pe_int
                        case g75 =>
                          refine' pe_op op_mul ?g91 ?g92
                          case g91 => exact pv1 6 rfl lk__law_big_6
                          case g92 => exact pv1 6 rfl lk__law_big_6
                    case g72 =>
                      refine' pss_one ?g93
                      case g93 =>
                        refine' ps_set1 (i := 5) sc__law_big.nd rfl lk__law_big_5 ?g94
                        case g94 =>
                          refine' pe_op op_add ?g95 ?g96
                          case g95 =>
                            refine' pe_op op_mul ?g97 ?g98
                            case g97 => exact pv1 5 rfl lk__law_big_5
                            case g98 => exact pe_int
                          case g96 =>
                            refine' pe_op op_mod ?g99 ?g100
                            case g99 =>
                              refine' pe_op op_mod ?g101 ?g102
                              case g101 =>
                                refine' pe_op op_mul ?g103 ?g104
                                case g103 => exact pv1 7 rfl lk__law_big_7
                                case g104 =>
                                  refine' pe_ix ix_tupH ?g105 ?g106 (fun _ _ => rfl)
                                  case g105 => exact pv1 2 rfl lk__law_big_2
                                  case g106 =>
                                    refine' pe_op op_mod ?g107 ?g108
                                    case g107 => exact pv1 6 rfl lk__law_big_6
                                    case g108 => exact pe_int
                              case g102 =>
                                refine' pe_ix ix_tupH ?g109 ?g110 (fun _ _ => rfl)
                                case g109 => exact pv1 3 rfl lk__law_big_3
                                case g110 =>
                                  refine' pe_op op_mod ?g111 ?g112
                                  case g111 => exact pv1 6 rfl lk__law_big_6
                                  case g112 => exact pe_int
                            case g100 => exact pe_int
                case g64 =>
                  refine' pss_one ?g113
                  case g113 =>
                    refine' ps_ret ?g114
                    case g114 => exact pv1 5 rfl lk__law_big_5
    case R =>
      walk_at "rd"
      refine ⟨by decide, fun p hp => ⟨by decide, fun q hq => ?_⟩⟩
      generalize e1 : upd H p (HO.tup _) = H1 at hq ⊢
      have s1 : Same H H1 := e1 ▸ Same.new hp
      have p1 : H1 p = some (.tup _) := e1 ▸ upd_same
      generalize e2 : upd H1 q (HO.tup _) = H2
      have s2 : Same H1 H2 := e2 ▸ Same.new hq
      have q2 : H2 q = some (.tup _) := e2 ▸ upd_same
      have p2 := s2 _ _ p1
      have sS : Same H H2 := s1.trans s2
      clear e1 e2
      refine ⟨a, ns, 0, rfl, sS.seq hS, by decide, fun z => ?_⟩
      walk_at "rd"
      refine ⟨by decide, by decide, by decide, ?_⟩
      refine ite2 (fun _ => k _ _ sS) (fun _ => ⟨by decide, by decide, ?_⟩)
      refine go_range (fun i σ H' => H' = H2 ∧ ∃ (b : Int) (v6 v7 : Option V), σ = [some (V.ref a), some (V.int 0), some (V.ref p), some (V.ref q), some (V.int z), some (V.int b), v6, v7]) ⟨rfl, 0, none, none, rfl⟩ ?_ ?_
      · rintro i σ H' hi ⟨rfl, b, v6, v7, rfl⟩
        have hi' : i < 60 := hi
        walk_at "rd"
        have m9 := Int.emod_nonneg (0 + (i : Int)) (show (9 : Int) ≠ 0 by decide)
        refine ⟨by decide, a, ns, _, rfl, sS.seq hS, by (clear hi' sS p2 q2 s2 hi p1 s1 hq hp k hS hr C__law_cell_at F T; omega), fun y => ?_⟩
        walk_at "rd"
        refine ⟨by decide, by decide, by decide, by decide, .inl ⟨by (clear m9 sS p2 q2 s2 hi p1 s1 hq hp k hS hr C__law_cell_at F T; omega), by (clear m9 sS p2 q2 s2 hi p1 s1 hq hp k hS hr C__law_cell_at F T; omega)⟩, .inr ⟨by decide, by decide⟩, by decide, ?_⟩
        have m8 := Int.emod_nonneg (0 + (i : Int)) (show (8 : Int) ≠ 0 by decide)
        have l8 := Int.emod_lt_of_pos (0 + (i : Int)) (show (0 : Int) < 8 by decide)
        obtain ⟨v, hv, v0, v1⟩ := by_at (a0 := 48271) (a1 := 69621) (a2 := 16807) (a3 := 39373) (a4 := 21401) (a5 := 60493) (a6 := 87721) (a7 := 31337) ((0 + (i : Int)) % 8) m8 l8 (fun v => 0 < v ∧ v < 100000) (by decide) (by decide) (by decide) (by decide) (by decide) (by decide) (by decide) (by decide)
        obtain ⟨u, hu, u0, u1⟩ := by_at (a0 := 99991) (a1 := 99989) (a2 := 99971) (a3 := 99961) (a4 := 99929) (a5 := 99923) (a6 := 99907) (a7 := 99901) ((0 + (i : Int)) % 8) m8 l8 (fun v => 0 < v ∧ v < 100000) (by decide) (by decide) (by decide) (by decide) (by decide) (by decide) (by decide) (by decide)
        simp only [p2, q2, Option.some.injEq, HO.tup.injEq, exists_eq_left']
        simp only [hv, hu]
        walk_at "rd"
        exact ⟨.inr ⟨by (clear u1 u0 hu hv l8 m8 m9 hi' sS p2 q2 s2 hi p1 s1 hq hp k hS hr C__law_cell_at F T; omega), by (clear u1 u0 hu hv l8 m8 m9 hi' sS p2 q2 s2 hi p1 s1 hq hp k hS hr C__law_cell_at F T; omega)⟩, by decide, u0, by decide, _, rfl⟩
      · rintro σ H' ⟨rfl, b, v6, v7, rfl⟩
        walk_at "rd"
        exact k _ _ sS
noncomputable abbrev s__law_digit : Stmt := PySem.Challenge.pw_rimread_k05_solved.main.body.getD 30 (.Pass ⟨0, 0, 0, 0⟩)
theorem sc__law_digit : FnScope ["_law_rest", "_law_many", "_law_digit_here"] ["_law_rest", "_law_many"] (defScope s__law_digit) := ⟨rfl, rfl, rfl, by decide +kernel, rfl, by decide +kernel, by decide +kernel⟩
theorem lk__law_digit_0 : (defScope s__law_digit).names.lookup ("_law_rest" : Str) = some PySem.NameKind.local := by decide +kernel
theorem lk__law_digit_1 : (defScope s__law_digit).names.lookup ("_law_many" : Str) = some PySem.NameKind.local := by decide +kernel
theorem lk__law_digit_2 : (defScope s__law_digit).names.lookup ("_law_digit_here" : Str) = some PySem.NameKind.local := by decide +kernel
noncomputable def sp_digit : Sp := fun vs H Q _ => ∃ (l : Addr) (r m : Int), vs = [.ref l, .int m] ∧ H l = some (.lst [.int r]) ∧ 0 < m ∧ m.natAbs.log2 < 9000 ∧ Q (.int (r % m)) (upd H l (.lst [.int (r / m)]))
theorem ok__law_digit (T : Txt K mg) (F : Fn0 K mg "_law_digit" s__law_digit) : Cal P w K mg base "_law_digit" ["_law_rest", "_law_many"] 1 sp_digit := by
  refine cal_of F sc__law_digit (fun _ _ _ _ _ _ us hl => match us, hl with | [_, _], _ => rfl) ?len ?body
  case len => rintro vs H Q E ⟨a, b, c, rfl, _⟩; rfl
  case body =>
    intro f cdv A outer s H vs Q E hr h
    obtain ⟨l, r, m, rfl, hl, m0, ml, k⟩ := h
    refine' ⟨_, ?D, ?R⟩
    case D =>
      refine' pss_cons ?g1 ?g2
      case g1 =>
        refine' ps_set1 (i := 2) sc__law_digit.nd rfl lk__law_digit_2 ?g3
        case g3 =>
          refine' pe_op op_mod ?g4 ?g5
          case g4 =>
            refine' pe_ix ix_listH ?g6 ?g7 (fun _ _ => rfl)
            case g6 => exact pv1 0 rfl lk__law_digit_0
            case g7 => exact pe_int
          case g5 => exact pv1 1 rfl lk__law_digit_1
      case g2 =>
        refine' pss_cons ?g8 ?g9
        case g8 =>
          refine' ps_asg ?g10 (pg_sub ?g11 ?g12 set_list)
          case g10 =>
            refine' pe_op op_fdivB ?g13 ?g14
            case g13 =>
              refine' pe_ix ix_listH ?g15 ?g16 (fun _ _ => rfl)
              case g15 => exact pv1 0 rfl lk__law_digit_0
              case g16 => exact pe_int
            case g14 => exact pv1 1 rfl lk__law_digit_1
          case g11 => exact pv1 0 rfl lk__law_digit_0
          case g12 => exact pe_int
        case g9 =>
          refine' pss_one ?g17
          case g17 =>
            refine' ps_ret ?g18
            case g18 => exact pv1 2 rfl lk__law_digit_2
    case R =>
      walk_at "rd"
      simp only [hl]
      walk_at "rd"
      exact ⟨m0, m0, ml, k⟩
noncomputable abbrev s__law_whole : Stmt := PySem.Challenge.pw_rimread_k05_solved.main.body.getD 29 (.Pass ⟨0, 0, 0, 0⟩)
theorem sc__law_whole : FnScope ["_law_found"] ["_law_found"] (defScope s__law_whole) := ⟨rfl, rfl, rfl, by decide +kernel, rfl, by decide +kernel, by decide +kernel⟩
theorem lk__law_whole_0 : (defScope s__law_whole).names.lookup ("_law_found" : Str) = some PySem.NameKind.local := by decide +kernel
theorem gk__law_whole_bool : (defScope s__law_whole).names.lookup ("bool" : Str) = some PySem.NameKind.globalImplicit := by decide +kernel
theorem gk__law_whole_int : (defScope s__law_whole).names.lookup ("int" : Str) = some PySem.NameKind.globalImplicit := by decide +kernel
theorem gk__law_whole_isinstance : (defScope s__law_whole).names.lookup ("isinstance" : Str) = some PySem.NameKind.globalImplicit := by decide +kernel
noncomputable def sp_whole : Sp := fun vs H Q _ => ∃ x t, vs = [x] ∧ kindV H x = some t ∧ ∀ H', Same H H' → Q (.bl (t == "int")) H'
theorem kind_cases {H : Hp} {x : V} {t : String} (h : kindV H x = some t) : t = "NoneType" ∨ t = "bool" ∨ t = "int" ∨ t = "str" ∨ t = "list" ∨ t = "tuple" := by
  cases x with
  | non => exact .inl (Option.some.inj h).symm
  | bl _ => exact .inr (.inl (Option.some.inj h).symm)
  | int _ => exact .inr (.inr (.inl (Option.some.inj h).symm))
  | str _ => exact .inr (.inr (.inr (.inl (Option.some.inj h).symm)))
  | ref p =>
    cases e : H p with
    | none => simp [kindV, e] at h
    | some o => cases o <;> simp [kindV, e] at h <;> simp [← h]
  | _ => cases h
theorem ok__law_whole (T : Txt K mg) (F : Fn0 K mg "_law_whole" s__law_whole) : Cal P w K mg base "_law_whole" ["_law_found"] 1 sp_whole := by
  refine cal_of F sc__law_whole (fun _ _ _ _ _ _ us hl => match us, hl with | [_], _ => rfl) ?len ?body
  case len => rintro vs H Q E ⟨a, b, rfl, _⟩; rfl
  case body =>
    intro f cdv A outer s H vs Q E hr h
    obtain ⟨x, t, rfl, ht, k⟩ := h
    refine' ⟨_, ?D, ?R⟩
    case D =>
      refine' pss_one ?g1
      case g1 =>
        refine' ps_ret ?g2
        case g2 =>
          refine' pe_and ?g3 ?g4
          case g3 =>
            refine' pe_callE call_isi gk__law_whole_isinstance T.n_isinstance bt_isinstance ?g5
            case g5 =>
              refine' pa_c ?g6 ?g7
              case g6 => exact pv1 0 rfl lk__law_whole_0
              case g7 =>
                refine' pa_c ?g8 ?g9
                case g8 => exact pe_bty gk__law_whole_int T.n_int bt_int
                case g9 => exact pa_nil
          case g4 =>
            refine' pe_one ?g10
            case g10 =>
              refine' pe_not ?g11
              case g11 =>
                refine' pe_callE call_isi gk__law_whole_isinstance T.n_isinstance bt_isinstance ?g12
                case g12 =>
                  refine' pa_c ?g13 ?g14
                  case g13 => exact pv1 0 rfl lk__law_whole_0
                  case g14 =>
                    refine' pa_c ?g15 ?g16
                    case g15 => exact pe_bty gk__law_whole_bool T.n_bool bt_bool
                    case g16 => exact pa_nil
    case R =>
      walk_at "rd"
      simp only [ht, Option.some.injEq, exists_eq_left']
      have k' := k H (Same.refl H)
      rcases kind_cases ht with rfl | rfl | rfl | rfl | rfl | rfl <;> exact k'
noncomputable abbrev s__law_low : Stmt := PySem.Challenge.pw_rimread_k05_solved.main.body.getD 25 (.Pass ⟨0, 0, 0, 0⟩)
theorem sc__law_low : FnScope ["_law_top", "_law_bottom", "_law_one", "_law_other"] ["_law_top", "_law_bottom"] (defScope s__law_low) := ⟨rfl, rfl, rfl, by decide +kernel, rfl, by decide +kernel, by decide +kernel⟩
theorem lk__law_low_0 : (defScope s__law_low).names.lookup ("_law_top" : Str) = some PySem.NameKind.local := by decide +kernel
theorem lk__law_low_1 : (defScope s__law_low).names.lookup ("_law_bottom" : Str) = some PySem.NameKind.local := by decide +kernel
theorem lk__law_low_2 : (defScope s__law_low).names.lookup ("_law_one" : Str) = some PySem.NameKind.local := by decide +kernel
theorem lk__law_low_3 : (defScope s__law_low).names.lookup ("_law_other" : Str) = some PySem.NameKind.local := by decide +kernel
theorem gk__law_low_abs : (defScope s__law_low).names.lookup ("abs" : Str) = some PySem.NameKind.globalImplicit := by decide +kernel
noncomputable def sp_low : Sp := fun vs H Q _ => ∃ t b : Int, vs = [.int t, .int b] ∧ 0 < b ∧ Builtin.Int.intBits b ≤ 8000 ∧ ∀ p H', Same H H' → Rep (newH H H') (.ref p) (dF (nf t b)) → Q (.ref p) H'
theorem ok__law_low (T : Txt K mg) (F : Fn0 K mg "_law_low" s__law_low) : Cal P w K mg base "_law_low" ["_law_top", "_law_bottom"] 1 sp_low := by
  refine cal_of F sc__law_low (fun _ _ _ _ _ _ us hl => match us, hl with | [_, _], _ => rfl) ?len ?body
  case len => rintro vs H Q E ⟨a, b, rfl, _⟩; rfl
  case body =>
    intro f cdv A outer s H vs Q E hr h
    obtain ⟨a, b, rfl, hb, lb, k⟩ := h
    refine' ⟨_, ?D, ?R⟩
    case D =>
      refine' pss_cons ?g1 ?g2
      case g1 =>
        refine' ps_par (i := 2) (j := 3) rfl sc__law_low.nd rfl rfl (by decide) lk__law_low_2 lk__law_low_3 ?g3 rfl
        case g3 =>
          refine' pa_c ?g4 ?g5
          case g4 =>
            refine' pe_callE call_abs gk__law_low_abs T.n_abs bt_abs ?g6
            case g6 =>
              refine' pa_c ?g7 ?g8
              case g7 => exact pv1 0 rfl lk__law_low_0
              case g8 => exact pa_nil
          case g5 =>
            refine' pa_c ?g9 ?g10
            case g9 => exact pv1 1 rfl lk__law_low_1
            case g10 => exact pa_nil
      case g2 =>
        refine' pss_cons ?g11 ?g12
        case g11 =>
          refine' ps_while PassesOwn.never ?g13 ?g14
          case g13 =>
            refine' pt_cmpR op_gt ?g15 ?g16 (nomark _)
            case g15 => exact pv1 3 rfl lk__law_low_3
            case g16 => exact pe_int
          case g14 =>
            refine' pss_one ?g17
            case g17 =>
              refine' ps_par (i := 2) (j := 3) rfl sc__law_low.nd rfl rfl (by decide) lk__law_low_2 lk__law_low_3 ?g18 rfl
              case g18 =>
                refine' pa_c ?g19 ?g20
                case g19 => exact pv1 3 rfl lk__law_low_3
                case g20 =>
                  refine' pa_c ?g21 ?g22
                  case g21 =>
                    refine' pe_op op_mod ?g23 ?g24
                    case g23 => exact pv1 2 rfl lk__law_low_2
                    case g24 => exact pv1 3 rfl lk__law_low_3
                  case g22 => exact pa_nil
        case g12 =>
          refine' pss_one ?g25
          case g25 =>
            refine' ps_ret ?g26
            case g26 =>
              refine' pe_tup ?g27
              case g27 =>
                refine' pa_c ?g28 ?g29
                case g28 =>
                  refine' pe_op op_fdivB ?g30 ?g31
                  case g30 => exact pv1 0 rfl lk__law_low_0
                  case g31 => exact pv1 2 rfl lk__law_low_2
                case g29 =>
                  refine' pa_c ?g32 ?g33
                  case g32 =>
                    refine' pe_op op_fdivB ?g34 ?g35
                    case g34 => exact pv1 1 rfl lk__law_low_1
                    case g35 => exact pv1 2 rfl lk__law_low_2
                  case g33 => exact pa_nil
    case R =>
      walk_at "rd"
      refine while_W (fun σ H1 => ∃ (x y : Int), σ = [some (.int a), some (.int b), some (.int x), some (.int y)] ∧ H1 = H ∧ 0 ≤ x ∧ 0 ≤ y ∧ Int.gcd x y = Int.gcd a b)
        (fun σ _ => match σ with | [_, _, _, some (.int y)] => y.toNat | _ => 0) ?_ ?_
      · refine ⟨_, _, rfl, rfl, ?_, by (clear k lb hr F T; omega), ?_⟩
        · split <;> (clear k lb hb hr F T; omega)
        · split
          · rw [Int.neg_gcd]
          · rfl
      · rintro σ H1 ⟨x, y, rfl, rfl, hx, hy, e⟩
        walk_at "rd"
        refine ite2 (fun hne => ?_) (fun he => ?_)
        · refine ⟨_, N_ok, ?_⟩
          walk_at "rd"
          have h1 := Int.emod_nonneg x (show y ≠ 0 by (clear e hy hx k lb hb hr F T; omega))
          have h2 := Int.emod_lt_of_pos x hne
          exact ⟨hne, hy, h1, (gcd_step hx hne).trans e, by (clear e hy hx k lb hb hr F T; omega)⟩
        · have hy0 : y = 0 := by (clear e hx k lb hb hr F T; omega)
          have hx' : x = (Int.gcd a b : Nat) := by
            rw [← e, hy0, Int.gcd_zero_right]; (clear hy0 he e hy k lb hb hr F T; omega)
          have g0 := gpos (t := a) (b := b) (by (clear hx' hy0 he e hy hx k lb hr F T; omega))
          have hl := log_of (g := (Int.gcd a b : Int)) (b := b) (by (clear hx' hy0 he e hy hx k lb hb hr F T; omega)) (Nat.le_of_dvd (by (clear g0 hx' hy0 he e hy hx k lb hr F T; omega)) (Int.natAbs_dvd_natAbs.mpr (Int.gcd_dvd_right ..))) lb
          subst hx'
          refine ⟨g0, hl, g0, hl, by decide, fun p hp => k p _ (Same.new hp) ⟨p, _, rfl, ?_, _, _, rfl, rfl, _, _, rfl, rfl, rfl⟩⟩
          rw [newH_at hp, upd_same, nf_pos hb]
noncomputable abbrev s__law_is_fraction : Stmt := PySem.Challenge.pw_rimread_k05_solved.main.body.getD 31 (.Pass ⟨0, 0, 0, 0⟩)
theorem sc__law_is_fraction : FnScope ["_law_found"] ["_law_found"] (defScope s__law_is_fraction) := ⟨rfl, rfl, rfl, by decide +kernel, rfl, by decide +kernel, by decide +kernel⟩
theorem lk__law_is_fraction_0 : (defScope s__law_is_fraction).names.lookup ("_law_found" : Str) = some PySem.NameKind.local := by decide +kernel
theorem gk__law_is_fraction__law_low : (defScope s__law_is_fraction).names.lookup ("_law_low" : Str) = some PySem.NameKind.globalImplicit := by decide +kernel
theorem gk__law_is_fraction__law_whole : (defScope s__law_is_fraction).names.lookup ("_law_whole" : Str) = some PySem.NameKind.globalImplicit := by decide +kernel
theorem gk__law_is_fraction_isinstance : (defScope s__law_is_fraction).names.lookup ("isinstance" : Str) = some PySem.NameKind.globalImplicit := by decide +kernel
theorem gk__law_is_fraction_len : (defScope s__law_is_fraction).names.lookup ("len" : Str) = some PySem.NameKind.globalImplicit := by decide +kernel
theorem gk__law_is_fraction_tuple : (defScope s__law_is_fraction).names.lookup ("tuple" : Str) = some PySem.NameKind.globalImplicit := by decide +kernel
noncomputable def sp_isf : Sp := fun vs H Q _ => ∃ v p, vs = [v] ∧ Rep H v (dF p) ∧ Low p ∧ Builtin.Int.intBits p.2 ≤ 8000 ∧ ∀ H', Same H H' → Q (.bl true) H'
theorem ok__law_is_fraction (T : Txt K mg) (F : Fn0 K mg "_law_is_fraction" s__law_is_fraction) (C__law_whole : Cal P w K mg base "_law_whole" ["_law_found"] 1 sp_whole) (C__law_low : Cal P w K mg base "_law_low" ["_law_top", "_law_bottom"] 1 sp_low) : Cal P w K mg base "_law_is_fraction" ["_law_found"] 2 sp_isf := by
  refine cal_of F sc__law_is_fraction (fun _ _ _ _ _ _ us hl => match us, hl with | [_], _ => rfl) ?len ?body
  case len => rintro vs H Q E ⟨a, b, rfl, _⟩; rfl
  case body =>
    intro f cdv A outer s H vs Q E hr h
    obtain ⟨v, p, rfl, hv, lo, bb, k⟩ := h
    obtain ⟨q, rfl, hq⟩ := rep_dF hv
    refine' ⟨_, ?D, ?R⟩
    case D =>
      refine' pss_cons ?g1 ?g2
      case g1 =>
        refine' ps_if ?g3 ?g4 ?g5
        case g3 =>
          refine' PW.pt ?g6
          case g6 =>
            refine' pw_or ?g7 ?g8
            case g7 =>
              refine' pt_not ?g9
              case g9 =>
                refine' pt_val ?g10
                case g10 =>
                  refine' pe_callE call_isi gk__law_is_fraction_isinstance T.n_isinstance bt_isinstance ?g11
                  case g11 =>
                    refine' pa_c ?g12 ?g13
                    case g12 => exact pv1 0 rfl lk__law_is_fraction_0
                    case g13 =>
                      refine' pa_c ?g14 ?g15
                      case g14 => exact pe_bty gk__law_is_fraction_tuple T.n_tuple bt_tuple
                      case g15 => exact pa_nil
            case g8 =>
              refine' pw_or ?g16 ?g17
              case g16 =>
                refine' pt_cmpR op_ne ?g18 ?g19 (nomark _)
                case g18 =>
                  refine' pe_callE call_lenH gk__law_is_fraction_len T.n_len bt_len ?g20
                  case g20 =>
                    refine' pa_c ?g21 ?g22
                    case g21 => exact pv1 0 rfl lk__law_is_fraction_0
                    case g22 => exact pa_nil
                case g19 => exact pe_int
              case g17 =>
                refine' pw_or ?g23 ?g24
                case g23 =>
                  refine' pt_not ?g25
                  case g25 =>
                    refine' pt_val ?g26
                    case g26 =>
                      refine' pe_callD C__law_whole (hr.mono (by decide)) gk__law_is_fraction__law_whole ?g27
                      case g27 =>
                        refine' pa_c ?g28 ?g29
                        case g28 =>
                          refine' pe_ix ix_tupH ?g30 ?g31 (fun _ _ => rfl)
                          case g30 => exact pv1 0 rfl lk__law_is_fraction_0
                          case g31 => exact pe_int
                        case g29 => exact pa_nil
                case g24 =>
                  refine' pw_or1 ?g32
                  case g32 =>
                    refine' pt_not ?g33
                    case g33 =>
                      refine' pt_val ?g34
                      case g34 =>
                        refine' pe_callD C__law_whole (hr.mono (by decide)) gk__law_is_fraction__law_whole ?g35
                        case g35 =>
                          refine' pa_c ?g36 ?g37
                          case g36 =>
                            refine' pe_ix ix_tupH ?g38 ?g39 (fun _ _ => rfl)
                            case g38 => exact pv1 0 rfl lk__law_is_fraction_0
                            case g39 => exact pe_int
                          case g37 => exact pa_nil
        case g4 =>
          refine' pss_one ?g40
          case g40 =>
            refine' ps_ret ?g41
            case g41 => exact pe_bl
        case g5 => exact pss_nil
      case g2 =>
        refine' pss_one ?g42
        case g42 =>
          refine' ps_ret ?g43
          case g43 =>
            refine' pe_and ?g44 ?g45
            case g44 =>
              refine' pe_cmpR op_gt ?g46 ?g47 (nomark _)
              case g46 =>
                refine' pe_ix ix_tupH ?g48 ?g49 (fun _ _ => rfl)
                case g48 => exact pv1 0 rfl lk__law_is_fraction_0
                case g49 => exact pe_int
              case g47 => exact pe_int
            case g45 =>
              refine' pe_one ?g50
              case g50 =>
                refine' pe_cmpR (op_eqD (hr.units)) ?g51 ?g52 (nomark _)
                case g51 => exact pv1 0 rfl lk__law_is_fraction_0
                case g52 =>
                  refine' pe_callD C__law_low (hr.mono (by decide)) gk__law_is_fraction__law_low ?g53
                  case g53 =>
                    refine' pa_c ?g54 ?g55
                    case g54 =>
                      refine' pe_ix ix_tupH ?g56 ?g57 (fun _ _ => rfl)
                      case g56 => exact pv1 0 rfl lk__law_is_fraction_0
                      case g57 => exact pe_int
                    case g55 =>
                      refine' pa_c ?g58 ?g59
                      case g58 =>
                        refine' pe_ix ix_tupH ?g60 ?g61 (fun _ _ => rfl)
                        case g60 => exact pv1 0 rfl lk__law_is_fraction_0
                        case g61 => exact pe_int
                      case g59 => exact pa_nil
    case R =>
      walk_at "rd"
      have hk : kindV H (.ref q) = some "tuple" := by simp [kindV, hq]
      refine ⟨_, hk, ?_⟩
      rw [if_neg (by decide)]
      refine ⟨_, .inr hq, ?_⟩
      rw [if_neg (by simp)]
      simp only [hq, Option.some.injEq, HO.tup.injEq, exists_eq_left']
      walk_at "rd"
      refine ⟨_, "int", rfl, rfl, fun H1 s1 => ⟨_, rfl, ?_⟩⟩
      rw [if_neg (by decide)]
      have hq1 := s1 _ _ hq
      simp only [hq1, Option.some.injEq, HO.tup.injEq, exists_eq_left']
      walk_at "rd"
      refine ⟨_, "int", rfl, rfl, fun H2 s2 => ⟨_, rfl, ?_⟩⟩
      rw [if_neg (by decide)]
      have hq2 := s2 _ _ hq1
      have p0 := lo.pos
      try walk_at "rd"
      simp only [hq2, Option.some.injEq, HO.tup.injEq, exists_eq_left']
      walk_at "rd"
      rw [if_pos p0]
      refine ⟨_, _, rfl, p0, bb, fun z H3 s3 rep => ?_⟩
      rw [nf_of_low lo] at rep
      refine ⟨q, z, dF p, dF p, true, rfl, rfl, Rep.mono ((s1.trans s2).trans s3) _ hv, Rep.mono newH_same _ rep, by simp [deq, deqs, dF], by simp [dep, deps, dF], k _ ((s1.trans s2).trans s3)⟩
noncomputable def But (l : Addr) (H H' : Hp) : Prop := ∀ b o, b ≠ l → H b = some o → H' b = some o
theorem But.refl (l : Addr) (H : Hp) : But l H H := fun _ _ _ h => h
theorem But.trans {l : Addr} {H H1 H2 : Hp} (a : But l H H1) (b : But l H1 H2) : But l H H2 := fun c o n h => b c o n (a c o n h)
theorem But.of {l : Addr} {H H' : Hp} (s : Same H H') : But l H H' := fun b o _ h => s b o h
theorem But.upd {l : Addr} {H H' : Hp} {o : HO} (a : But l H H') : But l H (L2.upd H' l o) := fun b z n h => by rw [upd_ne n]; exact a b z n h
theorem bits_2 {x y : Int} {n m : Nat} (hx : Builtin.Int.intBits x ≤ n) (hy : Builtin.Int.intBits y ≤ m) (h : n + m ≤ 9000) : Builtin.Int.intBits (x * y) ≤ n + m ∧ Builtin.Int.intBits x + Builtin.Int.intBits y ≤ 134217728 := ⟨PyProof.Rows.bits_mul hx hy, by omega⟩
noncomputable def sp_two (t : Int × Int → Int × Int → Int) : Sp := fun vs H Q _ => ∃ v u p q, vs = [v, u] ∧ Rep H v (dF p) ∧ Rep H u (dF q) ∧ 0 < p.2 ∧ 0 < q.2 ∧ Builtin.Int.intBits p.1 ≤ 3900 ∧ Builtin.Int.intBits p.2 ≤ 3900 ∧ Builtin.Int.intBits q.1 ≤ 3900 ∧ Builtin.Int.intBits q.2 ≤ 3900 ∧
  ∀ z H', Same H H' → Rep (newH H H') (.ref z) (dF (nf (t p q) (p.2 * q.2))) → Q (.ref z) H'
noncomputable abbrev s__law_add : Stmt := PySem.Challenge.pw_rimread_k05_solved.main.body.getD 26 (.Pass ⟨0, 0, 0, 0⟩)
theorem sc__law_add : FnScope ["_law_one", "_law_other"] ["_law_one", "_law_other"] (defScope s__law_add) := ⟨rfl, rfl, rfl, by decide +kernel, rfl, by decide +kernel, by decide +kernel⟩
theorem lk__law_add_0 : (defScope s__law_add).names.lookup ("_law_one" : Str) = some PySem.NameKind.local := by decide +kernel
theorem lk__law_add_1 : (defScope s__law_add).names.lookup ("_law_other" : Str) = some PySem.NameKind.local := by decide +kernel
theorem gk__law_add__law_low : (defScope s__law_add).names.lookup ("_law_low" : Str) = some PySem.NameKind.globalImplicit := by decide +kernel
theorem ok__law_add (T : Txt K mg) (F : Fn0 K mg "_law_add" s__law_add) (C__law_low : Cal P w K mg base "_law_low" ["_law_top", "_law_bottom"] 1 sp_low) : Cal P w K mg base "_law_add" ["_law_one", "_law_other"] 2 (sp_two (fun p q => p.1 * q.2 + q.1 * p.2)) := by
  refine cal_of F sc__law_add (fun _ _ _ _ _ _ us hl => match us, hl with | [_, _], _ => rfl) ?len ?body
  case len => rintro vs H Q E ⟨a, b, c, d, rfl, _⟩; rfl
  case body =>
    intro f cdv A outer s H vs Q E hr h
    obtain ⟨v, u, p, q, rfl, hv, hu, p0, q0, p1, p2, q1, q2, k⟩ := h
    obtain ⟨x, rfl, hx⟩ := rep_dF hv
    obtain ⟨y, rfl, hy⟩ := rep_dF hu
    have a3 := bits_2 p2 q2 (by decide)
    refine' ⟨_, ?D, ?R⟩
    case D =>
      refine' pss_one ?g1
      case g1 =>
        refine' ps_ret ?g2
        case g2 =>
          refine' pe_callD C__law_low (hr.mono (by decide)) gk__law_add__law_low ?g3
          case g3 =>
            refine' pa_c ?g4 ?g5
            case g4 =>
              refine' pe_op op_add ?g6 ?g7
              case g6 =>
                refine' pe_op op_mulB ?g8 ?g9
                case g8 =>
                  refine' pe_ix ix_tupH ?g10 ?g11 (fun _ _ => rfl)
                  case g10 => exact pv1 0 rfl lk__law_add_0
                  case g11 => exact pe_int
                case g9 =>
                  refine' pe_ix ix_tupH ?g12 ?g13 (fun _ _ => rfl)
                  case g12 => exact pv1 1 rfl lk__law_add_1
                  case g13 => exact pe_int
              case g7 =>
                refine' pe_op op_mulB ?g14 ?g15
                case g14 =>
                  refine' pe_ix ix_tupH ?g16 ?g17 (fun _ _ => rfl)
                  case g16 => exact pv1 1 rfl lk__law_add_1
                  case g17 => exact pe_int
                case g15 =>
                  refine' pe_ix ix_tupH ?g18 ?g19 (fun _ _ => rfl)
                  case g18 => exact pv1 0 rfl lk__law_add_0
                  case g19 => exact pe_int
            case g5 =>
              refine' pa_c ?g20 ?g21
              case g20 =>
                refine' pe_op op_mulB ?g22 ?g23
                case g22 =>
                  refine' pe_ix ix_tupH ?g24 ?g25 (fun _ _ => rfl)
                  case g24 => exact pv1 0 rfl lk__law_add_0
                  case g25 => exact pe_int
                case g23 =>
                  refine' pe_ix ix_tupH ?g26 ?g27 (fun _ _ => rfl)
                  case g26 => exact pv1 1 rfl lk__law_add_1
                  case g27 => exact pe_int
              case g21 => exact pa_nil
    case R =>
      walk_at "rd"
      simp only [hx, hy, Option.some.injEq, HO.tup.injEq, exists_eq_left']
      walk_at "rd"
      exact ⟨by (clear a3 hu hy hv hx k q1 p2 q0 p0 hr C__law_low F T; omega), by (clear a3 hu hy hv hx k q2 p1 q0 p0 hr C__law_low F T; omega), by (clear hu hy hv hx k q2 q1 p2 p1 q0 p0 hr C__law_low F T; omega), _, _, rfl, Int.mul_pos p0 q0, by (clear hu hy hv hx k q2 q1 p2 p1 q0 p0 hr C__law_low F T; omega), fun z H' s' rep => k z H' s' rep⟩
noncomputable abbrev s__law_mul : Stmt := PySem.Challenge.pw_rimread_k05_solved.main.body.getD 27 (.Pass ⟨0, 0, 0, 0⟩)
theorem sc__law_mul : FnScope ["_law_one", "_law_other"] ["_law_one", "_law_other"] (defScope s__law_mul) := ⟨rfl, rfl, rfl, by decide +kernel, rfl, by decide +kernel, by decide +kernel⟩
theorem lk__law_mul_0 : (defScope s__law_mul).names.lookup ("_law_one" : Str) = some PySem.NameKind.local := by decide +kernel
theorem lk__law_mul_1 : (defScope s__law_mul).names.lookup ("_law_other" : Str) = some PySem.NameKind.local := by decide +kernel
theorem gk__law_mul__law_low : (defScope s__law_mul).names.lookup ("_law_low" : Str) = some PySem.NameKind.globalImplicit := by decide +kernel
theorem ok__law_mul (T : Txt K mg) (F : Fn0 K mg "_law_mul" s__law_mul) (C__law_low : Cal P w K mg base "_law_low" ["_law_top", "_law_bottom"] 1 sp_low) : Cal P w K mg base "_law_mul" ["_law_one", "_law_other"] 2 (sp_two (fun p q => p.1 * q.1)) := by
  refine cal_of F sc__law_mul (fun _ _ _ _ _ _ us hl => match us, hl with | [_, _], _ => rfl) ?len ?body
  case len => rintro vs H Q E ⟨a, b, c, d, rfl, _⟩; rfl
  case body =>
    intro f cdv A outer s H vs Q E hr h
    obtain ⟨v, u, p, q, rfl, hv, hu, p0, q0, p1, p2, q1, q2, k⟩ := h
    obtain ⟨x, rfl, hx⟩ := rep_dF hv
    obtain ⟨y, rfl, hy⟩ := rep_dF hu
    have a3 := bits_2 p2 q2 (by decide)
    refine' ⟨_, ?D, ?R⟩
    case D =>
      refine' pss_one ?g1
      case g1 =>
        refine' ps_ret ?g2
        case g2 =>
          refine' pe_callD C__law_low (hr.mono (by decide)) gk__law_mul__law_low ?g3
          case g3 =>
            refine' pa_c ?g4 ?g5
            case g4 =>
              refine' pe_op op_mulB ?g6 ?g7
              case g6 =>
                refine' pe_ix ix_tupH ?g8 ?g9 (fun _ _ => rfl)
                case g8 => exact pv1 0 rfl lk__law_mul_0
                case g9 => exact pe_int
              case g7 =>
                refine' pe_ix ix_tupH ?g10 ?g11 (fun _ _ => rfl)
                case g10 => exact pv1 1 rfl lk__law_mul_1
                case g11 => exact pe_int
            case g5 =>
              refine' pa_c ?g12 ?g13
              case g12 =>
                refine' pe_op op_mulB ?g14 ?g15
                case g14 =>
                  refine' pe_ix ix_tupH ?g16 ?g17 (fun _ _ => rfl)
                  case g16 => exact pv1 0 rfl lk__law_mul_0
                  case g17 => exact pe_int
                case g15 =>
                  refine' pe_ix ix_tupH ?g18 ?g19 (fun _ _ => rfl)
                  case g18 => exact pv1 1 rfl lk__law_mul_1
                  case g19 => exact pe_int
              case g13 => exact pa_nil
    case R =>
      walk_at "rd"
      simp only [hx, hy, Option.some.injEq, HO.tup.injEq, exists_eq_left']
      walk_at "rd"
      exact ⟨by (clear a3 hu hy hv hx k q2 p2 q0 p0 hr C__law_low F T; omega), by (clear hu hy hv hx k q2 q1 p2 p1 q0 p0 hr C__law_low F T; omega), _, _, rfl, Int.mul_pos p0 q0, by (clear hu hy hv hx k q2 q1 p2 p1 q0 p0 hr C__law_low F T; omega), fun z H' s' rep => k z H' s' rep⟩
theorem comp_drawD {lo : Int} {g : TG} {te : TE} {σ : L2.St} {H : Hp} {Q : VK} (n : Nat) (l : Addr) (r0 : Int) (Pσ : L2.St → Prop) (h0 : Pσ σ) (hz : n ≤ 1000) (hl : H l = some (.lst [.int r0])) (PF : Dt → Prop)
    (hs : ∀ D (i : Nat) σ' H' r, H D = none → (∃ o, H' D = some o) → But l H H' → H' l = some (.lst [.int r]) → i < n → Pσ σ' → ∀ R : L2.St → V → Hp → Prop,
      (∀ σ2 v d r' H3, Pσ σ2 → But l H' H3 → H3 l = some (.lst [.int r']) → Rep (newH H' H3) v d → PF d → R σ2 v H3) → g (.int (lo + i)) σ' H' fun σ2 H2 => te σ2 H2 fun v H3 => R σ2 v H3)
    (hd : ∀ D H' r xs ds, H D = none → But l H H' → H' l = some (.lst [.int r]) → ds.length = n → (∀ d ∈ ds, PF d) → H' D = some (.lst xs) → Reps (cutH H D H') xs ds → Q (.ref D) H') : CompGo (Itr lo n) g tYes te σ H Q := by
  intro D hD
  have hDl : D ≠ l := (ne_of_none hl hD).symm
  refine ⟨fun i m σ' H' => m = n - i ∧ i ≤ n ∧ Pσ σ' ∧ But l H H' ∧ (∃ r, H' l = some (.lst [.int r])) ∧ ∃ (ys : List V) (ds : List Dt), H' D = some (.lst ys) ∧ Reps (cutH H D H') ys ds ∧ ds.length = i ∧ (∀ d ∈ ds, PF d), ⟨n, by simp, Nat.zero_le _, h0, But.of (Same.new hD), ⟨r0, (Same.new hD) _ _ hl⟩, [], [], upd_same, rfl, rfl, by simp⟩, ?_⟩
  rintro i m σ' H' ⟨rfl, hi, hp, hb, ⟨r, hr⟩, ys, ds, hys, hrep, hpl, hpf⟩
  have hyl : ys.length = i := by rw [hrep.length, hpl]
  by_cases hlt : i < n
  · refine .inr ⟨hlt, fun σ2 H2 => Pσ σ2 ∧ But l H H2 ∧ (∃ r, H2 l = some (.lst [.int r])) ∧ ∃ (ys : List V) (ds : List Dt), H2 D = some (.lst ys) ∧ Reps (cutH H D H2) ys ds ∧ ds.length = i + 1 ∧ (∀ d ∈ ds, PF d), fun σ2 H2 ⟨a, b, c⟩ => ⟨n - (i + 1), by (clear c b a hpf hrep hys hr hb hp hi hDl hD hd hs hl hz h0; omega), rfl, hlt, a, b, c⟩, fun x H'' hy => ?_⟩
    obtain ⟨e1, e2⟩ := hy
    subst e1 e2
    simp only [tYes, if_true]
    refine hs D i σ' _ r hD ⟨_, hys⟩ hb hr hlt hp _ fun σ2 v d r' H3 hp2 b3 hl3 rep pf => ?_
    refine ⟨ys, b3 _ _ hDl hys, by rw [hyl]; exact small1000 (by (clear pf rep hl3 b3 hp2 hrep hys hr hb hpf hp hi hDl hD hd hs hl h0; omega)), hp2, fun b o n h => ?_, ⟨r', by rw [upd_ne hDl.symm]; exact hl3⟩, ys ++ [v], ds ++ [d], upd_same, ?_, by simp [hpl], fun z hz => ?_⟩
    · rw [upd_ne (ne_of_none h hD)]
      exact b3 b o n (hb b o n h)
    · rw [cutH_upd]
      refine (Reps.mono (fun b o h => ?_) _ hrep).append ⟨v, [], rfl, Rep.mono (fun b o h => ?_) _ rep, rfl⟩
      · obtain ⟨z1, z2, z3⟩ := cutH_of h
        rw [cutH_at z1 z2]
        exact b3 b o (ne_of_none hl z2).symm z3
      · obtain ⟨z1, z2⟩ := newH_of h
        have hbl : b ≠ l := (ne_of_none hr z1).symm
        rw [cutH_at (ne_of_none hys z1).symm ?_]
        · exact z2
        · cases e : H b with
          | none => rfl
          | some o' => rw [hb b o' hbl e] at z1; cases z1
    · rcases List.mem_append.mp hz with hz | hz
      · exact hpf z hz
      · cases List.mem_singleton.mp hz
        exact pf
  · have e : i = n := by (clear hpf hrep hys hr hb hp hDl hD hd hs hl hz h0; omega)
    subst e
    refine .inl ⟨Nat.le_refl _, hd D H' r ys ds hD hb hr hpl hpf hys hrep⟩
noncomputable abbrev s__law_less : Stmt := PySem.Challenge.pw_rimread_k05_solved.main.body.getD 28 (.Pass ⟨0, 0, 0, 0⟩)
theorem sc__law_less : FnScope ["_law_one", "_law_other"] ["_law_one", "_law_other"] (defScope s__law_less) := ⟨rfl, rfl, rfl, by decide +kernel, rfl, by decide +kernel, by decide +kernel⟩
theorem lk__law_less_0 : (defScope s__law_less).names.lookup ("_law_one" : Str) = some PySem.NameKind.local := by decide +kernel
theorem lk__law_less_1 : (defScope s__law_less).names.lookup ("_law_other" : Str) = some PySem.NameKind.local := by decide +kernel
theorem gk__law_less__law_low : (defScope s__law_less).names.lookup ("_law_low" : Str) = some PySem.NameKind.globalImplicit := by decide +kernel
theorem ok__law_less (T : Txt K mg) (F : Fn0 K mg "_law_less" s__law_less) (C__law_low : Cal P w K mg base "_law_low" ["_law_top", "_law_bottom"] 1 sp_low) : Cal P w K mg base "_law_less" ["_law_one", "_law_other"] 2 (sp_two (fun p q => p.1 * q.2 - q.1 * p.2)) := by
  refine cal_of F sc__law_less (fun _ _ _ _ _ _ us hl => match us, hl with | [_, _], _ => rfl) ?len ?body
  case len => rintro vs H Q E ⟨a, b, c, d, rfl, _⟩; rfl
  case body =>
    intro f cdv A outer s H vs Q E hr h
    obtain ⟨v, u, p, q, rfl, hv, hu, p0, q0, p1, p2, q1, q2, k⟩ := h
    obtain ⟨x, rfl, hx⟩ := rep_dF hv
    obtain ⟨y, rfl, hy⟩ := rep_dF hu
    have a3 := bits_2 p2 q2 (by decide)
    refine' ⟨_, ?D, ?R⟩
    case D =>
      refine' pss_one ?g1
      case g1 =>
        refine' ps_ret ?g2
        case g2 =>
          refine' pe_callD C__law_low (hr.mono (by decide)) gk__law_less__law_low ?g3
          case g3 =>
            refine' pa_c ?g4 ?g5
            case g4 =>
              refine' pe_op op_sub ?g6 ?g7
              case g6 =>
                refine' pe_op op_mulB ?g8 ?g9
                case g8 =>
                  refine' pe_ix ix_tupH ?g10 ?g11 (fun _ _ => rfl)
                  case g10 => exact pv1 0 rfl lk__law_less_0
                  case g11 => exact pe_int
                case g9 =>
                  refine' pe_ix ix_tupH ?g12 ?g13 (fun _ _ => rfl)
                  case g12 => exact pv1 1 rfl lk__law_less_1
                  case g13 => exact pe_int
              case g7 =>
                refine' pe_op op_mulB ?g14 ?g15
                case g14 =>
                  refine' pe_ix ix_tupH ?g16 ?g17 (fun _ _ => rfl)
                  case g16 => exact pv1 1 rfl lk__law_less_1
                  case g17 => exact pe_int
                case g15 =>
                  refine' pe_ix ix_tupH ?g18 ?g19 (fun _ _ => rfl)
                  case g18 => exact pv1 0 rfl lk__law_less_0
                  case g19 => exact pe_int
            case g5 =>
              refine' pa_c ?g20 ?g21
              case g20 =>
                refine' pe_op op_mulB ?g22 ?g23
                case g22 =>
                  refine' pe_ix ix_tupH ?g24 ?g25 (fun _ _ => rfl)
                  case g24 => exact pv1 0 rfl lk__law_less_0
                  case g25 => exact pe_int
                case g23 =>
                  refine' pe_ix ix_tupH ?g26 ?g27 (fun _ _ => rfl)
                  case g26 => exact pv1 1 rfl lk__law_less_1
                  case g27 => exact pe_int
              case g21 => exact pa_nil
    case R =>
      walk_at "rd"
      simp only [hx, hy, Option.some.injEq, HO.tup.injEq, exists_eq_left']
      walk_at "rd"
      exact ⟨by (clear a3 hu hy hv hx k q1 p2 q0 p0 hr C__law_low F T; omega), by (clear a3 hu hy hv hx k q2 p1 q0 p0 hr C__law_low F T; omega), by (clear hu hy hv hx k q2 q1 p2 p1 q0 p0 hr C__law_low F T; omega), _, _, rfl, Int.mul_pos p0 q0, by (clear hu hy hv hx k q2 q1 p2 p1 q0 p0 hr C__law_low F T; omega), fun z H' s' rep => k z H' s' rep⟩
theorem comp_none {J : It} {g : TG} {tt : TT} {te : TE} {σ : L2.St} {H : Hp} {Q : VK} (n : Nat) (Pσ : L2.St → Prop) (h0 : Pσ σ) (hgo : ∀ i H', i < n → Same H H' → J.go i H') (hst : ∀ H', Same H H' → J.stop n H')
    (hs : ∀ D i x σ' H' H'', H D = none → Same H H' → i < n → J.yld i H' x H'' → Pσ σ' → ∀ X R : L2.St → Hp → Prop, (∀ σ2 H3, Pσ σ2 → Same H' H3 → R σ2 H3) → g x σ' H'' fun σ2 H2 => tt σ2 H2 fun b H3 => if b = true then X σ2 H3 else R σ2 H3)
    (hd : ∀ D H', H D = none → Same H H' → H' D = some (.lst []) → Q (.ref D) H') : CompGo J g tt te σ H Q := by
  intro D hD
  refine ⟨fun i m σ' H' => m = n - i ∧ i ≤ n ∧ Pσ σ' ∧ Same H H' ∧ H' D = some (.lst []), ⟨n, by simp, Nat.zero_le _, h0, Same.new hD, upd_same⟩, ?_⟩
  rintro i m σ' H' ⟨rfl, hi, hp, hs', hDD⟩
  by_cases hlt : i < n
  · refine .inr ⟨hgo i H' hlt hs', fun σ2 H2 => Pσ σ2 ∧ Same H H2 ∧ H2 D = some (.lst []), fun σ2 H2 ⟨a, b, c⟩ => ⟨n - (i + 1), by (clear c b a hDD hs' hp hi hD hd hs hst hgo h0; omega), rfl, hlt, a, b, c⟩, fun x H'' hy => ?_⟩
    exact hs D i x σ' H' H'' hD hs' hlt hy hp _ _ fun σ2 H3 hp2 s3 => ⟨hp2, hs'.trans s3, s3 _ _ hDD⟩
  · have e : i = n := by (clear hDD hs' hp hD hd hs hst hgo h0; omega)
    subst e
    exact .inl ⟨hst H' hs', hd D H' hD hs' hDD⟩
noncomputable abbrev s__law_is_grid : Stmt := PySem.Challenge.pw_rimread_k05_solved.main.body.getD 32 (.Pass ⟨0, 0, 0, 0⟩)
theorem sc__law_is_grid : FnScope ["_law_found", "_law_rows", "_law_columns", "_law_row"] ["_law_found", "_law_rows", "_law_columns"] (defScope s__law_is_grid) := ⟨rfl, rfl, rfl, by decide +kernel, rfl, by decide +kernel, by decide +kernel⟩
theorem lk__law_is_grid_0 : (defScope s__law_is_grid).names.lookup ("_law_found" : Str) = some PySem.NameKind.local := by decide +kernel
theorem lk__law_is_grid_1 : (defScope s__law_is_grid).names.lookup ("_law_rows" : Str) = some PySem.NameKind.local := by decide +kernel
theorem lk__law_is_grid_2 : (defScope s__law_is_grid).names.lookup ("_law_columns" : Str) = some PySem.NameKind.local := by decide +kernel
theorem lk__law_is_grid_3 : (defScope s__law_is_grid).names.lookup ("_law_row" : Str) = some PySem.NameKind.local := by decide +kernel
theorem gk__law_is_grid_isinstance : (defScope s__law_is_grid).names.lookup ("isinstance" : Str) = some PySem.NameKind.globalImplicit := by decide +kernel
theorem gk__law_is_grid_len : (defScope s__law_is_grid).names.lookup ("len" : Str) = some PySem.NameKind.globalImplicit := by decide +kernel
theorem gk__law_is_grid_list : (defScope s__law_is_grid).names.lookup ("list" : Str) = some PySem.NameKind.globalImplicit := by decide +kernel
noncomputable def sp_isg : Sp := fun vs H Q _ => ∃ (v : V) (g : List (List (Int × Int))) (m n : Nat), vs = [v, .int m, .int n] ∧ Rep H v (.lst (g.map dRow)) ∧ g.length = m ∧ (∀ r ∈ g, r.length = n ∧ ∀ p ∈ r, Low p ∧ Builtin.Int.intBits p.2 ≤ 8000) ∧ ∀ H', Same H H' → Q (.bl true) H'
theorem ok__law_is_grid (T : Txt K mg) (F : Fn0 K mg "_law_is_grid" s__law_is_grid) (C__law_is_fraction : Cal P w K mg base "_law_is_fraction" ["_law_found"] 2 sp_isf) : Cal P w K mg base "_law_is_grid" ["_law_found", "_law_rows", "_law_columns"] 3 sp_isg := by
  refine cal_of F sc__law_is_grid (fun _ _ _ _ _ _ us hl => match us, hl with | [_, _, _], _ => rfl) ?len ?body
  case len => rintro vs H Q E ⟨a, b, c, d, rfl, _⟩; rfl
  case body =>
    intro f cdv A outer s H vs Q E hr h
    obtain ⟨v, g, m, n, rfl, hv, hm, hrow, k⟩ := h
    obtain ⟨p, xs, rfl, hp, hxs⟩ := id hv
    have hl : xs.length = g.length := by rw [hxs.length, List.length_map]
    refine' ⟨_, ?D, ?R⟩
    case D =>
      refine' pss_cons ?g1 ?g2
      case g1 =>
        refine' ps_if ?g3 ?g4 ?g5
        case g3 =>
          refine' PW.pt ?g6
          case g6 =>
            refine' pw_or ?g7 ?g8
            case g7 =>
              refine' pt_not ?g9
              case g9 =>
                refine' pt_val ?g10
                case g10 =>
                  refine' pe_callE call_isi gk__law_is_grid_isinstance T.n_isinstance bt_isinstance ?g11
                  case g11 =>
                    refine' pa_c ?g12 ?g13
                    case g12 => exact pv1 0 rfl lk__law_is_grid_0
                    case g13 =>
                      refine' pa_c ?g14 ?g15
                      case g14 => exact pe_bty gk__law_is_grid_list T.n_list bt_list
                      case g15 => exact pa_nil
            case g8 =>
              refine' pw_or1 ?g16
              case g16 =>
                refine' pt_cmpR op_ne ?g17 ?g18 (nomark _)
                case g17 =>
                  refine' pe_callE call_lenH gk__law_is_grid_len T.n_len bt_len ?g19
                  case g19 =>
                    refine' pa_c ?g20 ?g21
                    case g20 => exact pv1 0 rfl lk__law_is_grid_0
                    case g21 => exact pa_nil
                case g18 => exact pv1 1 rfl lk__law_is_grid_1
        case g4 =>
          refine' pss_one ?g22
          case g22 =>
            refine' ps_ret ?g23
            case g23 => exact pe_bl
        case g5 => exact pss_nil
      case g2 =>
        refine' pss_cons ?g24 ?g25
        case g24 =>
          refine' ps_for PassesOwn.never rfl ?g26 ?g27 ?g28
          case g26 =>
            refine' pi_listK (K := K) rfl ?g29
            case g29 => exact pv1 0 rfl lk__law_is_grid_0
          case g27 => exact pg_name1 (i := 3) sc__law_is_grid.nd rfl lk__law_is_grid_3
          case g28 =>
            refine' pss_cons ?g30 ?g31
            case g30 =>
              refine' ps_if ?g32 ?g33 ?g34
              case g32 =>
                refine' PW.pt ?g35
                case g35 =>
                  refine' pw_or ?g36 ?g37
                  case g36 =>
                    refine' pt_not ?g38
                    case g38 =>
                      refine' pt_val ?g39
                      case g39 =>
                        refine' pe_callE call_isi gk__law_is_grid_isinstance T.n_isinstance bt_isinstance ?g40
                        case g40 =>
                          refine' pa_c ?g41 ?g42
                          case g41 => exact pv1 3 rfl lk__law_is_grid_3
                          case g42 =>
                            refine' pa_c ?g43 ?g44
                            case g43 => exact pe_bty gk__law_is_grid_list T.n_list bt_list
                            case g44 => exact pa_nil
                  case g37 =>
                    refine' pw_or1 ?g45
                    case g45 =>
                      refine' pt_cmpR op_ne ?g46 ?g47 (nomark _)
                      case g46 =>
                        refine' pe_callE call_lenH gk__law_is_grid_len T.n_len bt_len ?g48
                        case g48 =>
                          refine' pa_c ?g49 ?g50
                          case g49 => exact pv1 3 rfl lk__law_is_grid_3
                          case g50 => exact pa_nil
                      case g47 => exact pv1 2 rfl lk__law_is_grid_2
              case g33 =>
                refine' pss_one ?g51
                case g51 =>
                  refine' ps_ret ?g52
                  case g52 => exact pe_bl
              case g34 => exact pss_nil
            case g31 =>
              refine' pss_one ?g53
              case g53 =>
                refine' ps_if ?g54 ?g55 ?g56
                case g54 =>
                  refine' pt_cmpR (op_neD (hr.units)) ?g57 ?g58 (nomark _)
                  case g57 =>
                    refine' pe_comp (N' := ["_law_number"]) (ix := [none]) rfl rfl (scp_of ?g59) ?g60 (fun _ _ _ => ?g61) (fun _ _ _ => ?g62) (fun _ _ _ => ?g63)
                    case g59 => exact (by show scpB (defScope s__law_is_grid) ["_law_found", "_law_rows", "_law_columns", "_law_row"] _ _ _ = true; decide +kernel)
                    case g60 =>
                      refine' pi_listK (K := K) rfl ?g64
                      case g64 => exact pv1 3 rfl lk__law_is_grid_3
                    case g61 => exact pg_name1 (i := 0) (by show List.Nodup (["_law_number"] : List Str); decide +kernel) rfl rfl
                    case g62 =>
                      refine' pf_one ?g65
                      case g65 =>
                        refine' pt_not ?g66
                        case g66 =>
                          refine' pt_val ?g67
                          case g67 =>
                            refine' pe_callD C__law_is_fraction (hr.mono (by decide)) rfl ?g68
                            case g68 =>
                              refine' pa_c ?g69 ?g70
                              case g69 => exact pv1 0 rfl rfl
                              case g70 => exact pa_nil
                    case g63 => exact pv1 0 rfl rfl
                  case g58 =>
                    refine' pe_lst ?g71
                    case g71 => exact pa_nil
                case g55 =>
                  refine' pss_one ?g72
                  case g72 =>
                    refine' ps_ret ?g73
                    case g73 => exact pe_bl
                case g56 => exact pss_nil
        case g25 =>
          refine' pss_one ?g74
          case g74 =>
            refine' ps_ret ?g75
            case g75 => exact pe_bl
    case R =>
      walk_at "rd"
      have hk : kindV H (.ref p) = some "list" := by simp [kindV, hp]
      refine ⟨_, hk, ?_⟩
      rw [if_neg (by decide)]
      refine ⟨_, .inl hp, ?_⟩
      rw [if_neg (by (clear hk hxs hp hv k hrow hr C__law_is_fraction F T; omega))]
      refine ⟨⟨xs, .inl (.inl hp)⟩, ?_⟩
      refine go_list (xs := xs) (fun i σ H' => ∃ z, σ = [some (.ref p), some (.int m), some (.int n), z] ∧ Same H H') ⟨_, rfl, Same.refl _⟩ ?_ ?_ ?_
      · rintro i σ H' hi ⟨z, rfl, s1⟩
        exact .inl (.inl (s1 _ _ hp))
      · rintro i x σ H' hx ⟨z, rfl, s1⟩
        obtain ⟨q, ys, r, hr0, rfl, hq, hys⟩ := rep_rows hxs hx
        have hrr := hrow r (List.mem_of_getElem? hr0)
        have hyl : ys.length = n := by rw [hys.length, List.length_map]; exact hrr.1
        have hq1 := s1 _ _ hq
        walk_at "rd"
        have hk1 : kindV H' (.ref q) = some "list" := by simp [kindV, hq1]
        refine ⟨_, hk1, ?_⟩
        rw [if_neg (by decide)]
        refine ⟨_, .inl hq1, ?_⟩
        rw [if_neg (by (clear hk1 hq1 hrr hys hq hx hr0 s1 hk hl hxs hp hv k hrow hm hr C__law_is_fraction F T; omega))]
        refine ⟨⟨ys, .inl (.inl hq1)⟩, ?_⟩
        refine comp_none (n := ys.length) (Pσ := fun σ => ∃ e, σ = [e]) ⟨_, rfl⟩ (fun j H2 hj s2 => ⟨ys, ys[j], .inl (.inl (s2 _ _ hq1)), by simp [hj]⟩) (fun H2 s2 => ⟨ys, .inl (.inl (s2 _ _ hq1)), Nat.le_refl _⟩) ?_ ?_
        · rintro D j y σ' H2 H2' hD s2 hj ⟨rfl, hy⟩ ⟨e, rfl⟩ X R kR
          have hy' := hy ys (.inl (.inl (s2 _ _ hq1)))
          obtain ⟨q2, z2, hz2, rfl, hq2⟩ := rep_at hys hy'
          have lz := hrr.2 z2 (List.mem_of_getElem? hz2)
          walk_at "rd"
          refine ⟨_, z2, rfl, ⟨q2, _, rfl, s2 _ _ (s1 _ _ hq2), _, _, rfl, rfl, _, _, rfl, rfl, rfl⟩, lz.1, lz.2, fun H3 s3 => ⟨_, rfl, ?_⟩⟩
          rw [if_neg (by decide)]
          exact kR _ _ ⟨_, rfl⟩ s3
        · intro D H2 hD s2 hDD
          refine ⟨by decide, fun D2 hD2 => ?_⟩
          refine ⟨D, D2, .lst [], .lst [], true, rfl, rfl, ⟨D, [], rfl, (Same.new hD2) _ _ hDD, rfl⟩, ⟨D2, [], rfl, upd_same, rfl⟩, by simp [deq, deqs], by simp [dep, deps], ?_⟩
          walk_at "rd"
          exact s1.trans (s2.trans (Same.new hD2))
      · rintro σ H' ⟨z, rfl, s1⟩
        walk_at "rd"
        exact k _ s1
end Rim5
set_option Elab.async false
set_option linter.all false
set_option maxRecDepth 100000
set_option maxHeartbeats 4000000
namespace Rim5
open PySem PySem.Spec PyProof.Rows L2 RimM RimD
local macro_rules | `(tactic| walk_at "rd") => `(tactic| first | (dsimp only [tSeq, tAsg, gName, tTup, tLst, tCons, tNil, tVar, tC, tCB, tOp, rI, rI0, tTest, tIfS, tNext, tRet, tRetN, tDrop, tB, tAnd, tOr, tNot, tAndV, tOrV, tNotV, rU, tUn, tBM0, tBM, rBits, tCall, L2.start, rIxTH, rIxLH, rLenH, rEqTH, rEq, rNe, scal, tyV, CMul, CMulB, CDivB, CDivF, CPow, List.map_cons, List.map_nil, List.length_cons, List.length_nil, List.replicate, List.cons_append, List.nil_append, List.set_cons_zero, List.set_cons_succ, List.getElem?_cons_zero, List.getElem?_cons_succ, gSub, rSetL, rCat, iRng1, tPar, iList, tComp, pick, tYes, iZip, gTup, gCons, gNil, rSum, rListH, List.map, iRng2, iRngD, tSl, rSlH, tPart, tNoPart, tPar3]; try simp only [tSeq, tAsg, gName, tTup, tLst, tCons, tNil, tVar, tC, tCB, tOp, rI, rI0, tTest, tIfS, tNext, tRet, tRetN, tDrop, tB, tAnd, tOr, tNot, tAndV, tOrV, tNotV, rU, tUn, tBM0, tBM, rBits, tCall, L2.start, rIxTH, rIxLH, rLenH, rEqTH, rEq, rNe, scal, tyV, CMul, CMulB, CDivB, CDivF, CPow, List.map_cons, List.map_nil, List.length_cons, List.length_nil, List.replicate, List.cons_append, List.nil_append, List.append_nil, List.set_cons_zero, List.set_cons_succ, List.getElem?_cons_zero, List.getElem?_cons_succ, Option.some.injEq, List.cons.injEq, V.int.injEq, V.bl.injEq, V.str.injEq, V.ref.injEq, V.ty.injEq, HO.tup.injEq, HO.lst.injEq, exists_eq_left, exists_eq_left', exists_and_left, and_assoc, and_true, true_and, upd_same, atI_0, atI_1, atI_2, Nat.zero_add, Nat.reduceAdd, Nat.reduceSub, decide_eq_true_eq, Bool.not_eq_true', decide_eq_false_iff_not, reduceCtorEq, false_or, or_false, true_or, or_true, plainT_int, plainT_bool, plainT_tuple, plainT_list, plainT_str, Bool.false_eq_true, if_false, if_true, Bool.not_false, Bool.not_true, Bool.not_not, gSub, rSetL, ixN_00, upd_upd, rCat, iRng1, tFor_eq, tPar, iList, tComp, pick, tYes, iZip, gTup, gCons, gNil, rSum, rListH, List.map, Option.bind, iRng2, iRngD, tSl, rSlH, tPart, tNoPart, tPar3]) | simp only [tSeq, tAsg, gName, tTup, tLst, tCons, tNil, tVar, tC, tCB, tOp, rI, rI0, tTest, tIfS, tNext, tRet, tRetN, tDrop, tB, tAnd, tOr, tNot, tAndV, tOrV, tNotV, rU, tUn, tBM0, tBM, rBits, tCall, L2.start, rIxTH, rIxLH, rLenH, rEqTH, rEq, rNe, scal, tyV, CMul, CMulB, CDivB, CDivF, CPow, List.map_cons, List.map_nil, List.length_cons, List.length_nil, List.replicate, List.cons_append, List.nil_append, List.append_nil, List.set_cons_zero, List.set_cons_succ, List.getElem?_cons_zero, List.getElem?_cons_succ, Option.some.injEq, List.cons.injEq, V.int.injEq, V.bl.injEq, V.str.injEq, V.ref.injEq, V.ty.injEq, HO.tup.injEq, HO.lst.injEq, exists_eq_left, exists_eq_left', exists_and_left, and_assoc, and_true, true_and, upd_same, atI_0, atI_1, atI_2, Nat.zero_add, Nat.reduceAdd, Nat.reduceSub, decide_eq_true_eq, Bool.not_eq_true', decide_eq_false_iff_not, reduceCtorEq, false_or, or_false, true_or, or_true, plainT_int, plainT_bool, plainT_tuple, plainT_list, plainT_str, Bool.false_eq_true, if_false, if_true, Bool.not_false, Bool.not_true, Bool.not_not, gSub, rSetL, ixN_00, upd_upd, rCat, iRng1, tFor_eq, tPar, iList, tComp, pick, tYes, iZip, gTup, gCons, gNil, rSum, rListH, List.map, Option.bind, iRng2, iRngD, tSl, rSlH, tPart, tNoPart, tPar3])
variable {P : Program} {w : World} {K : PySem.W.Frag} {mg : Str → Option Value} {base : Heap}
theorem rep_of {H : Hp} {z : Addr} {p : Int × Int} (h : H z = some (.tup [.int p.1, .int p.2])) : Rep H (.ref z) (dF p) := ⟨z, _, rfl, h, _, _, rfl, rfl, _, _, rfl, rfl, rfl⟩
theorem ga_at {H : Hp} {xs : List V} {g : List (List (Int × Int))} {i j : Nat} (h : Reps H xs (g.map dRow)) (hi : i < g.length) (hj : j < (g.getD i []).length) : ∃ q ys z, xs[i]? = some (.ref q) ∧ H q = some (.lst ys) ∧ ys.length = (g.getD i []).length ∧ ys[j]? = some (.ref z) ∧ H z = some (.tup [.int (ga g i j).1, .int (ga g i j).2]) ∧ Reps H ys ((g.getD i []).map dF) := by
  have hl : xs.length = g.length := by rw [h.length, List.length_map]
  obtain ⟨q, ys, r, hr, e, hq, hys⟩ := rep_rows h (i := i) (x := xs[i]'(by omega)) (by simp [show i < xs.length by omega])
  have gd : g.getD i [] = r := by rw [List.getD_eq_getElem?_getD, hr]; rfl
  rw [gd] at hj ⊢
  have yl : ys.length = r.length := by rw [hys.length, List.length_map]
  obtain ⟨z, p, hp, e2, hz⟩ := rep_at hys (i := j) (x := ys[j]'(by (clear gd hys hq e hr hl hi h; omega))) (by simp [show j < ys.length by (clear gd hys hq e hr hl hi h; omega)])
  have ep : ga g i j = p := by unfold ga; rw [gd, List.getD_eq_getElem?_getD, hp]; rfl
  rw [ep]
  exact ⟨q, ys, z, by rw [← e]; simp [show i < xs.length by (clear ep hz e2 hp yl gd hys hq e hr hj h; omega)], hq, yl, by rw [← e2]; simp [show j < ys.length by (clear ep hz e2 hp gd hys hq e hr hl hi h; omega)], hz, hys⟩
theorem atI_off {xs : List V} {i : Nat} {v : V} (h : xs[i]? = some v) : atI xs (0 + (i : Int)) = some v := by
  rw [Int.zero_add]
  exact atI_nn (by omega) (by rw [show ((i : Nat) : Int).toNat = i by omega]; exact h)
structure Pr (n c : Nat) (g X o : List (List (Int × Int))) (N left : Mat) (L Lc : Nat → Int) (d : Int) (Cc : Nat → Nat → Int) : Prop where
  n12 : n ≤ 12
  c3 : c ≤ 3
  gl : g.length = n
  gr : ∀ r ∈ g, r.length = n
  xl : X.length = n
  xr : ∀ r ∈ X, r.length = c
  ol : o.length = n
  orow : ∀ r ∈ o, r.length = c
  gi_ : ∀ r t, r < n → t < n → Is (ga g r t) (N r t) (L r) ∧ (N r t).natAbs ≤ 2 ^ 100
  xi : ∀ t q, t < n → q < c → Is (ga X t q) (left t q) (d * Lc q) ∧ (left t q).natAbs ≤ 2 ^ 2080
  oi : ∀ r q, r < n → q < c → Is (ga o r q) (Cc q r) (Lc q) ∧ (su n fun t => N r t * left t q) = d * (L r * Cc q r)
  Lb : ∀ r, r < n → (L r).natAbs ≤ 2 ^ 80
  db : ∀ q, q < c → (d * Lc q).natAbs ≤ 2 ^ 1200
noncomputable abbrev s__law_times : Stmt := PySem.Challenge.pw_rimread_k05_solved.main.body.getD 33 (.Pass ⟨0, 0, 0, 0⟩)
theorem sc__law_times : FnScope ["_law_grid", "_law_other", "_law_columns", "_law_made", "_law_row", "_law_line", "_law_j", "_law_total", "_law_k"] ["_law_grid", "_law_other", "_law_columns"] (defScope s__law_times) := ⟨rfl, rfl, rfl, by decide +kernel, rfl, by decide +kernel, by decide +kernel⟩
theorem lk__law_times_0 : (defScope s__law_times).names.lookup ("_law_grid" : Str) = some PySem.NameKind.local := by decide +kernel
theorem lk__law_times_1 : (defScope s__law_times).names.lookup ("_law_other" : Str) = some PySem.NameKind.local := by decide +kernel
theorem lk__law_times_2 : (defScope s__law_times).names.lookup ("_law_columns" : Str) = some PySem.NameKind.local := by decide +kernel
theorem lk__law_times_3 : (defScope s__law_times).names.lookup ("_law_made" : Str) = some PySem.NameKind.local := by decide +kernel
theorem lk__law_times_4 : (defScope s__law_times).names.lookup ("_law_row" : Str) = some PySem.NameKind.local := by decide +kernel
theorem lk__law_times_5 : (defScope s__law_times).names.lookup ("_law_line" : Str) = some PySem.NameKind.local := by decide +kernel
theorem lk__law_times_6 : (defScope s__law_times).names.lookup ("_law_j" : Str) = some PySem.NameKind.local := by decide +kernel
theorem lk__law_times_7 : (defScope s__law_times).names.lookup ("_law_total" : Str) = some PySem.NameKind.local := by decide +kernel
theorem lk__law_times_8 : (defScope s__law_times).names.lookup ("_law_k" : Str) = some PySem.NameKind.local := by decide +kernel
theorem gk__law_times__law_add : (defScope s__law_times).names.lookup ("_law_add" : Str) = some PySem.NameKind.globalImplicit := by decide +kernel
theorem gk__law_times__law_mul : (defScope s__law_times).names.lookup ("_law_mul" : Str) = some PySem.NameKind.globalImplicit := by decide +kernel
theorem gk__law_times_len : (defScope s__law_times).names.lookup ("len" : Str) = some PySem.NameKind.globalImplicit := by decide +kernel
theorem gk__law_times_range : (defScope s__law_times).names.lookup ("range" : Str) = some PySem.NameKind.globalImplicit := by decide +kernel
noncomputable def sp_times : Sp := fun vs H Q _ => ∃ (v u : V) (g X o : List (List (Int × Int))) (n c : Nat) (N left : Mat) (L Lc : Nat → Int) (d : Int) (Cc : Nat → Nat → Int), vs = [v, u, .int c] ∧ Rep H v (.lst (g.map dRow)) ∧ Rep H u (.lst (X.map dRow)) ∧ Pr n c g X o N left L Lc d Cc ∧ ∀ x H', Same H H' → Rep H' x (.lst (o.map dRow)) → Q x H'
theorem ok__law_times (T : Txt K mg) (F : Fn0 K mg "_law_times" s__law_times) (C__law_add : Cal P w K mg base "_law_add" ["_law_one", "_law_other"] 2 (sp_two (fun p q => p.1 * q.2 + q.1 * p.2))) (C__law_mul : Cal P w K mg base "_law_mul" ["_law_one", "_law_other"] 2 (sp_two (fun p q => p.1 * q.1))) : Cal P w K mg base "_law_times" ["_law_grid", "_law_other", "_law_columns"] 3 sp_times := by
  refine cal_of F sc__law_times (fun _ _ _ _ _ _ us hl => match us, hl with | [_, _, _], _ => rfl) ?len ?body
  case len => rintro vs H Q E ⟨a, b, c, d, e, f, g, h, i, j, k, l, m, rfl, _⟩; rfl
  case body =>
    intro f cdv A outer s H vs Q E hr h
    obtain ⟨v, u, g, X, o, n, c, N, left, L, Lc, d, Cc, rfl, hv, hu, pr, k⟩ := h
    obtain ⟨p, xs, rfl, hp, hxs⟩ := id hv
    obtain ⟨pu, xu, rfl, hpu, hxu⟩ := id hu
    have n12 := pr.n12
    have c3 := pr.c3
    have lx : xs.length = n := by rw [hxs.length, List.length_map, pr.gl]
    have lu : xu.length = n := by rw [hxu.length, List.length_map, pr.xl]
    refine' ⟨_, ?D, ?R⟩
    case D =>
      refine' pss_cons ?g1 ?g2
      case g1 =>
        refine' ps_set1 (i := 3) sc__law_times.nd rfl lk__law_times_3 ?g3
        case g3 =>
          refine' pe_lst ?g4
          case g4 => exact pa_nil
      case g2 =>
        refine' pss_cons ?g5 ?g6
        case g5 =>
          refine' ps_for PassesOwn.never rfl ?g7 ?g8 ?g9
          case g7 =>
            refine' pi_listK (K := K) rfl ?g10
            case g10 => exact pv1 0 rfl lk__law_times_0
          case g8 => exact pg_name1 (i := 4) sc__law_times.nd rfl lk__law_times_4
          case g9 =>
            refine' pss_cons ?g11 ?g12
            case g11 =>
              refine' ps_set1 (i := 5) sc__law_times.nd rfl lk__law_times_5 ?g13
              case g13 =>
                refine' pe_lst ?g14
                case g14 => exact pa_nil
            case g12 =>
              refine' pss_cons ?g15 ?g16
              case g15 =>
                refine' ps_for PassesOwn.never rfl ?g17 ?g18 ?g19
                case g17 =>
                  refine' pi_range1 gk__law_times_range T.n_range ?g20
                  case g20 =>
                    refine' pa_c ?g21 ?g22
                    case g21 => exact pv1 2 rfl lk__law_times_2
                    case g22 => exact pa_nil
                case g18 => exact pg_name1 (i := 6) sc__law_times.nd rfl lk__law_times_6
                case g19 =>
                  refine' pss_cons ?g23 ?g24
                  case g23 =>
                    refine' ps_set1 (i := 7) sc__law_times.nd rfl lk__law_times_7 ?g25
                    case g25 =>
                      refine' pe_tup ?g26
                      case g26 =>
                        refine' pa_c ?g27 ?g28
                        case g27 => exact pe_int
                        case g28 =>
                          refine' pa_c ?g29 ?g30
                          case g29 => exact pe_int
                          case g30 => exact pa_nil
                  case g24 =>
                    refine' pss_cons ?g31 ?g32
                    case g31 =>
                      refine' ps_for PassesOwn.never rfl ?g33 ?g34 ?g35
                      case g33 =>
                        refine' pi_range1 gk__law_times_range T.n_range ?g36
                        case g36 =>
                          refine' pa_c ?g37 ?g38
                          case g37 =>
                            refine' pe_callE call_lenH gk__law_times_len T.n_len bt_len ?g39
                            case g39 =>
                              refine' pa_c ?g40 ?g41
                              case g40 => exact pv1 4 rfl lk__law_times_4
                              case g41 => exact pa_nil
                          case g38 => exact pa_nil
                      case g34 => exact pg_name1 (i := 8) sc__law_times.nd rfl lk__law_times_8
                      case g35 =>
                        refine' pss_one ?g42
                        case g42 =>
                          refine' ps_set1 (i := 7) sc__law_times.nd rfl lk__law_times_7 ?g43
                          case g43 =>
                            refine' pe_callD C__law_add (hr.mono (by decide)) gk__law_times__law_add ?g44
                            case g44 =>
                              refine' pa_c ?g45 ?g46
                              case g45 => exact pv1 7 rfl lk__law_times_7
                              case g46 =>
                                refine' pa_c ?g47 ?g48
                                case g47 =>
                                  refine' pe_callD C__law_mul (hr.mono (by decide)) gk__law_times__law_mul ?g49
                                  case g49 =>
                                    refine' pa_c ?g50 ?g51
                                    case g50 =>
                                      refine' pe_ix ix_listH ?g52 ?g53 (fun _ _ => rfl)
                                      case g52 => exact pv1 4 rfl lk__law_times_4
                                      case g53 => exact pv1 8 rfl lk__law_times_8
                                    case g51 =>
                                      refine' pa_c ?g54 ?g55
                                      case g54 =>
                                        refine' pe_ix ix_listH ?g56 ?g57 (fun _ _ => rfl)
                                        case g56 =>
                                          refine' pe_ix ix_listH ?g58 ?g59 (fun _ _ => rfl)
                                          case g58 => exact pv1 1 rfl lk__law_times_1
                                          case g59 => exact pv1 8 rfl lk__law_times_8
                                        case g57 => exact pv1 6 rfl lk__law_times_6
                                      case g55 => exact pa_nil
                                case g48 => exact pa_nil
                    case g32 =>
                      refine' pss_one ?g60
                      case g60 =>
                        refine' ps_expr1 ?g61
                        case g61 =>
                          refine' pe_bm PySem.F.plainAttrs_list PySem.F.slot_list_append PySem.F.type_list_append mt_append ?g62 ?g63
                          case g62 => exact pv1 5 rfl lk__law_times_5
                          case g63 =>
                            refine' pa_c ?g64 ?g65
                            case g64 => exact pv1 7 rfl lk__law_times_7
                            case g65 => exact pa_nil
              case g16 =>
                refine' pss_one ?g66
                case g66 =>
                  refine' ps_expr1 ?g67
                  case g67 =>
                    refine' pe_bm PySem.F.plainAttrs_list PySem.F.slot_list_append PySem.F.type_list_append mt_append ?g68 ?g69
                    case g68 => exact pv1 3 rfl lk__law_times_3
                    case g69 =>
                      refine' pa_c ?g70 ?g71
                      case g70 => exact pv1 5 rfl lk__law_times_5
                      case g71 => exact pa_nil
        case g6 =>
          refine' pss_one ?g72
          case g72 =>
            refine' ps_ret ?g73
            case g73 => exact pv1 3 rfl lk__law_times_3
    case R =>
      walk_at "rd"
      refine ⟨by decide, fun M nM => ?_⟩
      refine ⟨⟨xs, .inl (.inl ((Same.new nM) _ _ hp))⟩, ?_⟩
      refine go_list (xs := xs) (fun i σ H' => ∃ (S : Hp) (ys : List V) (e4 e5 e6 e7 e8 : Option V), σ = [some (.ref p), some (.ref pu), some (.int c), some (.ref M), e4, e5, e6, e7, e8] ∧ Same H S ∧ Same S H' ∧ S M = none ∧ H' M = some (.lst ys) ∧ Reps S ys ((o.take i).map dRow)) ⟨H, [], _, _, _, _, _, rfl, Same.refl _, Same.new nM, nM, upd_same, rfl⟩ ?_ ?_ ?_
      · rintro i σ H' hi ⟨S, ys, e4, e5, e6, e7, e8, rfl, h1, h2, h3, h4, h5⟩
        exact .inl (.inl (h2 _ _ (h1 _ _ hp)))
      · rintro i x σ H' hx ⟨S, ys, e4, e5, e6, e7, e8, rfl, hs, sm, sM, hM, ry⟩
        have hi : i < n := by rw [← lx]; exact (List.getElem?_eq_some_iff.mp hx).1
        obtain ⟨q, zs, r, hr0, rfl, hq, hzs⟩ := rep_rows hxs hx
        have gd : g.getD i [] = r := by rw [List.getD_eq_getElem?_getD, hr0]; rfl
        have rl : r.length = n := pr.gr r (List.mem_of_getElem? hr0)
        have lz : zs.length = n := by rw [hzs.length, List.length_map, rl]
        have lys : ys.length = i := by rw [ry.length, List.length_map, List.length_take, pr.ol]; (clear gd hzs hq hx hr0 ry hM sM sm hs nM c3 n12 hxu hpu hu hxs hp hv k pr hr C__law_mul C__law_add F T; omega)
        have om : o[i]? = some (o[i]'(by rw [pr.ol]; exact hi)) := List.getElem?_eq_getElem _
        have orl := pr.orow _ (List.getElem_mem (show i < o.length by rw [pr.ol]; exact hi))
        have od : o.getD i [] = o[i]'(by rw [pr.ol]; exact hi) := by rw [List.getD_eq_getElem?_getD, om]; rfl
        walk_at "rd"
        refine ⟨by decide, fun Ln nL => ⟨by (clear nL od om lys lz rl gd hzs hq hx hr0 ry hM sM sm hs nM lu lx n12 hxu hpu hu hxs hp hv k hr C__law_mul C__law_add F T; omega), by (clear nL od om lys lz rl gd hzs hq hx hr0 ry hM sM sm hs nM lu lx n12 hxu hpu hu hxs hp hv k hr C__law_mul C__law_add F T; omega), ?_⟩⟩
        rw [show Int.toNat (c : Int) = c by (clear nL od om lys lz rl gd hzs hq hx hr0 ry hM sM sm hs nM lu lx n12 hxu hpu hu hxs hp hv k hr C__law_mul C__law_add F T; omega)]
        have MLn : M ≠ Ln := ne_of_none hM nL
        refine go_range (fun j σ H2 => ∃ (S : Hp) (ws : List V) (e6 e7 e8 : Option V), σ = [some (.ref p), some (.ref pu), some (.int c), some (.ref M), some (.ref q), some (.ref Ln), e6, e7, e8] ∧ Same H S ∧ Same S H2 ∧ S M = none ∧ S Ln = none ∧ H2 M = some (.lst ys) ∧ H2 Ln = some (.lst ws) ∧ Reps S ys ((o.take i).map dRow) ∧ Reps S ws (((o.getD i []).take j).map dF)) ⟨S, [], _, _, _, rfl, hs, sm.trans (Same.new nL), sM, sm.free nL, (Same.new nL) _ _ hM, upd_same, ry, rfl⟩ ?_ ?_
        · rintro j σ H2 hj ⟨S, ws, e6, e7, e8, rfl, hs, sm, sM, sL, hM, hL, ry, rw'⟩
          have lw : ws.length = j := by rw [rw'.length, List.length_map, List.length_take, od, orl]; (clear rw' ry hL hM sL sM sm hs MLn nL od om lys lz rl gd hzs hq hx hr0 nM lu lx c3 n12 hxu hpu hu hxs hp hv k hr C__law_mul C__law_add F T; omega)
          walk_at "rd"
          refine ⟨by decide, fun t0 nt0 => ?_⟩
          have S0 : Same H2 (upd H2 t0 (HO.tup [.int 0, .int 1])) := Same.new nt0
          refine ⟨_, .inl (S0 _ _ (sm _ _ (hs _ _ hq))), by (clear S0 nt0 lw rw' ry hL hM sL sM sm hs hj MLn nL od orl om lys gd hzs hq hx hr0 nM c3 hxu hpu hu hxs hp hv k hr C__law_mul C__law_add F T; omega), by (clear S0 nt0 lw rw' ry hL hM sL sM sm hs hj MLn nL od orl om lys gd hzs hq hx hr0 nM c3 hxu hpu hu hxs hp hv k hr C__law_mul C__law_add F T; omega), ?_⟩
          rw [show Int.toNat (zs.length : Int) = n by (clear S0 nt0 lw rw' ry hL hM sL sM sm hs hj MLn nL od orl om gd hzs hq hx hr0 nM c3 hxu hpu hu hxs hp hv k hr C__law_mul C__law_add F T; omega)]
          have b0 : L i * (d * Lc j) ≠ 0 := Int.mul_ne_zero (pr.gi_ i i hi hi).1.ne (pr.xi i j hi hj).1.ne
          refine go_range (fun k σ H3 => ∃ (S : Hp) (tv : Addr) (tot : Int × Int) (e8 : Option V), σ = [some (.ref p), some (.ref pu), some (.int c), some (.ref M), some (.ref q), some (.ref Ln), some (.int (0 + j)), some (.ref tv), e8] ∧ Same H S ∧ Same S H3 ∧ S M = none ∧ S Ln = none ∧ H3 M = some (.lst ys) ∧ H3 Ln = some (.lst ws) ∧ Reps S ys ((o.take i).map dRow) ∧ Reps S ws (((o.getD i []).take j).map dF) ∧ S tv = some (.tup [.int tot.1, .int tot.2]) ∧ Is tot (su k fun t => N i t * left t j) (L i * (d * Lc j)))
            ⟨grow S H2 (upd H2 t0 (HO.tup [.int 0, .int 1])), t0, (0, 1), _, rfl, hs.trans (grow_same sm), grow_in sm S0, by rw [grow_old hM]; exact sM, by rw [grow_old hL]; exact sL, S0 _ _ hM, S0 _ _ hL, Reps.mono (grow_same sm) _ ry, Reps.mono (grow_same sm) _ rw', by rw [grow_at nt0, upd_same], is_zero b0⟩ ?_ ?_
          · rintro kk σ H3 hk ⟨S, tv, tot, e8, rfl, hs, sm, sM, sL, hM, hL, ry, rw', htv, his⟩
            have up : Same H H3 := hs.trans sm
            obtain ⟨zq, zp, hzp, ezq, hzq⟩ := rep_at hzs (i := kk) (x := zs[kk]'(by (clear up his htv rw' ry hL hM sL sM sm hs b0 S0 nt0 lw hj MLn nL od orl om lys gd hzs hq hx hr0 nM c3 n12 hxu hpu hu hxs hp hv k hr C__law_mul C__law_add F T; omega))) (by simp [show kk < zs.length by (clear up his htv rw' ry hL hM sL sM sm hs b0 S0 nt0 lw hj MLn nL od orl om lys gd hzs hq hx hr0 nM c3 n12 hxu hpu hu hxs hp hv k hr C__law_mul C__law_add F T; omega)])
            have eg : ga g i kk = zp := by unfold ga; rw [gd, List.getD_eq_getElem?_getD, hzp]; rfl
            have Xl : (X.getD kk []).length = c := pr.xr _ (by rw [List.getD_eq_getElem?_getD, List.getElem?_eq_getElem (by rw [pr.xl]; exact hk)]; exact List.getElem_mem _)
            obtain ⟨qx, yx, zx, hx1, hx2, hx3, hx4, hx5, _⟩ := ga_at hxu (i := kk) (j := j) (by rw [pr.xl]; exact hk) (by rw [Xl]; exact hj)
            obtain ⟨i1, n1⟩ := pr.gi_ i kk hi hk
            obtain ⟨i2, n2⟩ := pr.xi kk j hk hj
            obtain ⟨a1, a2⟩ := Is.le i1 n1 (pr.Lb i hi)
            obtain ⟨a3, a4⟩ := Is.le i2 n2 (pr.db j hj)
            have im := i1.mul i2
            have nb : ∀ t, t < kk + 1 → (N i t * left t j).natAbs ≤ 2 ^ 2180 := fun t ht => by
              rw [Int.natAbs_mul, show (2180 : Nat) = 100 + 2080 by rfl, Nat.pow_add]
              exact Nat.mul_le_mul (pr.gi_ i t hi (by (clear im a4 a3 a2 a1 n2 i2 n1 i1 hx5 hx4 hx3 hx2 hx1 Xl eg hzq ezq hzp up his htv rw' ry hL hM sL sM sm hs b0 S0 nt0 lw hj MLn nL od orl om lys gd hzs hq hx hr0 nM c3 n12 hxu hpu hu hxs hp hv k hr C__law_mul C__law_add F T; omega))).2 (pr.xi t j (by (clear im a4 a3 a2 a1 n2 i2 n1 i1 hx5 hx4 hx3 hx2 hx1 Xl eg hzq ezq hzp up his htv rw' ry hL hM sL sM sm hs b0 S0 nt0 lw hj MLn nL od orl om lys gd hzs hq hx hr0 nM c3 n12 hxu hpu hu hxs hp hv k hr C__law_mul C__law_add F T; omega)) hj).2
            have Lb : (L i * (d * Lc j)).natAbs ≤ 2 ^ 1280 := by
              rw [Int.natAbs_mul, show (1280 : Nat) = 80 + 1200 by rfl, Nat.pow_add]
              exact Nat.mul_le_mul (pr.Lb i hi) (pr.db j hj)
            have sb : (su kk fun t => N i t * left t j).natAbs ≤ 2 ^ 2184 := by
              refine Nat.le_trans (su_le (K := 2 ^ 2180) fun t ht => nb t (by (clear Lb nb im a4 a3 a2 a1 n2 i2 n1 i1 hx5 hx4 hx3 hx2 hx1 Xl eg hzq ezq hzp up his htv rw' ry hL hM sL sM sm hs hk b0 S0 nt0 lw hj MLn nL od orl om lys lz rl gd hzs hq hx hr0 nM lu lx c3 n12 hxu hpu hu hxs hp hv k hr C__law_mul C__law_add F T; omega))) ?_
              rw [show (2184 : Nat) = 4 + 2180 by rfl, Nat.pow_add]
              exact Nat.mul_le_mul_right _ (by (clear Lb nb im a4 a3 a2 a1 n2 i2 n1 i1 hx5 hx4 hx3 hx2 hx1 Xl eg hzq ezq hzp up his htv rw' ry hL hM sL sM sm hs b0 S0 nt0 lw hj MLn nL od orl om lys gd hzs hq hx hr0 nM c3 hxu hpu hu hxs hp hv k hr C__law_mul C__law_add F T; omega))
            obtain ⟨a5, a6⟩ := Is.le im (nb kk (by (clear sb Lb nb im a4 a3 a2 a1 n2 i2 n1 i1 hx5 hx4 hx3 hx2 hx1 Xl eg hzq ezq hzp up his htv rw' ry hL hM sL sM sm hs hk b0 S0 nt0 lw hj MLn nL od orl om lys lz rl gd hzs hq hx hr0 nM lu lx c3 n12 hxu hpu hu hxs hp hv k hr C__law_mul C__law_add F T; omega))) Lb
            obtain ⟨a7, a8⟩ := Is.le his sb Lb
            have b1 := bits_of_le a1
            have b2 := bits_of_le a2
            have b3 := bits_of_le a3
            have b4 := bits_of_le a4
            have b5 := bits_of_le a5
            have b6 := bits_of_le a6
            have b7 := bits_of_le a7
            have b8 := bits_of_le a8
            clear a1 a2 a3 a4 a5 a6 a7 a8 nb Lb sb n1 n2
            walk_at "rd"
            refine ⟨zs, up _ _ hq, .ref zq, atI_off (by rw [← ezq]; simp [show kk < zs.length by (clear b8 b7 b6 b5 b4 b3 b2 b1 im i2 i1 hx5 hx4 hx3 hx2 hx1 Xl eg hzq ezq hzp up his htv rw' ry hL hM sL sM sm hs b0 S0 nt0 lw hj MLn nL od orl om lys gd hzs hq hx hr0 nM c3 n12 hxu hpu hu hxs hp hv k hr C__law_mul C__law_add F T; omega)]), xu, up _ _ hpu, .ref qx, atI_off hx1, qx, rfl, yx, up _ _ hx2, .ref zx, atI_off hx4, ?_⟩
            refine ⟨_, _, ga g i kk, ga X kk j, rfl, rep_of (by rw [eg]; exact up _ _ hzq), rep_of (up _ _ hx5), i1.low.pos, i2.low.pos, by (clear b8 b7 b6 b5 b4 b3 b2 im i2 i1 hx5 hx4 hx3 hx2 hx1 Xl eg hzq ezq hzp up his htv rw' ry hL hM sL sM sm hs hk b0 S0 nt0 lw hj MLn nL od orl om lys lz rl gd hzs hq hx hr0 nM lu lx c3 n12 hxu hpu hu hxs hp hv k hr C__law_mul C__law_add F T; omega), by (clear b8 b7 b6 b5 b4 b3 b1 im i2 i1 hx5 hx4 hx3 hx2 hx1 Xl eg hzq ezq hzp up his htv rw' ry hL hM sL sM sm hs hk b0 S0 nt0 lw hj MLn nL od orl om lys lz rl gd hzs hq hx hr0 nM lu lx c3 n12 hxu hpu hu hxs hp hv k hr C__law_mul C__law_add F T; omega), by (clear b8 b7 b6 b5 b4 b2 b1 im i2 i1 hx5 hx4 hx3 hx2 hx1 Xl eg hzq ezq hzp up his htv rw' ry hL hM sL sM sm hs hk b0 S0 nt0 lw hj MLn nL od orl om lys lz rl gd hzs hq hx hr0 nM lu lx c3 n12 hxu hpu hu hxs hp hv k hr C__law_mul C__law_add F T; omega), by (clear b8 b7 b6 b5 b3 b2 b1 im i2 i1 hx5 hx4 hx3 hx2 hx1 Xl eg hzq ezq hzp up his htv rw' ry hL hM sL sM sm hs hk b0 S0 nt0 lw hj MLn nL od orl om lys lz rl gd hzs hq hx hr0 nM lu lx c3 n12 hxu hpu hu hxs hp hv k hr C__law_mul C__law_add F T; omega), fun z4 H4 s4 rep4 => ?_⟩
            refine ⟨_, _, tot, nf ((ga g i kk).1 * (ga X kk j).1) ((ga g i kk).2 * (ga X kk j).2), rfl, rep_of (s4 _ _ (sm _ _ htv)), Rep.mono newH_same _ rep4, his.low.pos, im.low.pos, by (clear rep4 s4 b8 b6 b5 b4 b3 b2 b1 im i2 i1 hx5 hx4 hx3 hx2 hx1 Xl eg hzq ezq hzp up his htv rw' ry hL hM sL sM sm hs hk b0 S0 nt0 lw hj MLn nL od orl om lys lz rl gd hzs hq hx hr0 nM lu lx c3 n12 hxu hpu hu hxs hp hv k hr C__law_mul C__law_add F T; omega), by (clear rep4 s4 b7 b6 b5 b4 b3 b2 b1 im i2 i1 hx5 hx4 hx3 hx2 hx1 Xl eg hzq ezq hzp up his htv rw' ry hL hM sL sM sm hs hk b0 S0 nt0 lw hj MLn nL od orl om lys lz rl gd hzs hq hx hr0 nM lu lx c3 n12 hxu hpu hu hxs hp hv k hr C__law_mul C__law_add F T; omega), by (clear rep4 s4 b8 b7 b6 b4 b3 b2 b1 im i2 i1 hx5 hx4 hx3 hx2 hx1 Xl eg hzq ezq hzp up his htv rw' ry hL hM sL sM sm hs hk b0 S0 nt0 lw hj MLn nL od orl om lys lz rl gd hzs hq hx hr0 nM lu lx c3 n12 hxu hpu hu hxs hp hv k hr C__law_mul C__law_add F T; omega), by (clear rep4 s4 b8 b7 b5 b4 b3 b2 b1 im i2 i1 hx5 hx4 hx3 hx2 hx1 Xl eg hzq ezq hzp up his htv rw' ry hL hM sL sM sm hs hk b0 S0 nt0 lw hj MLn nL od orl om lys lz rl gd hzs hq hx hr0 nM lu lx c3 n12 hxu hpu hu hxs hp hv k hr C__law_mul C__law_add F T; omega), fun z5 H5 s5 rep5 => ?_⟩
            have ip := his.plus im
            obtain ⟨_, e5, h5⟩ := rep_dF rep5
            cases e5
            obtain ⟨nz5, hz5⟩ := newH_of h5
            have s45 := s4.trans s5
            exact ⟨grow S H3 H5, z5, rfl, hs.trans (grow_same sm), grow_in sm s45, by rw [grow_old hM]; exact sM, by rw [grow_old hL]; exact sL, s45 _ _ hM, s45 _ _ hL, Reps.mono (grow_same sm) _ ry, Reps.mono (grow_same sm) _ rw', _, by rw [grow_at (s4.free nz5)]; exact hz5, ip⟩
          · rintro σ H3 ⟨S, tv, tot, e8, rfl, hs, sm, sM, sL, hM, hL, ry, rw', htv, his⟩
            obtain ⟨o1, o2⟩ := pr.oi i j hi hj
            rw [o2] at his
            have et : tot = ga o i j := his.same o1
            walk_at "rd"
            refine ⟨.inl ⟨_, .inl (.inl hL)⟩, Ln, ws, .ref tv, rfl, rfl, hL, small1000 (by (clear et o2 o1 his htv rw' ry hL hM sL sM sm hs b0 S0 nt0 MLn nL od om lys lz rl gd hzs hq hx hr0 nM lu lx n12 hxu hpu hu hxs hp hv k hr C__law_mul C__law_add F T; omega)), S, hs, same_put sm sL, sM, sL, by rw [upd_ne MLn]; exact hM, _, upd_same, ry, ?_⟩
            have hoj : (o.getD i [])[j]? = some (ga o i j) := by
              unfold ga
              rw [List.getD_eq_getElem?_getD (l := o.getD i []), od, List.getElem?_eq_getElem (by (clear et o2 o1 his htv rw' ry hL hM sL sM sm hs b0 S0 nt0 MLn nL od om lys lz rl gd hzs hq hx hr0 nM lu lx c3 n12 hxu hpu hu hxs hp hv k hr C__law_mul C__law_add F T; omega))]
              rfl
            rw [List.take_succ, hoj, List.map_append, ← et]
            exact rw'.append ⟨_, _, rfl, rep_of htv, rfl⟩
        · rintro σ H2 ⟨S, ws, e6, e7, e8, rfl, hs, sm, sM, sL, hM, hL, ry, rw'⟩
          rw [List.take_of_length_le (by rw [od, orl]; exact Nat.le_refl _)] at rw'
          have up : Same S (upd S Ln (.lst ws)) := Same.new sL
          walk_at "rd"
          refine ⟨.inl ⟨_, .inl (.inl hM)⟩, M, ys, .ref Ln, rfl, rfl, hM, small1000 (by (clear up rw' ry hL hM sL sM sm hs MLn nL od orl om gd hzs hq hx hr0 nM c3 hxu hpu hu hxs hp hv k hr C__law_mul C__law_add F T; omega)), upd S Ln (.lst ws), hs.trans up, fun b ob h => ?_, by rw [upd_ne MLn]; exact sM, _, upd_same, ?_⟩
          · by_cases hb : b = Ln
            · subst hb
              rw [upd_same] at h
              rw [upd_ne MLn.symm, ← h]
              exact hL
            · rw [upd_ne hb] at h
              rw [upd_ne (ne_of_none h sM)]
              exact sm _ _ h
          · rw [List.take_succ, om, List.map_append, ← od]
            exact (Reps.mono up _ ry).append ⟨_, _, rfl, ⟨Ln, ws, rfl, upd_same, Reps.mono up _ rw'⟩, rfl⟩
      · rintro σ H' ⟨S, ys, e4, e5, e6, e7, e8, rfl, hs, sm, sM, hM, ry⟩
        walk_at "rd"
        rw [List.take_of_length_le (by rw [pr.ol, lx]; exact Nat.le_refl _)] at ry
        exact k _ _ (hs.trans sm) ⟨M, ys, rfl, hM, Reps.mono sm _ ry⟩
end Rim5
set_option Elab.async false
set_option linter.all false
set_option maxRecDepth 100000
set_option maxHeartbeats 4000000
namespace Rim5
open PySem PySem.Spec PyProof.Rows L2 RimM RimD
local macro_rules | `(tactic| walk_at "rd") => `(tactic| first | (dsimp only [tSeq, tAsg, gName, tTup, tLst, tCons, tNil, tVar, tC, tCB, tOp, rI, rI0, tTest, tIfS, tNext, tRet, tRetN, tDrop, tB, tAnd, tOr, tNot, tAndV, tOrV, tNotV, rU, tUn, tBM0, tBM, rBits, tCall, L2.start, rIxTH, rIxLH, rLenH, rEqTH, rEq, rNe, scal, tyV, CMul, CMulB, CDivB, CDivF, CPow, List.map_cons, List.map_nil, List.length_cons, List.length_nil, List.replicate, List.cons_append, List.nil_append, List.set_cons_zero, List.set_cons_succ, List.getElem?_cons_zero, List.getElem?_cons_succ, gSub, rSetL, rCat, iRng1, tPar, iList, tComp, pick, tYes, iZip, gTup, gCons, gNil, rSum, rListH, List.map, iRng2, iRngD, tSl, rSlH, tPart, tNoPart, tPar3]; try simp only [tSeq, tAsg, gName, tTup, tLst, tCons, tNil, tVar, tC, tCB, tOp, rI, rI0, tTest, tIfS, tNext, tRet, tRetN, tDrop, tB, tAnd, tOr, tNot, tAndV, tOrV, tNotV, rU, tUn, tBM0, tBM, rBits, tCall, L2.start, rIxTH, rIxLH, rLenH, rEqTH, rEq, rNe, scal, tyV, CMul, CMulB, CDivB, CDivF, CPow, List.map_cons, List.map_nil, List.length_cons, List.length_nil, List.replicate, List.cons_append, List.nil_append, List.append_nil, List.set_cons_zero, List.set_cons_succ, List.getElem?_cons_zero, List.getElem?_cons_succ, Option.some.injEq, List.cons.injEq, V.int.injEq, V.bl.injEq, V.str.injEq, V.ref.injEq, V.ty.injEq, HO.tup.injEq, HO.lst.injEq, exists_eq_left, exists_eq_left', exists_and_left, and_assoc, and_true, true_and, upd_same, atI_0, atI_1, atI_2, Nat.zero_add, Nat.reduceAdd, Nat.reduceSub, decide_eq_true_eq, Bool.not_eq_true', decide_eq_false_iff_not, reduceCtorEq, false_or, or_false, true_or, or_true, plainT_int, plainT_bool, plainT_tuple, plainT_list, plainT_str, Bool.false_eq_true, if_false, if_true, Bool.not_false, Bool.not_true, Bool.not_not, gSub, rSetL, ixN_00, upd_upd, rCat, iRng1, tFor_eq, tPar, iList, tComp, pick, tYes, iZip, gTup, gCons, gNil, rSum, rListH, List.map, Option.bind, iRng2, iRngD, tSl, rSlH, tPart, tNoPart, tPar3]) | simp only [tSeq, tAsg, gName, tTup, tLst, tCons, tNil, tVar, tC, tCB, tOp, rI, rI0, tTest, tIfS, tNext, tRet, tRetN, tDrop, tB, tAnd, tOr, tNot, tAndV, tOrV, tNotV, rU, tUn, tBM0, tBM, rBits, tCall, L2.start, rIxTH, rIxLH, rLenH, rEqTH, rEq, rNe, scal, tyV, CMul, CMulB, CDivB, CDivF, CPow, List.map_cons, List.map_nil, List.length_cons, List.length_nil, List.replicate, List.cons_append, List.nil_append, List.append_nil, List.set_cons_zero, List.set_cons_succ, List.getElem?_cons_zero, List.getElem?_cons_succ, Option.some.injEq, List.cons.injEq, V.int.injEq, V.bl.injEq, V.str.injEq, V.ref.injEq, V.ty.injEq, HO.tup.injEq, HO.lst.injEq, exists_eq_left, exists_eq_left', exists_and_left, and_assoc, and_true, true_and, upd_same, atI_0, atI_1, atI_2, Nat.zero_add, Nat.reduceAdd, Nat.reduceSub, decide_eq_true_eq, Bool.not_eq_true', decide_eq_false_iff_not, reduceCtorEq, false_or, or_false, true_or, or_true, plainT_int, plainT_bool, plainT_tuple, plainT_list, plainT_str, Bool.false_eq_true, if_false, if_true, Bool.not_false, Bool.not_true, Bool.not_not, gSub, rSetL, ixN_00, upd_upd, rCat, iRng1, tFor_eq, tPar, iList, tComp, pick, tYes, iZip, gTup, gCons, gNil, rSum, rListH, List.map, Option.bind, iRng2, iRngD, tSl, rSlH, tPart, tNoPart, tPar3])
variable {P : Program} {w : World} {K : PySem.W.Frag} {mg : Str → Option Value} {base : Heap}
theorem deq_fr (p q : Int × Int) : deq (dF p) (dF q) = some (decide (p = q)) := by
  obtain ⟨a, b⟩ := p
  obtain ⟨c, d⟩ := q
  have : decide ((a, b) = (c, d)) = (a == c && (b == d && true)) := by
    rw [Bool.eq_iff_iff]
    simp
  rw [this]
  rfl
theorem deps_le {α : Type} {f : α → Dt} {n : Nat} (h : ∀ a, dep (f a) ≤ n) : ∀ l : List α, deps (l.map f) ≤ n
  | [] => Nat.zero_le _
  | a :: l => by
    show max (dep (f a)) (deps (l.map f)) ≤ n
    exact Nat.max_le.mpr ⟨h a, deps_le h l⟩
theorem dep_dF (p : Int × Int) : dep (dF p) ≤ 1 := by simp [dF, dep, deps]
theorem Reps_set {H : Hp} {v : V} {d : Dt} (hv : Rep H v d) : ∀ (i : Nat) {xs : List V} {ds : List Dt}, Reps H xs ds → Reps H (xs.set i v) (ds.set i d)
  | i, xs, [], h => by rw [show xs = [] from h]; rfl
  | 0, xs, e :: ds, ⟨x, r, q, hx, hr⟩ => by rw [q]; exact ⟨v, r, rfl, hv, hr⟩
  | i + 1, xs, e :: ds, ⟨x, r, q, hx, hr⟩ => by rw [q]; exact ⟨x, _, rfl, hx, Reps_set hv i hr⟩
theorem ixN_nat {n i : Nat} (h : i < n) : ixN n (i : Int) = some i := by
  unfold ixN
  rw [if_pos (by omega), if_pos (by omega)]
  simp
theorem filter_nil {n : Nat} {p : Nat → Bool} (h : (List.range n).filter p = []) : ∀ i, i < n → p i = false := fun i hi => by
  have := List.filter_eq_nil_iff.mp h i (List.mem_range.mpr hi)
  simpa using this
theorem filter_cons {n l : Nat} {r : List Nat} {p : Nat → Bool} (h : (List.range n).filter p = l :: r) : l < n ∧ p l = true := by
  have : l ∈ (List.range n).filter p := by rw [h]; exact List.mem_cons_self
  obtain ⟨a, b⟩ := List.mem_filter.mp this
  exact ⟨List.mem_range.mp a, b⟩
theorem dep_dRow (r : List (Int × Int)) : dep (dRow r) ≤ 2 := Nat.succ_le_succ (deps_le dep_dF r)
theorem dep_grid (g : List (List (Int × Int))) : dep (.lst (g.map dRow)) ≤ 3 := Nat.succ_le_succ (deps_le dep_dRow g)
theorem dep_dI (r : List Int) : dep (dI r) ≤ 1 := Nat.succ_le_succ (deps_le (f := Dt.int) (n := 0) (fun a => by simp [dep]) r)
noncomputable abbrev s__law_is_flat : Stmt := PySem.Challenge.pw_rimread_k05_solved.main.body.getD 34 (.Pass ⟨0, 0, 0, 0⟩)
theorem sc__law_is_flat : FnScope ["_law_grid", "_law_rows", "_law_at", "_law_leads", "_law_k", "_law_share"] ["_law_grid"] (defScope s__law_is_flat) := ⟨rfl, rfl, rfl, by decide +kernel, rfl, by decide +kernel, by decide +kernel⟩
theorem lk__law_is_flat_0 : (defScope s__law_is_flat).names.lookup ("_law_grid" : Str) = some PySem.NameKind.local := by decide +kernel
theorem lk__law_is_flat_1 : (defScope s__law_is_flat).names.lookup ("_law_rows" : Str) = some PySem.NameKind.cell := by decide +kernel
theorem lk__law_is_flat_2 : (defScope s__law_is_flat).names.lookup ("_law_at" : Str) = some PySem.NameKind.cell := by decide +kernel
theorem lk__law_is_flat_3 : (defScope s__law_is_flat).names.lookup ("_law_leads" : Str) = some PySem.NameKind.local := by decide +kernel
theorem lk__law_is_flat_4 : (defScope s__law_is_flat).names.lookup ("_law_k" : Str) = some PySem.NameKind.local := by decide +kernel
theorem lk__law_is_flat_5 : (defScope s__law_is_flat).names.lookup ("_law_share" : Str) = some PySem.NameKind.cell := by decide +kernel
theorem gk__law_is_flat__law_mul : (defScope s__law_is_flat).names.lookup ("_law_mul" : Str) = some PySem.NameKind.globalImplicit := by decide +kernel
theorem gk__law_is_flat_abs : (defScope s__law_is_flat).names.lookup ("abs" : Str) = some PySem.NameKind.globalImplicit := by decide +kernel
theorem gk__law_is_flat_len : (defScope s__law_is_flat).names.lookup ("len" : Str) = some PySem.NameKind.globalImplicit := by decide +kernel
theorem gk__law_is_flat_range : (defScope s__law_is_flat).names.lookup ("range" : Str) = some PySem.NameKind.globalImplicit := by decide +kernel
theorem gk__law_is_flat_zip : (defScope s__law_is_flat).names.lookup ("zip" : Str) = some PySem.NameKind.globalImplicit := by decide +kernel
noncomputable def sp_flat : Sp := fun vs H Q _ => ∃ (v : V) (g : List (List (Int × Int))) (n C : Nat) (A0 : Mat) (L : Nat → Int), vs = [v] ∧ Rep H v (.lst (g.map dRow)) ∧ n ≤ 12 ∧ C ≤ 1100 ∧ Fg n 0 C A0 (D n A0) 1 A0 L g ∧ (∀ (t : Nat) (ρ κ : Nat → Nat), t ≤ n → (∀ i, ρ i < n) → (D t fun i j => A0 (ρ i) (κ j)).natAbs ≤ 2 ^ C) ∧ ∀ H', Same H H' → Q (.bl (decide (D n A0 = 0))) H'
theorem ok__law_is_flat (T : Txt K mg) (F : Fn0 K mg "_law_is_flat" s__law_is_flat) (C__law_less : Cal P w K mg base "_law_less" ["_law_one", "_law_other"] 2 (sp_two (fun p q => p.1 * q.2 - q.1 * p.2))) (C__law_mul : Cal P w K mg base "_law_mul" ["_law_one", "_law_other"] 2 (sp_two (fun p q => p.1 * q.1))) : Cal P w K mg base "_law_is_flat" ["_law_grid"] 3 sp_flat := by
  refine cal_of F sc__law_is_flat (fun _ _ _ _ _ _ us hl => match us, hl with | [_], _ => rfl) ?len ?body
  case len => rintro vs H Q E ⟨a, b, c, d, e, f, rfl, _⟩; rfl
  case body =>
    intro f cdv A outer s H vs Q E hr h
    obtain ⟨v, g, n, C, A0, L0, rfl, hv, n12, c11, fg0, mins, k⟩ := h
    obtain ⟨p, xs, rfl, hp, hxs⟩ := id hv
    have lx : xs.length = n := by rw [hxs.length, List.length_map, fg0.len]
    refine' ⟨_, ?D, ?R⟩
    case D =>
      refine' pss_cons ?g1 ?g2
      case g1 =>
        refine' ps_setc (i := 1) sc__law_is_flat.nd rfl lk__law_is_flat_1 rfl ?g3 rfl
        case g3 =>
          refine' pe_comp (N' := ["_law_row"]) (ix := [none]) rfl rfl (scp_of ?g4) ?g5 (fun _ _ _ => ?g6) (fun _ _ _ => ?g7) (fun _ _ _ => ?g8)
          case g4 => exact (by show scpB (defScope s__law_is_flat) ["_law_grid", "_law_rows", "_law_at", "_law_leads", "_law_k", "_law_share"] _ _ _ = true; decide +kernel)
          case g5 =>
            refine' pi_listK (K := K) rfl ?g9
            case g9 => exact pv1 0 rfl lk__law_is_flat_0
          case g6 => exact pg_name1 (i := 0) (by show List.Nodup (["_law_row"] : List Str); decide +kernel) rfl rfl
          case g7 => exact pf_nil
          case g8 =>
            refine' pe_callT call_listH rfl T.n_list bt_list ?g10
            case g10 =>
              refine' pa_c ?g11 ?g12
              case g11 => exact pv1 0 rfl rfl
              case g12 => exact pa_nil
      case g2 =>
        refine' pss_cons ?g13 ?g14
        case g13 =>
          refine' ps_for PassesOwn.never rfl ?g15 ?g16 ?g17
          case g15 =>
            refine' pi_range1 gk__law_is_flat_range T.n_range ?g18
            case g18 =>
              refine' pa_c ?g19 ?g20
              case g19 =>
                refine' pe_callE call_lenH gk__law_is_flat_len T.n_len bt_len ?g21
                case g21 =>
                  refine' pa_c ?g22 ?g23
                  case g22 => exact pvc 1 rfl lk__law_is_flat_1
                  case g23 => exact pa_nil
              case g20 => exact pa_nil
          case g16 => exact pg_namec (i := 2) sc__law_is_flat.nd rfl lk__law_is_flat_2 rfl
          case g17 =>
            refine' pss_cons ?g24 ?g25
            case g24 =>
              refine' ps_comp (i := 3) (N' := ["_law_k", "_law_rows", "_law_at"]) (ix := [none, some 1, some 2]) rfl rfl sc__law_is_flat.nd rfl lk__law_is_flat_3 rfl (scp_of ?g26) ?g27 (fun _ _ _ => ?g28) (fun _ _ _ => ?g29) (fun _ _ _ => ?g30)
              case g26 => exact (by show scpB (defScope s__law_is_flat) ["_law_grid", "_law_rows", "_law_at", "_law_leads", "_law_k", "_law_share"] _ _ _ = true; decide +kernel)
              case g27 =>
                refine' pi_range2 gk__law_is_flat_range T.n_range ?g31
                case g31 =>
                  refine' pa_c ?g32 ?g33
                  case g32 => exact pvc 2 rfl lk__law_is_flat_2
                  case g33 =>
                    refine' pa_c ?g34 ?g35
                    case g34 =>
                      refine' pe_callE call_lenH gk__law_is_flat_len T.n_len bt_len ?g36
                      case g36 =>
                        refine' pa_c ?g37 ?g38
                        case g37 => exact pvc 1 rfl lk__law_is_flat_1
                        case g38 => exact pa_nil
                    case g35 => exact pa_nil
              case g28 => exact pg_name1 (i := 0) (by show List.Nodup (["_law_k", "_law_rows", "_law_at"] : List Str); decide +kernel) rfl rfl
              case g29 =>
                refine' pf_one ?g39
                case g39 =>
                  refine' pt_cmpR (op_neD (hr.units)) ?g40 ?g41 (nomark _)
                  case g40 =>
                    refine' pe_ix ix_listH ?g42 ?g43 (fun _ _ => rfl)
                    case g42 =>
                      refine' pe_ix ix_listH ?g44 ?g45 (fun _ _ => rfl)
                      case g44 => exact pvc 1 rfl rfl
                      case g45 => exact pv1 0 rfl rfl
                    case g43 => exact pvc 2 rfl rfl
                  case g41 =>
                    refine' pe_tup ?g46
                    case g46 =>
                      refine' pa_c ?g47 ?g48
                      case g47 => exact pe_int
                      case g48 =>
                        refine' pa_c ?g49 ?g50
                        case g49 => exact pe_int
                        case g50 => exact pa_nil
              case g30 => exact pv1 0 rfl rfl
            case g25 =>
              refine' pss_cons ?g51 ?g52
              case g51 =>
                refine' ps_if ?g53 ?g54 ?g55
                case g53 =>
                  refine' pt_cmpR (op_eqD (hr.units)) ?g56 ?g57 (nomark _)
                  case g56 => exact pv1 3 rfl lk__law_is_flat_3
                  case g57 =>
                    refine' pe_lst ?g58
                    case g58 => exact pa_nil
                case g54 =>
                  refine' pss_one ?g59
                  case g59 =>
                    refine' ps_ret ?g60
                    case g60 => exact pe_bl
                case g55 => exact pss_nil
              case g52 =>
                refine' pss_cons ?g61 ?g62
                case g61 =>
                  refine' ps_asg ?g63 ?g64
                  case g63 =>
                    refine' pe_tup ?g65
                    case g65 =>
                      refine' pa_c ?g66 ?g67
                      case g66 =>
                        refine' pe_ix ix_listH ?g68 ?g69 (fun _ _ => rfl)
                        case g68 => exact pvc 1 rfl lk__law_is_flat_1
                        case g69 =>
                          refine' pe_ix ix_listH ?g70 ?g71 (fun _ _ => rfl)
                          case g70 => exact pv1 3 rfl lk__law_is_flat_3
                          case g71 => exact pe_int
                      case g67 =>
                        refine' pa_c ?g72 ?g73
                        case g72 =>
                          refine' pe_ix ix_listH ?g74 ?g75 (fun _ _ => rfl)
                          case g74 => exact pvc 1 rfl lk__law_is_flat_1
                          case g75 => exact pvc 2 rfl lk__law_is_flat_2
                        case g73 => exact pa_nil
                  case g64 =>
                    refine' pg_tupK (K := K) (n := 2) rfl rfl ?g76
                    case g76 =>
                      refine' pgs_cons ?g77 ?g78
                      case g77 =>
                        refine' pg_sub ?g79 ?g80 set_list
                        case g79 => exact pvc 1 rfl lk__law_is_flat_1
                        case g80 => exact pvc 2 rfl lk__law_is_flat_2
                      case g78 =>
                        refine' pgs_cons ?g81 ?g82
                        case g81 =>
                          refine' pg_sub ?g83 ?g84 set_list
                          case g83 => exact pvc 1 rfl lk__law_is_flat_1
                          case g84 =>
                            refine' pe_ix ix_listH ?g85 ?g86 (fun _ _ => rfl)
                            case g85 => exact pv1 3 rfl lk__law_is_flat_3
                            case g86 => exact pe_int
                        case g82 => exact pgs_nil
                case g62 =>
                  refine' pss_one ?g87
                  case g87 =>
                    refine' ps_for PassesOwn.never rfl ?g88 ?g89 ?g90
                    case g88 =>
                      refine' pi_range2 gk__law_is_flat_range T.n_range ?g91
                      case g91 =>
                        refine' pa_c ?g92 ?g93
                        case g92 =>
                          refine' pe_op op_add ?g94 ?g95
                          case g94 => exact pvc 2 rfl lk__law_is_flat_2
                          case g95 => exact pe_int
                        case g93 =>
                          refine' pa_c ?g96 ?g97
                          case g96 =>
                            refine' pe_callE call_lenH gk__law_is_flat_len T.n_len bt_len ?g98
                            case g98 =>
                              refine' pa_c ?g99 ?g100
                              case g99 => exact pvc 1 rfl lk__law_is_flat_1
                              case g100 => exact pa_nil
                          case g97 => exact pa_nil
                    case g89 => exact pg_name1 (i := 4) sc__law_is_flat.nd rfl lk__law_is_flat_4
                    case g90 =>
                      refine' pss_cons ?g101 ?g102
                      case g101 =>
                        refine' ps_setc (i := 5) sc__law_is_flat.nd rfl lk__law_is_flat_5 rfl ?g103 rfl
                        case g103 =>
                          refine' pe_callD C__law_mul (hr.mono (by decide)) gk__law_is_flat__law_mul ?g104
                          case g104 =>
                            refine' pa_c ?g105 ?g106
                            case g105 =>
                              refine' pe_ix ix_listH ?g107 ?g108 (fun _ _ => rfl)
                              case g107 =>
                                refine' pe_ix ix_listH ?g109 ?g110 (fun _ _ => rfl)
                                case g109 => exact pvc 1 rfl lk__law_is_flat_1
                                case g110 => exact pv1 4 rfl lk__law_is_flat_4
                              case g108 => exact pvc 2 rfl lk__law_is_flat_2
                            case g106 =>
                              refine' pa_c ?g111 ?g112
                              case g111 =>
                                refine' pe_tup ?g113
                                case g113 =>
                                  refine' pa_c ?g114 ?g115
                                  case g114 =>
                                    refine' pe_ix ix_tupH ?g116 ?g117 (fun _ _ => rfl)
                                    case g116 =>
                                      refine' pe_ix ix_listH ?g118 ?g119 (fun _ _ => rfl)
                                      case g118 =>
                                        refine' pe_ix ix_listH ?g120 ?g121 (fun _ _ => rfl)
                                        case g120 => exact pvc 1 rfl lk__law_is_flat_1
                                        case g121 => exact pvc 2 rfl lk__law_is_flat_2
                                      case g119 => exact pvc 2 rfl lk__law_is_flat_2
                                    case g117 => exact pe_int
                                  case g115 =>
                                    refine' pa_c ?g122 ?g123
                                    case g122 =>
                                      refine' pe_callE call_abs gk__law_is_flat_abs T.n_abs bt_abs ?g124
                                      case g124 =>
                                        refine' pa_c ?g125 ?g126
                                        case g125 =>
                                          refine' pe_ix ix_tupH ?g127 ?g128 (fun _ _ => rfl)
                                          case g127 =>
                                            refine' pe_ix ix_listH ?g129 ?g130 (fun _ _ => rfl)
                                            case g129 =>
                                              refine' pe_ix ix_listH ?g131 ?g132 (fun _ _ => rfl)
                                              case g131 => exact pvc 1 rfl lk__law_is_flat_1
                                              case g132 => exact pvc 2 rfl lk__law_is_flat_2
                                            case g130 => exact pvc 2 rfl lk__law_is_flat_2
                                          case g128 => exact pe_int
                                        case g126 => exact pa_nil
                                    case g123 => exact pa_nil
                              case g112 => exact pa_nil
                      case g102 =>
                        refine' pss_cons ?g133 ?g134
                        case g133 =>
                          refine' ps_cut ?g135
                          case g135 =>
                            refine' ps_if ?g136 ?g137 ?g138
                            case g136 =>
                              refine' pt_cmpR op_lt ?g139 ?g140 (nomark _)
                              case g139 =>
                                refine' pe_ix ix_tupH ?g141 ?g142 (fun _ _ => rfl)
                                case g141 =>
                                  refine' pe_ix ix_listH ?g143 ?g144 (fun _ _ => rfl)
                                  case g143 =>
                                    refine' pe_ix ix_listH ?g145 ?g146 (fun _ _ => rfl)
                                    case g145 => exact pvc 1 rfl lk__law_is_flat_1
                                    case g146 => exact pvc 2 rfl lk__law_is_flat_2
                                  case g144 => exact pvc 2 rfl lk__law_is_flat_2
                                case g142 => exact pe_int
                              case g140 => exact pe_int
                            case g137 =>
                              refine' pss_one ?g147
                              case g147 =>
                                refine' ps_setc (i := 5) sc__law_is_flat.nd rfl lk__law_is_flat_5 rfl ?g148 rfl
                                case g148 =>
                                  refine' pe_tup ?g149
                                  case g149 =>
                                    refine' pa_c ?g150 ?g151
                                    case g150 =>
                                      refine' pe_un un_neg ?g152
                                      case g152 =>
                                        refine' pe_ix ix_tupH ?g153 ?g154 (fun _ _ => rfl)
                                        case g153 => exact pvc 5 rfl lk__law_is_flat_5
                                        case g154 => exact pe_int
                                    case g151 =>
                                      refine' pa_c ?g155 ?g156
                                      case g155 =>
                                        refine' pe_ix ix_tupH ?g157 ?g158 (fun _ _ => rfl)
                                        case g157 => exact pvc 5 rfl lk__law_is_flat_5
                                        case g158 => exact pe_int
                                      case g156 => exact pa_nil
                            case g138 => exact pss_nil
                        case g134 =>
                          refine' pss_one ?g159
                          case g159 =>
                            refine' ps_asg ?g160 (pg_sub ?g161 ?g162 set_list)
                            case g160 =>
                              refine' pe_comp (N' := ["_law_one", "_law_two", "_law_share"]) (ix := [none, none, some 5]) rfl rfl (scp_of ?g163) ?g164 (fun _ _ _ => ?g165) (fun _ _ _ => ?g166) (fun _ _ _ => ?g167)
                              case g163 => exact (by show scpB (defScope s__law_is_flat) ["_law_grid", "_law_rows", "_law_at", "_law_leads", "_law_k", "_law_share"] _ _ _ = true; decide +kernel)
                              case g164 =>
                                refine' pi_zip (K := K) rfl gk__law_is_flat_zip T.n_zip ?g168
                                case g168 =>
                                  refine' pa_c ?g169 ?g170
                                  case g169 =>
                                    refine' pe_ix ix_listH ?g171 ?g172 (fun _ _ => rfl)
                                    case g171 => exact pvc 1 rfl lk__law_is_flat_1
                                    case g172 => exact pv1 4 rfl lk__law_is_flat_4
                                  case g170 =>
                                    refine' pa_c ?g173 ?g174
                                    case g173 =>
                                      refine' pe_ix ix_listH ?g175 ?g176 (fun _ _ => rfl)
                                      case g175 => exact pvc 1 rfl lk__law_is_flat_1
                                      case g176 => exact pvc 2 rfl lk__law_is_flat_2
                                    case g174 => exact pa_nil
                              case g165 =>
                                refine' pg_tupK (K := K) (n := 2) rfl rfl ?g177
                                case g177 =>
                                  refine' pgs_cons ?g178 ?g179
                                  case g178 => exact pg_name1 (i := 0) (by show List.Nodup (["_law_one", "_law_two", "_law_share"] : List Str); decide +kernel) rfl rfl
                                  case g179 =>
                                    refine' pgs_cons ?g180 ?g181
                                    case g180 => exact pg_name1 (i := 1) (by show List.Nodup (["_law_one", "_law_two", "_law_share"] : List Str); decide +kernel) rfl rfl
                                    case g181 => exact pgs_nil
                              case g166 => exact pf_nil
                              case g167 =>
                                refine' pe_callD C__law_less (hr.mono (by decide)) rfl ?g182
                                case g182 =>
                                  refine' pa_c ?g183 ?g184
                                  case g183 => exact pv1 0 rfl rfl
                                  case g184 =>
                                    refine' pa_c ?g185 ?g186
                                    case g185 =>
                                      refine' pe_callD C__law_mul (hr.mono (by decide)) rfl ?g187
                                      case g187 =>
                                        refine' pa_c ?g188 ?g189
                                        case g188 => exact pvc 2 rfl rfl
                                        case g189 =>
                                          refine' pa_c ?g190 ?g191
                                          case g190 => exact pv1 1 rfl rfl
                                          case g191 => exact pa_nil
                                    case g186 => exact pa_nil
                            case g161 => exact pvc 1 rfl lk__law_is_flat_1
                            case g162 => exact pv1 4 rfl lk__law_is_flat_4
        case g14 =>
          refine' pss_one ?g192
          case g192 =>
            refine' ps_ret ?g193
            case g193 => exact pe_bl
    case R =>
      walk_at "rd"
      refine ⟨⟨xs, .inl (.inl hp)⟩, ?_⟩
      refine comp_anyD (n := xs.length) (B := fun _ => none) (Pσ := fun σ => ∃ e, σ = [e]) (ds := g.map dRow) (fun b o e => by cases e) ⟨_, rfl⟩ (by simp [lx, fg0.len]) (by (clear hxs hp hv k mins fg0 c11 hr C__law_mul C__law_less F T; omega)) (fun i H2 hi s2 => ⟨xs, xs[i], .inl (.inl (s2 _ _ hp)), by simp [hi]⟩) (fun H2 s2 => ⟨xs, .inl (.inl (s2 _ _ hp)), Nat.le_refl _⟩) ?_ ?_
      · rintro D i x d σ' H' H'' hD ⟨od, hDo⟩ hs' hi hdi ⟨rfl, hy⟩ ⟨e, rfl⟩ R kR
        have hx := hy xs (.inl (.inl (hs' _ _ hp)))
        obtain ⟨q, ys, r, hr0, rfl, hq, hys⟩ := rep_rows hxs hx
        have hd2 : d = dRow r := by rw [List.getElem?_map, hr0] at hdi; exact (Option.some.inj hdi).symm
        walk_at "rd"
        refine ⟨ys, .inl (hs' _ _ hq), fun l hl => kR _ _ _ ⟨_, rfl⟩ (Same.new hl) ?_⟩
        rw [hd2]
        exact ⟨l, ys, rfl, by rw [cutH_at (ne_of_none hDo hl).symm rfl, upd_same], Reps.mono (old_cut (hs'.trans (Same.new hl)) hD) _ hys⟩
      · intro R H1 zs nR s1 hR rz
        have lz : zs.length = n := by rw [rz.length, List.length_map, fg0.len]
        refine ⟨R, rfl, _, .inl hR, by (clear rz hR s1 nR hxs hp hv k mins fg0 c11 hr C__law_mul C__law_less F T; omega), by (clear rz hR s1 nR hxs hp hv k mins fg0 c11 hr C__law_mul C__law_less F T; omega), ?_⟩
        rw [show Int.toNat (zs.length : Int) = n by (clear rz hR s1 nR hxs hp hv k mins fg0 c11 hr C__law_mul C__law_less F T; omega)]
        refine go_range (fun at_ σ H' => ∃ (S : Hp) (xs : List V) (G : List (List (Int × Int))) (Vd : Int) (b : Int) (B : Mat) (L : Nat → Int) (e2 e3 e4 e5 : Option V), σ = [some (.ref p), some (.ref R), e2, e3, e4, e5] ∧ Same H S ∧ Same S H' ∧ S R = none ∧ H' R = some (.lst xs) ∧ Reps S xs (G.map dRow) ∧ Fg n at_ C A0 Vd b B L G ∧ (Vd = D n A0 ∨ Vd = -D n A0)) ⟨cutH (fun _ => none) R H1, zs, g, _, _, _, _, _, _, _, _, rfl, old_cut s1 nR, cutH_same, by unfold cutH; rw [if_pos rfl], hR, rz, fg0, .inl rfl⟩ ?_ ?_
        · rintro at_ σ H' hat ⟨S, xs, G, Vd, b, B, L, e2, e3, e4, e5, rfl, hs, sm, sR, hR, rx, fg, hV⟩
          have lx : xs.length = n := by rw [rx.length, List.length_map, fg.len]
          have bC : ∀ i j, i < n - at_ → (B i j).natAbs ≤ 2 ^ C := fun i j hi => Fl_le fg.fl (fun t ρ κ ht hρ => mins t ρ κ ht hρ) hat hi
          walk_at "rd"
          refine ⟨xs, .inl hR, by (clear bC lx hV fg rx hR sR sm hs hat lz rz s1 nR hxs hp hv k mins fg0 c11 n12 hr C__law_mul C__law_less F T; omega), by (clear bC hV fg rx hR sR sm hs rz s1 nR hxs hp hv k mins fg0 c11 hr C__law_mul C__law_less F T; omega), by (clear bC hV fg rx hR sR sm hs hat rz s1 nR hxs hp hv k mins fg0 c11 hr C__law_mul C__law_less F T; omega), by (clear bC hV fg rx hR sR sm hs hat rz s1 nR hxs hp hv k mins fg0 c11 hr C__law_mul C__law_less F T; omega), ?_⟩
          rw [show Int.toNat ((xs.length : Int) - (0 + (at_ : Int))) = n - at_ by (clear bC hV fg rx hR sR sm hs rz s1 nR hxs hp hv k mins fg0 c11 n12 hr C__law_mul C__law_less F T; omega)]
          have gw : ∀ i, i < n → (G.getD i []).length = n := fun i hi => fg.wid _ (by rw [List.getD_eq_getElem?_getD, List.getElem?_eq_getElem (by rw [fg.len]; exact hi)]; exact List.getElem_mem _)
          refine comp_flt (n := n - at_) (Pσ := fun σ => ∃ e, σ = [e, some (.ref R), some (.int (0 + at_))]) (bs := fun i => decide (ga G (at_ + i) at_ ≠ (0, 1))) (val := fun i => .int ((0 + at_) + i)) ⟨_, rfl⟩ (by (clear gw bC hV fg rx hR sR sm hs rz s1 nR hxs hp hv k mins fg0 c11 hr C__law_mul C__law_less F T; omega)) (fun i H2 hi s2 => hi) (fun H2 s2 => Nat.le_refl _) ?_ ?_
          · rintro D i x σ' H2 H2' hD hDo s2 hi ⟨rfl, rfl⟩ ⟨e, rfl⟩ Y Rr kY kR
            obtain ⟨q, ys, z, e1, hq, ly, e2', hz, _⟩ := ga_at rx (i := at_ + i) (j := at_) (by rw [fg.len]; (clear kR kY s2 hDo hD gw bC hV fg rx hR sR sm hs rz s1 nR hxs hp hv k mins fg0 c11 n12 hr C__law_mul C__law_less F T; omega)) (by rw [gw _ (by (clear kR kY s2 hDo hD gw bC hV fg rx hR sR sm hs rz s1 nR hxs hp hv k mins fg0 c11 n12 hr C__law_mul C__law_less F T; omega))]; exact hat)
            walk_at "rd"
            refine ⟨xs, s2 _ _ hR, .ref q, atI_nn (by (clear hz e2' ly hq e1 kR kY s2 hDo hi hD gw bC lx hV fg rx hR sR sm hs hat lz rz s1 nR hxs hp hv k mins fg0 c11 n12 hr C__law_mul C__law_less F T; omega)) (by rw [show ((0 : Int) + (at_ : Int) + (i : Int)).toNat = at_ + i by (clear hz e2' ly hq e1 kR kY s2 hDo hi hD gw bC lx hV fg rx hR sR sm hs hat lz rz s1 nR hxs hp hv k mins fg0 c11 n12 hr C__law_mul C__law_less F T; omega)]; exact e1), q, rfl, ys, s2 _ _ (sm _ _ hq), .ref z, atI_off e2', by decide, fun t nt => ?_⟩
            have S3 := Same.new nt (o := HO.tup [.int 0, .int 1])
            refine ⟨z, t, dF (ga G (at_ + i) at_), dF (0, 1), _, rfl, rfl, rep_of (S3 _ _ (s2 _ _ (sm _ _ hz))), rep_of upd_same, deq_fr _ _, by have := dep_dF (ga G (at_ + i) at_); (clear S3 nt hz e2' ly hq e1 kR kY s2 hDo hi hD gw bC lx hV fg rx hR sR sm hs hat lz rz s1 nR hxs hp hv k mins fg0 c11 n12 hr C__law_mul C__law_less F T; omega), _, rfl, ?_⟩
            by_cases h0 : ga G (at_ + i) at_ = (0, 1)
            · rw [decide_eq_true h0]
              exact kR (by simp [h0]) _ _ ⟨_, rfl⟩ S3
            · rw [decide_eq_false h0]
              exact kY (by simp [h0]) _ _ ⟨_, rfl⟩ S3
          · intro Dl H2 nD s2 hDl
            refine ⟨Nat.zero_le _, fun p1 n1 => ?_⟩
            have S3 : Same H2 (upd H2 p1 (HO.lst [])) := Same.new n1
            cases hF : (List.range (n - at_)).filter (fun i => decide (ga G (at_ + i) at_ ≠ (0, 1))) with
            | nil =>
              rw [hF] at hDl
              refine ⟨Dl, p1, .lst [], .lst [], true, rfl, rfl, ⟨Dl, [], rfl, S3 _ _ hDl, rfl⟩, ⟨p1, [], rfl, upd_same, rfl⟩, by simp [deq, deqs], by simp [dep, deps], _, rfl, ?_⟩
              rw [if_pos rfl]
              have v0 : Vd = 0 := Fg_none fg hat fun i h1 h2 => by
                have := filter_nil hF (i - at_) (by (clear hF S3 n1 hDl s2 nD gw bC hV fg rx hR sR sm hs rz s1 nR hxs hp hv k mins fg0 c11 n12 hr C__law_mul C__law_less F T; omega))
                rw [show at_ + (i - at_) = i by (clear this h2 hF S3 n1 hDl s2 nD gw bC lx hV fg rx hR sR sm hs hat lz rz s1 nR hxs hp hv k mins fg0 c11 n12 hr C__law_mul C__law_less F T; omega)] at this
                simpa using this
              have d0 : D n A0 = 0 := by (clear hF S3 n1 hDl s2 nD gw bC lx fg rx hR sR sm hs hat lz rz s1 nR hxs hp hv k mins fg0 c11 n12 hr C__law_mul C__law_less F T; omega)
              have := k _ (((hs.trans sm).trans s2).trans S3)
              rw [decide_eq_true d0] at this
              exact this
            | cons l0 rest =>
              rw [hF] at hDl
              obtain ⟨l1, l2⟩ := filter_cons hF
              have l3 : ga G (at_ + l0) at_ ≠ (0, 1) := by simpa using l2
              have em : (l0 :: rest).map (fun i : Nat => V.int ((0 + (at_ : Int)) + i)) = (((l0 :: rest).map fun i : Nat => (0 + (at_ : Int)) + i)).map V.int := by rw [List.map_map]; rfl
              rw [em] at hDl
              refine ⟨Dl, p1, dI ((l0 :: rest).map fun i : Nat => (0 + (at_ : Int)) + i), .lst [], false, rfl, rfl, rep_of_ints (S3 _ _ hDl), ⟨p1, [], rfl, upd_same, rfl⟩, by simp [dI, deq], ?_, _, rfl, ?_⟩
              · have := dep_dI ((l0 :: rest).map fun i : Nat => (0 + (at_ : Int)) + i)
                (clear em l3 l2 l1 hF hDl S3 n1 s2 nD gw bC lx hV fg rx hR sR sm hs hat lz rz s1 nR hxs hp hv k mins fg0 c11 n12 hr C__law_mul C__law_less F T; omega)
              rw [if_neg (by decide)]
              try walk_at "rd"
              have hR3 := S3 _ _ (s2 _ _ hR)
              obtain ⟨qa, ya, za, ea, hqa, _, _, _, _⟩ := ga_at rx (i := at_) (j := 0) (by rw [fg.len]; (clear hR3 em l3 l2 l1 hF hDl S3 n1 s2 nD gw bC lx hV fg rx hR sR sm hs lz rz s1 nR hxs hp hv k mins fg0 c11 n12 hr C__law_mul C__law_less F T; omega)) (by rw [gw _ hat]; (clear hR3 em l3 l2 l1 hF hDl S3 n1 s2 nD gw bC hV fg rx hR sR sm hs rz s1 nR hxs hp hv k mins fg0 c11 hr C__law_mul C__law_less F T; omega))
              obtain ⟨qb, yb, zb, eb, hqb, _, _, _, _⟩ := ga_at rx (i := at_ + l0) (j := 0) (by rw [fg.len]; (clear hqa ea hR3 em l3 l2 hF hDl S3 n1 s2 nD gw bC hV fg rx hR sR sm hs rz s1 nR hxs hp hv k mins fg0 c11 n12 hr C__law_mul C__law_less F T; omega)) (by rw [gw _ (by (clear hqa ea hR3 em l3 l2 hF hDl S3 n1 s2 nD gw bC hV fg rx hR sR sm hs rz s1 nR hxs hp hv k mins fg0 c11 n12 hr C__law_mul C__law_less F T; omega))]; (clear hqa ea hR3 em l3 l2 l1 hF hDl S3 n1 s2 nD gw bC hV fg rx hR sR sm hs rz s1 nR hxs hp hv k mins fg0 c11 hr C__law_mul C__law_less F T; omega))
              have RD : R ≠ Dl := ne_of_none hR nD
              have hDl3 : upd H2 p1 (HO.lst []) Dl = some (.lst (.int ((0 + (at_ : Int)) + l0) :: ((rest.map fun i : Nat => (0 + (at_ : Int)) + i)).map V.int)) := S3 _ _ hDl
              have S03 := (sm.trans s2).trans S3
              generalize upd H2 p1 (HO.lst []) = H3 at *
              refine ⟨_, hDl3, _, atI_0, xs, _, rfl, hR3, .ref qb, atI_nn (by (clear S03 hDl3 hR3 S3 RD hqb eb hqa ea em l3 l2 l1 hF hDl n1 s2 nD gw bC lx hV fg rx hR sR sm hs hat lz rz s1 nR hxs hp hv k mins fg0 c11 n12 hr C__law_mul C__law_less F T; omega)) (by rw [show ((0 : Int) + (at_ : Int) + (l0 : Int)).toNat = at_ + l0 by (clear S03 hDl3 hR3 S3 RD hqb eb hqa ea em l3 l2 l1 hF hDl n1 s2 nD gw bC lx hV fg rx hR sR sm hs hat lz rz s1 nR hxs hp hv k mins fg0 c11 n12 hr C__law_mul C__law_less F T; omega)]; exact eb), xs, hR3, .ref qa, atI_off ea, by decide, fun p3 n3 => ?_⟩
              have S4 : Same H3 (upd H3 p3 (HO.tup [.ref qb, .ref qa])) := Same.new n3
              refine ⟨[.ref qb, .ref qa], .inl (.inl upd_same), rfl, _, _, rfl, xs, S4 _ _ hR3, at_, by rw [lx, Int.zero_add]; exact ixN_nat hat, _, _, rfl, _, by rw [upd_ne RD.symm]; exact S4 _ _ hDl3, _, atI_0, ?_⟩
              have lead : B (at_ + l0 - at_) 0 ≠ 0 := fun z => l3 ((Fg_lead fg hat (k := at_ + l0) (by (clear z S4 n3 S03 hDl3 hR3 S3 RD hqb eb hqa ea em l3 l2 l1 hF hDl n1 s2 nD gw bC lx hV fg rx hR sR sm hs hat lz rz s1 nR hxs hp hv k mins fg0 c11 n12 hr C__law_mul C__law_less F T; omega)) (by (clear z S4 n3 S03 hDl3 hR3 S3 RD hqb eb hqa ea em l3 l2 hF hDl n1 s2 nD gw bC hV fg rx hR sR sm hs rz s1 nR hxs hp hv k mins fg0 c11 n12 hr C__law_mul C__law_less F T; omega))).mpr z)
              obtain ⟨V1, B1, L1, hV1, hB1, fg1⟩ := Fg_swap fg hat (l := at_ + l0) (by (clear lead S4 n3 S03 hDl3 hR3 S3 RD hqb eb hqa ea em l3 l2 l1 hF hDl n1 s2 nD gw bC lx hV fg rx hR sR sm hs hat lz rz s1 nR hxs hp hv k mins fg0 c11 n12 hr C__law_mul C__law_less F T; omega)) (by (clear S4 n3 S03 hDl3 hR3 S3 RD hqb eb hqa ea em l3 l2 hF hDl n1 s2 nD gw bC hV fg rx hR sR sm hs rz s1 nR hxs hp hv k mins fg0 c11 n12 hr C__law_mul C__law_less F T; omega)) lead
              have hV2 : V1 = D n A0 ∨ V1 = -D n A0 := by (clear fg1 S4 n3 S03 hDl3 hR3 S3 RD hqb eb hqa ea em l3 l2 l1 hF hDl n1 s2 nD gw bC fg rx hR sR sm hs rz s1 nR hxs hp hv k mins fg0 c11 n12 hr C__law_mul C__law_less F T; omega)
              have bC1 : ∀ i j, i < n - at_ → (B1 i j).natAbs ≤ 2 ^ C := fun i j hi => Fl_le fg1.fl (fun t ρ κ ht hρ => mins t ρ κ ht hρ) hat hi
              refine ⟨_, _, rfl, rfl, at_ + l0, by rw [List.length_set, lx, show (0 : Int) + (at_ : Int) + (l0 : Int) = ((at_ + l0 : Nat) : Int) by (clear bC1 hV2 fg1 hB1 hV1 lead S4 n3 S03 hDl3 hR3 S3 RD hqb eb hqa ea em l3 l2 l1 hF hDl n1 s2 nD gw bC lx hV fg rx hR sR sm hs hat lz rz s1 nR hxs hp hv k mins fg0 c11 n12 hr C__law_mul C__law_less F T; omega)]; exact ixN_nat (by (clear bC1 fg1 S4 n3 S03 hDl3 hR3 S3 RD hqb eb hqa ea em l3 l2 hF hDl n1 s2 nD gw bC hV fg rx hR sR sm hs rz s1 nR hxs hp hv k mins fg0 c11 n12 hr C__law_mul C__law_less F T; omega)), rfl, by (clear bC1 hV2 fg1 hB1 hV1 lead S4 n3 S03 hDl3 hR3 S3 RD hqb eb hqa ea em l3 l2 l1 hF hDl n1 s2 nD gw bC lx hV fg rx hR sR sm hs hat lz rz s1 nR hxs hp hv k mins fg0 c11 n12 hr C__law_mul C__law_less F T; omega), by (clear bC1 hV2 fg1 hB1 hV1 lead S4 n3 S03 hDl3 hR3 S3 RD hqb eb hqa ea em l3 l2 l1 hF hDl n1 s2 nD gw bC hV fg rx hR sR sm hs rz s1 nR hxs hp hv k mins fg0 c11 hr C__law_mul C__law_less F T; omega), by rw [List.length_set, List.length_set]; (clear bC1 hV2 fg1 hB1 hV1 lead S4 n3 S03 hDl3 hR3 S3 RD hqb eb hqa ea em l3 l2 l1 hF hDl n1 s2 nD gw bC hV fg rx hR sR sm hs hat rz s1 nR hxs hp hv k mins fg0 c11 hr C__law_mul C__law_less F T; omega), by rw [List.length_set, List.length_set]; (clear bC1 hV2 fg1 hB1 hV1 lead S4 n3 S03 hDl3 hR3 S3 RD hqb eb hqa ea em l3 l2 l1 hF hDl n1 s2 nD gw bC hV fg rx hR sR sm hs hat rz s1 nR hxs hp hv k mins fg0 c11 hr C__law_mul C__law_less F T; omega), ?_⟩
              rw [List.length_set, List.length_set, show Int.toNat ((xs.length : Int) - (0 + (at_ : Int) + 1)) = n - (at_ + 1) by (clear bC1 hV2 fg1 hB1 hV1 lead S4 n3 S03 hDl3 hR3 S3 RD hqb eb hqa ea em l3 l2 l1 hF hDl n1 s2 nD gw bC hV fg rx hR sR sm hs rz s1 nR hxs hp hv k mins fg0 c11 n12 hr C__law_mul C__law_less F T; omega)]
              have rx1 : Reps S ((xs.set at_ (V.ref qb)).set (at_ + l0) (V.ref qa)) ((swapG G at_ (at_ + l0)).map dRow) := by
                unfold swapG
                rw [List.map_set, List.map_set]
                obtain ⟨qa', ya', _, ea', hqa', _, _, _, ra⟩ := ga_at rx (i := at_) (j := 0) (by rw [fg.len]; (clear bC1 hV2 fg1 hB1 hV1 lead S4 n3 S03 hDl3 hR3 S3 RD hqb eb hqa ea em l3 l2 l1 hF hDl n1 s2 nD gw bC lx hV fg rx hR sR sm hs lz rz s1 nR hxs hp hv k mins fg0 c11 n12 hr C__law_mul C__law_less F T; omega)) (by rw [gw _ hat]; (clear bC1 hV2 fg1 hB1 hV1 lead S4 n3 S03 hDl3 hR3 S3 RD hqb eb hqa ea em l3 l2 l1 hF hDl n1 s2 nD gw bC hV fg rx hR sR sm hs rz s1 nR hxs hp hv k mins fg0 c11 hr C__law_mul C__law_less F T; omega))
                obtain ⟨qb', yb', _, eb', hqb', _, _, _, rb⟩ := ga_at rx (i := at_ + l0) (j := 0) (by rw [fg.len]; (clear ra hqa' ea' bC1 fg1 S4 n3 S03 hDl3 hR3 S3 RD hqb eb hqa ea em l3 l2 hF hDl n1 s2 nD gw bC hV fg rx hR sR sm hs rz s1 nR hxs hp hv k mins fg0 c11 n12 hr C__law_mul C__law_less F T; omega)) (by rw [gw _ (by (clear ra hqa' ea' bC1 fg1 S4 n3 S03 hDl3 hR3 S3 RD hqb eb hqa ea em l3 l2 hF hDl n1 s2 nD gw bC hV fg rx hR sR sm hs rz s1 nR hxs hp hv k mins fg0 c11 n12 hr C__law_mul C__law_less F T; omega))]; (clear ra hqa' ea' bC1 hV2 fg1 hB1 hV1 lead S4 n3 S03 hDl3 hR3 S3 RD hqb eb hqa ea em l3 l2 l1 hF hDl n1 s2 nD gw bC hV fg rx hR sR sm hs rz s1 nR hxs hp hv k mins fg0 c11 hr C__law_mul C__law_less F T; omega))
                rw [ea] at ea'
                rw [eb] at eb'
                cases ea'
                cases eb'
                exact Reps_set (show Rep S _ (dRow _) from ⟨qa, ya', rfl, hqa', ra⟩) _ (Reps_set (show Rep S _ (dRow _) from ⟨qb, yb', rfl, hqb', rb⟩) _ rx)
              have sm4 : Same S (upd (upd H3 p3 (HO.tup [V.ref qb, V.ref qa])) R (HO.lst ((xs.set at_ (V.ref qb)).set (at_ + l0) (V.ref qa)))) := same_put (S03.trans S4) sR
              have hR5 := upd_same (H := upd H3 p3 (HO.tup [V.ref qb, V.ref qa])) (a := R) (o := HO.lst ((xs.set at_ (V.ref qb)).set (at_ + l0) (V.ref qa)))
              generalize upd (upd H3 p3 (HO.tup [V.ref qb, V.ref qa])) R (HO.lst ((xs.set at_ (V.ref qb)).set (at_ + l0) (V.ref qa))) = H5 at *
              generalize swapG G at_ (at_ + l0) = G1 at *
              refine go_range (fun ii σ H6 => ∃ (S : Hp) (xs : List V) (G : List (List (Int × Int))) (e4 e5 : Option V), σ = [some (.ref p), some (.ref R), some (.int (0 + at_)), some (.ref Dl), e4, e5] ∧ Same H S ∧ Same S H6 ∧ S R = none ∧ H6 R = some (.lst xs) ∧ Reps S xs (G.map dRow) ∧ Fi n at_ (at_ + 1 + ii) b B1 L1 G1 G) ⟨S, _, G1, _, _, rfl, hs, sm4, sR, hR5, rx1, Fi_start fg1⟩ ?_ ?_
              · rintro ii σ H6 hii ⟨S, xs, G, e4, e5, rfl, hs, sm, sR, hR, rx, fi⟩
                obtain ⟨kk, ekk⟩ : ∃ kk, kk = at_ + 1 + ii := ⟨_, rfl⟩
                rw [← ekk] at fi
                have kn : kk < n := by (clear fi rx hR sR sm hs rx1 fg1 hR5 sm4 bC1 hV2 hB1 hV1 lead S4 n3 S03 hDl3 hR3 S3 RD hqb eb hqa ea em l3 l2 l1 hF hDl n1 s2 nD gw bC hV fg rz s1 nR hxs hp hv k mins fg0 c11 n12 hr C__law_mul C__law_less F T; omega)
                have kat : kk - at_ < n - at_ := by (clear fi rx hR sR sm hs hii rx1 fg1 hR5 sm4 bC1 S4 n3 S03 hDl3 hR3 S3 RD hqb eb hqa ea em l3 l2 hF hDl n1 s2 nD gw bC hV fg rz s1 nR hxs hp hv k mins fg0 c11 n12 hr C__law_mul C__law_less F T; omega)
                have n0at : 0 < n - at_ := by (clear kat kn ekk fi rx hR sR sm hs hii rx1 fg1 hR5 sm4 bC1 hV2 hB1 hV1 lead S4 n3 S03 hDl3 hR3 S3 RD hqb eb hqa ea em l3 l2 hF hDl n1 s2 nD gw bC lx hV fg hat lz rz s1 nR hxs hp hv k mins fg0 c11 n12 hr C__law_mul C__law_less F T; omega)
                have atk : at_ ≤ kk := by (clear n0at kat kn fi rx hR sR sm hs hii rx1 fg1 hR5 sm4 bC1 hV2 hB1 hV1 lead S4 n3 S03 hDl3 hR3 S3 RD hqb eb hqa ea em l3 l2 l1 hF hDl n1 s2 nD gw bC lx hV fg hat lz rz s1 nR hxs hp hv k mins fg0 c11 n12 hr C__law_mul C__law_less F T; omega)
                have gw2 : ∀ i, i < n → (G.getD i []).length = n := fun i hi => fi.wid _ (by rw [List.getD_eq_getElem?_getD, List.getElem?_eq_getElem (by rw [fi.len]; exact hi)]; exact List.getElem_mem _)
                have lx : xs.length = n := by rw [rx.length, List.length_map, fi.len]
                obtain ⟨qk, yk, zk, ek, hqk, lk, ek2, hzk, rk⟩ := ga_at rx (i := kk) (j := at_) (by rw [fi.len]; (clear lx gw2 atk n0at kat ekk fi rx hR sR sm hs hii rx1 fg1 hR5 sm4 bC1 hV2 hB1 hV1 lead S4 n3 S03 hDl3 hR3 S3 RD hqb eb hqa ea em l3 l2 l1 hF hDl n1 s2 nD gw bC hV fg hat lz rz s1 nR hxs hp hv k mins fg0 c11 n12 hr C__law_mul C__law_less F T; omega)) (by rw [gw2 _ kn]; exact hat)
                obtain ⟨qp, yp, zp, ep, hqp, lp, ep2, hzp, rp⟩ := ga_at rx (i := at_) (j := at_) (by rw [fi.len]; (clear rk hzk ek2 lk hqk ek lx gw2 atk n0at kat kn ekk fi rx hR sR sm hs hii rx1 fg1 hR5 sm4 bC1 hV2 hB1 hV1 lead S4 n3 S03 hDl3 hR3 S3 RD hqb eb hqa ea em l3 l2 l1 hF hDl n1 s2 nD gw bC hV fg lz rz s1 nR hxs hp hv k mins fg0 c11 n12 hr C__law_mul C__law_less F T; omega)) (by rw [gw2 _ hat]; exact hat)
                rw [gw2 _ kn] at lk
                rw [gw2 _ hat] at lp
                have ok : ∀ j, ga G kk j = ga G1 kk j := fun j => by unfold ga; rw [fi.old kk (.inr (Nat.le_refl _)) kn]
                have op : ∀ j, ga G at_ j = ga G1 at_ j := fun j => by unfold ga; rw [fi.old at_ (.inl (Nat.le_refl _)) hat]
                have ipiv := fg1.is at_ at_ (Nat.le_refl _) hat hat
                have ilead := fg1.is kk at_ (by (clear ipiv op ok rp hzp ep2 lp hqp ep rk hzk ek2 lk hqk ek lx gw2 n0at kat kn ekk fi rx hR sR sm hs hii rx1 fg1 hR5 sm4 bC1 hV2 hB1 hV1 lead S4 n3 S03 hDl3 hR3 S3 RD hqb eb hqa ea em l3 l2 l1 hF hDl n1 s2 nD gw bC hV fg hat lz rz s1 nR hxs hp hv k mins fg0 c11 n12 hr C__law_mul C__law_less F T; omega)) kn hat
                rw [if_neg (Nat.lt_irrefl _), Nat.sub_self, ← op] at ipiv
                rw [if_neg (Nat.lt_irrefl _), Nat.sub_self, ← ok] at ilead
                obtain ⟨shN, shP⟩ := Is.share ilead ipiv hB1
                have ak : atI xs (0 + (at_ : Int) + 1 + (ii : Int)) = some (.ref qk) := by
                  rw [show (0 : Int) + (at_ : Int) + 1 + (ii : Int) = 0 + (kk : Int) by (clear shP shN ilead ipiv op ok rp hzp ep2 lp hqp ep rk hzk ek2 lk hqk ek lx gw2 atk n0at kat kn fi rx hR sR sm hs hii rx1 fg1 hR5 sm4 bC1 hV2 hB1 hV1 lead S4 n3 S03 hDl3 hR3 S3 RD hqb eb hqa ea em l3 l2 l1 hF hDl n1 s2 nD gw bC hV fg hat lz rz s1 nR hxs hp hv k mins fg0 c11 n12 hr C__law_mul C__law_less F T; omega)]
                  exact atI_off ek
                walk_at "rd"
                refine ⟨xs, hR, .ref qk, ak, qk, rfl, yk, sm _ _ hqk, .ref zk, atI_off ek2, xs, hR, .ref qp, atI_off ep, qp, rfl, yp, sm _ _ hqp, .ref zp, atI_off ep2, zp, rfl, _, sm _ _ hzp, _, atI_1, xs, hR, .ref qp, atI_off ep, qp, rfl, yp, sm _ _ hqp, .ref zp, atI_off ep2, zp, rfl, _, sm _ _ hzp, _, atI_0, ?_⟩
                try walk_at "rd"
                have pne : (ga G at_ at_).1 ≠ 0 := fun z => by
                  have e := ipiv.eq
                  rw [z, Int.zero_mul] at e
                  have := ipiv.low.pos
                  rcases Int.mul_eq_zero.mp e.symm with q | q
                  · exact hB1 q
                  · (clear e z ak shP shN ilead ipiv op ok rp hzp ep2 lp hqp ep rk hzk ek2 lk hqk ek lx gw2 atk n0at kat kn ekk fi rx hR sR sm hs hii rx1 fg1 hR5 sm4 bC1 hV2 hB1 hV1 lead S4 n3 S03 hDl3 hR3 S3 RD hqb eb hqa ea em l3 l2 l1 hF hDl n1 s2 nD gw bC hV fg hat lz rz s1 nR hxs hp hv k mins fg0 c11 n12 hr C__law_mul C__law_less F T; omega)
                have avp : 0 < (if (ga G at_ at_).1 < 0 then -(ga G at_ at_).1 else (ga G at_ at_).1) := by split <;> (clear ak shP shN ilead ipiv op ok rp hzp ep2 lp hqp ep rk hzk ek2 lk hqk ek lx gw2 atk n0at kat kn ekk fi rx hR sR sm hs hii rx1 fg1 hR5 sm4 bC1 hV2 hB1 hV1 lead S4 n3 S03 hDl3 hR3 S3 RD hqb eb hqa ea em l3 l2 l1 hF hDl n1 s2 nD gw bC hV fg hat lz rz s1 nR hxs hp hv k mins fg0 c11 n12 hr C__law_mul C__law_less F T; omega)
                obtain ⟨u1, u2, u3⟩ := Fg_le fg1 bC1 (k := kk) (j := at_) (by (clear avp pne ak shP shN ilead ipiv op ok rp hzp ep2 lp hqp ep rk hzk ek2 lk hqk ek lx gw2 n0at kat kn ekk fi rx hR sR sm hs hii rx1 fg1 hR5 sm4 bC1 hV2 hB1 hV1 lead S4 n3 S03 hDl3 hR3 S3 RD hqb eb hqa ea em l3 l2 l1 hF hDl n1 s2 nD gw bC hV fg hat lz rz s1 nR hxs hp hv k mins fg0 c11 n12 hr C__law_mul C__law_less F T; omega)) kn hat
                obtain ⟨w1, w2, w3⟩ := Fg_le fg1 bC1 (k := at_) (j := at_) (Nat.le_refl _) hat hat
                rw [← ok] at u1 u2 u3
                rw [← op] at w1 w2 w3
                have t1 := bits_of_le u1
                have t2 := bits_of_le u2
                have t3 := bits_of_le w1
                have t4 := bits_of_le w2
                have t5 := abs_bits t3
                refine ⟨by decide, fun pt npt => ?_⟩
                have S7 : Same H6 (upd H6 pt (HO.tup [V.int (ga G at_ at_).2, V.int (if (ga G at_ at_).1 < 0 then -(ga G at_ at_).1 else (ga G at_ at_).1)])) := Same.new npt
                have hpt := upd_same (H := H6) (a := pt) (o := HO.tup [V.int (ga G at_ at_).2, V.int (if (ga G at_ at_).1 < 0 then -(ga G at_ at_).1 else (ga G at_ at_).1)])
                generalize upd H6 pt (HO.tup [V.int (ga G at_ at_).2, V.int (if (ga G at_ at_).1 < 0 then -(ga G at_ at_).1 else (ga G at_ at_).1)]) = H7 at *
                refine ⟨.ref zk, .ref pt, ga G kk at_, ((ga G at_ at_).2, if (ga G at_ at_).1 < 0 then -(ga G at_ at_).1 else (ga G at_ at_).1), rfl, rep_of (S7 _ _ (sm _ _ hzk)), rep_of hpt, u3, avp, by (clear hpt S7 npt t5 t4 t3 t2 w3 w2 w1 u3 u2 u1 avp pne ak shP shN ilead ipiv op ok rp hzp ep2 lp hqp ep rk hzk ek2 lk hqk ek lx gw2 atk n0at kat kn ekk fi rx hR sR sm hs hii rx1 fg1 hR5 sm4 bC1 hV2 hB1 hV1 lead S4 n3 S03 hDl3 hR3 S3 RD hqb eb hqa ea em l3 l2 l1 hF hDl n1 s2 nD gw bC hV fg hat lz rz s1 nR hxs hp hv k mins fg0 n12 hr C__law_mul C__law_less F T; omega), by (clear hpt S7 npt t5 t4 t3 t1 w3 w2 w1 u3 u2 u1 avp pne ak shP shN ilead ipiv op ok rp hzp ep2 lp hqp ep rk hzk ek2 lk hqk ek lx gw2 atk n0at kat kn ekk fi rx hR sR sm hs hii rx1 fg1 hR5 sm4 bC1 hV2 hB1 hV1 lead S4 n3 S03 hDl3 hR3 S3 RD hqb eb hqa ea em l3 l2 l1 hF hDl n1 s2 nD gw bC hV fg hat lz rz s1 nR hxs hp hv k mins fg0 n12 hr C__law_mul C__law_less F T; omega), by show Builtin.Int.intBits (ga G at_ at_).2 ≤ _; (clear hpt S7 npt t5 t3 t2 t1 w3 w2 w1 u3 u2 u1 avp pne ak shP shN ilead ipiv op ok rp hzp ep2 lp hqp ep rk hzk ek2 lk hqk ek lx gw2 atk n0at kat kn ekk fi rx hR sR sm hs hii rx1 fg1 hR5 sm4 bC1 hV2 hB1 hV1 lead S4 n3 S03 hDl3 hR3 S3 RD hqb eb hqa ea em l3 l2 l1 hF hDl n1 s2 nD gw bC hV fg hat lz rz s1 nR hxs hp hv k mins fg0 n12 hr C__law_mul C__law_less F T; omega), by show Builtin.Int.intBits (if (ga G at_ at_).1 < 0 then -(ga G at_ at_).1 else (ga G at_ at_).1) ≤ _; (clear hpt S7 npt t4 t3 t2 t1 w3 w2 w1 u3 u2 u1 avp pne ak shP shN ilead ipiv op ok rp hzp ep2 lp hqp ep rk hzk ek2 lk hqk ek lx gw2 atk n0at kat kn ekk fi rx hR sR sm hs hii rx1 fg1 hR5 sm4 bC1 hV2 hB1 hV1 lead S4 n3 S03 hDl3 hR3 S3 RD hqb eb hqa ea em l3 l2 l1 hF hDl n1 s2 nD gw bC hV fg hat lz rz s1 nR hxs hp hv k mins fg0 n12 hr C__law_mul C__law_less F T; omega), fun z1 H8 s8 rep8 => ?_⟩
                have S68 := S7.trans s8
                obtain ⟨_, e8, h8⟩ := rep_dF rep8
                cases e8
                obtain ⟨nz8, hz8⟩ := newH_of h8
                have hs8 := hs.trans (grow_same sm (H' := H8))
                have sm8 := grow_in sm S68
                have sR8 : grow S H6 H8 R = none := by rw [grow_old hR]; exact sR
                have hR8 := S68 _ _ hR
                have rx8 := Reps.mono (grow_same sm (H' := H8)) _ rx
                have hz8' : grow S H6 H8 z1 = some (.tup [.int (nf ((ga G kk at_).1 * (ga G at_ at_).2) ((ga G kk at_).2 * (if (ga G at_ at_).1 < 0 then -(ga G at_ at_).1 else (ga G at_ at_).1))).1, .int (nf ((ga G kk at_).1 * (ga G at_ at_).2) ((ga G kk at_).2 * (if (ga G at_ at_).1 < 0 then -(ga G at_ at_).1 else (ga G at_ at_).1))).2]) := by rw [grow_at (S7.free nz8)]; exact hz8
                refine ⟨fun σ H9 => ∃ (S : Hp) (tv : Addr) (share : Int × Int), σ = [some (.ref p), some (.ref R), some (.int (0 + at_)), some (.ref Dl), some (.int (0 + at_ + 1 + ii)), some (.ref tv)] ∧ Same H S ∧ Same S H9 ∧ S R = none ∧ H9 R = some (.lst xs) ∧ Reps S xs (G.map dRow) ∧ S tv = some (.tup [.int share.1, .int share.2]) ∧ Is share (B1 (kk - at_) 0 * (b * L1 at_)) (b * L1 kk * B1 0 0), ?_, ?_⟩
                · walk_at "rd"
                  refine ⟨xs, hR8, .ref qp, atI_off ep, qp, rfl, yp, S68 _ _ (sm _ _ hqp), .ref zp, atI_off ep2, zp, rfl, _, S68 _ _ (sm _ _ hzp), _, atI_0, ?_⟩
                  try walk_at "rd"
                  by_cases hneg : (ga G at_ at_).1 < 0
                  · have sn := shN hneg
                    rw [if_pos hneg] at hz8 hz8'
                    rw [if_pos hneg]
                    refine ⟨_, hz8, _, atI_0, _, rfl, _, hz8, _, atI_1, by decide, fun p9 n9 => ?_⟩
                    exact ⟨upd (grow S H6 H8) p9 (.tup [.int (-(nf ((ga G kk at_).1 * (ga G at_ at_).2) ((ga G kk at_).2 * -(ga G at_ at_).1)).1), .int (nf ((ga G kk at_).1 * (ga G at_ at_).2) ((ga G kk at_).2 * -(ga G at_ at_).1)).2]), hs8.trans (stay_grow sm8 n9), stay_new sm8 n9, by rw [upd_ne (ne_of_none hR8 n9)]; exact sR8, (Same.new n9) _ _ hR8, Reps.mono (stay_grow sm8 n9) _ rx8, (-(nf ((ga G kk at_).1 * (ga G at_ at_).2) ((ga G kk at_).2 * -(ga G at_ at_).1)).1, (nf ((ga G kk at_).1 * (ga G at_ at_).2) ((ga G kk at_).2 * -(ga G at_ at_).1)).2), upd_same, sn⟩
                  · have sn := shP hneg
                    rw [if_neg hneg] at hz8'
                    rw [if_neg hneg]
                    exact ⟨_, hs8, sm8, sR8, hR8, rx8, _, hz8', sn⟩
                · clear avp t1 t2 t3 t4 t5 u1 u2 u3 w1 w2 w3 hV hV1 hV2 bC
                  rintro σ H9 ⟨S, tv, share, rfl, hs, sm, sR, hR, rx, htv, his⟩
                  obtain ⟨qk, yk, zk, ek, hqk, lk, ek2, hzk, rk⟩ := ga_at rx (i := kk) (j := at_) (by rw [fi.len]; (clear his htv rx hR sR sm hs hz8' rx8 hR8 sR8 sm8 hs8 hz8 nz8 h8 S68 rep8 s8 hpt S7 npt pne ak shP shN ilead ipiv op ok rp hzp ep2 lp hqp ep rk hzk ek2 lk hqk ek lx gw2 atk n0at kat ekk fi hii rx1 fg1 hR5 sm4 bC1 hB1 lead S4 n3 S03 hDl3 hR3 S3 RD hqb eb hqa ea em l3 l2 l1 hF hDl n1 s2 nD gw fg hat lz rz s1 nR hxs hp hv k mins fg0 c11 n12 hr C__law_mul C__law_less F T; omega)) (by rw [gw2 _ kn]; exact hat)
                  obtain ⟨qp, yp, zp, ep, hqp, lp, ep2, hzp, rp⟩ := ga_at rx (i := at_) (j := at_) (by rw [fi.len]; (clear rk hzk ek2 lk hqk ek his htv rx hR sR sm hs hz8' rx8 hR8 sR8 sm8 hs8 hz8 nz8 h8 S68 rep8 s8 hpt S7 npt pne ak shP shN ilead ipiv op ok rp hzp ep2 lp hqp ep lx gw2 atk n0at kat kn ekk fi hii rx1 fg1 hR5 sm4 bC1 hB1 lead S4 n3 S03 hDl3 hR3 S3 RD hqb eb hqa ea em l3 l2 l1 hF hDl n1 s2 nD gw fg lz rz s1 nR hxs hp hv k mins fg0 c11 n12 hr C__law_mul C__law_less F T; omega)) (by rw [gw2 _ hat]; exact hat)
                  rw [gw2 _ kn] at lk
                  rw [gw2 _ hat] at lp
                  have ak : atI xs (0 + (at_ : Int) + 1 + (ii : Int)) = some (.ref qk) := by
                    rw [show (0 : Int) + (at_ : Int) + 1 + (ii : Int) = 0 + (kk : Int) by (clear rp hzp ep2 lp hqp ep rk hzk ek2 lk hqk ek his htv rx hR sR sm hs hz8' rx8 hR8 sR8 sm8 hs8 hz8 nz8 h8 S68 rep8 s8 hpt S7 npt pne ak shP shN ilead ipiv op ok lx gw2 atk n0at kat kn fi hii rx1 fg1 hR5 sm4 bC1 hB1 lead S4 n3 S03 hDl3 hR3 S3 RD hqb eb hqa ea em l3 l2 l1 hF hDl n1 s2 nD gw fg hat lz rz s1 nR hxs hp hv k mins fg0 c11 n12 hr C__law_mul C__law_less F T; omega)]
                    exact atI_off ek
                  obtain ⟨ne, ene⟩ : ∃ ne : Nat → Int × Int, ne = fun j => nf ((ga G kk j).1 * (nf (share.1 * (ga G at_ j).1) (share.2 * (ga G at_ j).2)).2 - (nf (share.1 * (ga G at_ j).1) (share.2 * (ga G at_ j).2)).1 * (ga G kk j).2) ((ga G kk j).2 * (nf (share.1 * (ga G at_ j).1) (share.2 * (ga G at_ j).2)).2) := ⟨_, rfl⟩
                  walk_at "rd"
                  refine ⟨xs, hR, .ref qk, ak, xs, hR, .ref qp, atI_off ep, qk, rfl, qp, rfl, ⟨yk, .inl (.inl (sm _ _ hqk))⟩, ⟨yp, .inl (.inl (sm _ _ hqp))⟩, ?_⟩
                  refine comp_any (n := n) (B := H9) (Pσ := fun σ => ∃ e1 e2, σ = [e1, e2, some (.ref tv)]) (ds := ((List.range n).map ne).map dF) (Same.refl _) ⟨_, _, rfl⟩ (by simp) (by (clear ene ak rp hzp ep2 hqp ep rk hzk ek2 hqk ek his htv rx hR sR sm hs hz8' rx8 hR8 sR8 sm8 hs8 hz8 nz8 h8 S68 rep8 s8 hpt S7 npt pne shP shN ilead ipiv op ok gw2 atk n0at kat kn ekk fi hii rx1 fg1 hR5 sm4 bC1 hB1 lead S4 n3 S03 hDl3 hR3 S3 RD hqb eb hqa ea em l3 l2 l1 hF hDl n1 s2 nD gw fg hat rz s1 nR hxs hp hv k mins fg0 c11 hr C__law_mul C__law_less F T; omega))
                    (fun j H2 hj s2 => ⟨yk, yp, yk[j]'(by (clear s2 ene ak rp hzp ep2 hqp ep rk hzk ek2 hqk ek his htv rx hR sR sm hs hz8' rx8 hR8 sR8 sm8 hs8 hz8 nz8 h8 S68 rep8 s8 hpt S7 npt pne shP shN ilead ipiv op ok gw2 atk n0at kat kn ekk fi hii rx1 fg1 hR5 sm4 bC1 hB1 lead S4 n3 S03 hDl3 hR3 S3 RD hqb eb hqa ea em l3 l2 l1 hF hDl n1 nD gw fg hat rz s1 nR hxs hp hv k mins fg0 c11 n12 hr C__law_mul C__law_less F T; omega)), yp[j]'(by (clear s2 ene ak rp hzp ep2 hqp ep rk hzk ek2 hqk ek his htv rx hR sR sm hs hz8' rx8 hR8 sR8 sm8 hs8 hz8 nz8 h8 S68 rep8 s8 hpt S7 npt pne shP shN ilead ipiv op ok gw2 atk n0at kat kn ekk fi hii rx1 fg1 hR5 sm4 bC1 hB1 lead S4 n3 S03 hDl3 hR3 S3 RD hqb eb hqa ea em l3 l2 l1 hF hDl n1 nD gw fg hat rz s1 nR hxs hp hv k mins fg0 c11 n12 hr C__law_mul C__law_less F T; omega)), .inl (.inl (s2 _ _ (sm _ _ hqk))), .inl (.inl (s2 _ _ (sm _ _ hqp))), by simp [show j < yk.length by (clear s2 ene ak rp hzp ep2 hqp ep rk hzk ek2 hqk ek his htv rx hR sR sm hs hz8' rx8 hR8 sR8 sm8 hs8 hz8 nz8 h8 S68 rep8 s8 hpt S7 npt pne shP shN ilead ipiv op ok gw2 atk n0at kat kn ekk fi hii rx1 fg1 hR5 sm4 bC1 hB1 lead S4 n3 S03 hDl3 hR3 S3 RD hqb eb hqa ea em l3 l2 l1 hF hDl n1 nD gw fg hat rz s1 nR hxs hp hv k mins fg0 c11 n12 hr C__law_mul C__law_less F T; omega)], by simp [show j < yp.length by (clear s2 ene ak rp hzp ep2 hqp ep rk hzk ek2 hqk ek his htv rx hR sR sm hs hz8' rx8 hR8 sR8 sm8 hs8 hz8 nz8 h8 S68 rep8 s8 hpt S7 npt pne shP shN ilead ipiv op ok gw2 atk n0at kat kn ekk fi hii rx1 fg1 hR5 sm4 bC1 hB1 lead S4 n3 S03 hDl3 hR3 S3 RD hqb eb hqa ea em l3 l2 l1 hF hDl n1 nD gw fg hat rz s1 nR hxs hp hv k mins fg0 c11 n12 hr C__law_mul C__law_less F T; omega)]⟩) (fun H2 s2 => ⟨yk, yp, .inl (.inl (s2 _ _ (sm _ _ hqk))), .inl (.inl (s2 _ _ (sm _ _ hqp))), .inl (by (clear s2 ene ak rp hzp ep2 lp hqp ep rk hzk ek2 hqk ek his htv rx hR sR sm hs hz8' rx8 hR8 sR8 sm8 hs8 hz8 nz8 h8 S68 rep8 s8 hpt S7 npt pne shP shN ilead ipiv op ok gw2 atk n0at kat kn ekk fi hii rx1 fg1 hR5 sm4 bC1 hB1 lead S4 n3 S03 hDl3 hR3 S3 RD hqb eb hqa ea em l3 l2 l1 hF hDl n1 nD gw fg hat rz s1 nR hxs hp hv k mins fg0 c11 n12 hr C__law_mul C__law_less F T; omega))⟩) ?_ ?_
                  · rintro D j x d σ' H10 H10' hD hDo s10 hj hdj ⟨t, xx, yy, rfl, hT, rfl, hxx, hyy⟩ ⟨f1, f2, rfl⟩ Rr kR
                    have hx' := hxx _ (.inl (.inl (s10 _ _ (sm _ _ hqk))))
                    have hy' := hyy _ (.inl (.inl (s10 _ _ (sm _ _ hqp))))
                    obtain ⟨zx, px, hpx, rfl, hzx⟩ := rep_at rk hx'
                    obtain ⟨zy, py, hpy, rfl, hzy⟩ := rep_at rp hy'
                    have exx : px = ga G kk j := by unfold ga; rw [List.getD_eq_getElem?_getD (l := G.getD kk []), hpx]; rfl
                    have exy : py = ga G at_ j := by unfold ga; rw [List.getD_eq_getElem?_getD (l := G.getD at_ []), hpy]; rfl
                    subst exx exy
                    have a1 : (B1 (kk - at_) 0).natAbs ≤ 2 ^ C := bC1 _ _ kat
                    have a2 : (B1 0 0).natAbs ≤ 2 ^ C := bC1 _ _ n0at
                    have i1 := fg1.is kk j atk kn hj
                    have i2 := fg1.is at_ j (Nat.le_refl _) hat hj
                    rw [← ok] at i1
                    rw [← op, Nat.sub_self] at i2
                    obtain ⟨u1, u2, u3⟩ := Fg_le fg1 bC1 (k := kk) (j := j) atk kn hj
                    obtain ⟨w1, w2, w3⟩ := Fg_le fg1 bC1 (k := at_) (j := j) (Nat.le_refl _) hat hj
                    rw [← ok] at u1 u2 u3
                    rw [← op] at w1 w2 w3
                    have t0b : (if j < at_ then 0 else B1 0 (j - at_)).natAbs ≤ 2 ^ C := by
                      split
                      · simp
                      · exact bC1 _ _ n0at
                    have sl := share_le (share := share) (two := ga G at_ j) (Bk0 := B1 (kk - at_) 0) (B00 := B1 0 0) (t0 := if j < at_ then 0 else B1 0 (j - at_)) (b := b) (Lk := L1 kk) (L0 := L1 at_) (C := C) his i2 a1 a2 t0b fg1.bC (fg1.L0 kk kn).2 (fg1.L0 at_ hat).2
                    obtain ⟨⟨v1, v2, v3⟩, ⟨v4, v5, v6⟩⟩ := sl
                    have c1 := bits_of_le u1
                    have c2 := bits_of_le u2
                    have c3 := bits_of_le w1
                    have c4 := bits_of_le w2
                    have c5 := bits_of_le v1
                    have c6 := bits_of_le v2
                    have c7 := bits_of_le v4
                    have c8 := bits_of_le v5
                    clear u1 u2 w1 w2 v1 v2 v4 v5 t0b
                    have S11 := Same.new hT (o := HO.tup [V.ref zx, V.ref zy])
                    walk_at "rd"
                    refine ⟨_, .inl (.inl upd_same), rfl, _, _, rfl, _, _, rfl, rfl, ?_⟩
                    try walk_at "rd"
                    refine ⟨.ref tv, .ref zy, share, ga G at_ j, rfl, rep_of (S11 _ _ (s10 _ _ (sm _ _ htv))), rep_of (S11 _ _ (s10 _ _ (sm _ _ hzy))), v3, w3, by (clear S11 c8 c7 c6 c4 c3 c2 c1 v6 v3 w3 u3 i2 i1 a2 a1 hzy hpy hzx hpx hy' hyy hx' hxx kR hT hdj hj s10 hDo hD ene ak rp hzp ep2 lp hqp ep rk hzk ek2 lk hqk ek his htv rx hR sR sm hs hz8' rx8 hR8 sR8 sm8 hs8 hz8 nz8 h8 S68 rep8 s8 hpt S7 npt pne shP shN ilead ipiv op ok lx gw2 atk n0at kat kn ekk fi hii rx1 fg1 hR5 sm4 bC1 hB1 lead S4 n3 S03 hDl3 hR3 S3 RD hqb eb hqa ea em l3 l2 l1 hF hDl n1 s2 nD gw fg hat lz rz s1 nR hxs hp hv k mins fg0 n12 hr C__law_mul C__law_less F T; omega), by (clear S11 c8 c7 c5 c4 c3 c2 c1 v6 v3 w3 u3 i2 i1 a2 a1 hzy hpy hzx hpx hy' hyy hx' hxx kR hT hdj hj s10 hDo hD ene ak rp hzp ep2 lp hqp ep rk hzk ek2 lk hqk ek his htv rx hR sR sm hs hz8' rx8 hR8 sR8 sm8 hs8 hz8 nz8 h8 S68 rep8 s8 hpt S7 npt pne shP shN ilead ipiv op ok lx gw2 atk n0at kat kn ekk fi hii rx1 fg1 hR5 sm4 bC1 hB1 lead S4 n3 S03 hDl3 hR3 S3 RD hqb eb hqa ea em l3 l2 l1 hF hDl n1 s2 nD gw fg hat lz rz s1 nR hxs hp hv k mins fg0 n12 hr C__law_mul C__law_less F T; omega), by (clear S11 c8 c7 c6 c5 c4 c2 c1 v6 v3 w3 u3 i2 i1 a2 a1 hzy hpy hzx hpx hy' hyy hx' hxx kR hT hdj hj s10 hDo hD ene ak rp hzp ep2 lp hqp ep rk hzk ek2 lk hqk ek his htv rx hR sR sm hs hz8' rx8 hR8 sR8 sm8 hs8 hz8 nz8 h8 S68 rep8 s8 hpt S7 npt pne shP shN ilead ipiv op ok lx gw2 atk n0at kat kn ekk fi hii rx1 fg1 hR5 sm4 bC1 hB1 lead S4 n3 S03 hDl3 hR3 S3 RD hqb eb hqa ea em l3 l2 l1 hF hDl n1 s2 nD gw fg hat lz rz s1 nR hxs hp hv k mins fg0 n12 hr C__law_mul C__law_less F T; omega), by (clear S11 c8 c7 c6 c5 c3 c2 c1 v6 v3 w3 u3 i2 i1 a2 a1 hzy hpy hzx hpx hy' hyy hx' hxx kR hT hdj hj s10 hDo hD ene ak rp hzp ep2 lp hqp ep rk hzk ek2 lk hqk ek his htv rx hR sR sm hs hz8' rx8 hR8 sR8 sm8 hs8 hz8 nz8 h8 S68 rep8 s8 hpt S7 npt pne shP shN ilead ipiv op ok lx gw2 atk n0at kat kn ekk fi hii rx1 fg1 hR5 sm4 bC1 hB1 lead S4 n3 S03 hDl3 hR3 S3 RD hqb eb hqa ea em l3 l2 l1 hF hDl n1 s2 nD gw fg hat lz rz s1 nR hxs hp hv k mins fg0 n12 hr C__law_mul C__law_less F T; omega), fun z3 H12 s12 rep12 => ?_⟩
                    refine ⟨.ref zx, .ref z3, ga G kk j, nf (share.1 * (ga G at_ j).1) (share.2 * (ga G at_ j).2), rfl, rep_of (s12 _ _ (S11 _ _ (s10 _ _ (sm _ _ hzx)))), Rep.mono newH_same _ rep12, u3, v6, by (clear rep12 s12 S11 c8 c7 c6 c5 c4 c3 c2 v6 v3 w3 u3 i2 i1 a2 a1 hzy hpy hzx hpx hy' hyy hx' hxx kR hT hdj hj s10 hDo hD ene ak rp hzp ep2 lp hqp ep rk hzk ek2 lk hqk ek his htv rx hR sR sm hs hz8' rx8 hR8 sR8 sm8 hs8 hz8 nz8 h8 S68 rep8 s8 hpt S7 npt pne shP shN ilead ipiv op ok lx gw2 atk n0at kat kn ekk fi hii rx1 fg1 hR5 sm4 bC1 hB1 lead S4 n3 S03 hDl3 hR3 S3 RD hqb eb hqa ea em l3 l2 l1 hF hDl n1 s2 nD gw fg hat lz rz s1 nR hxs hp hv k mins fg0 n12 hr C__law_mul C__law_less F T; omega), by (clear rep12 s12 S11 c8 c7 c6 c5 c4 c3 c1 v6 v3 w3 u3 i2 i1 a2 a1 hzy hpy hzx hpx hy' hyy hx' hxx kR hT hdj hj s10 hDo hD ene ak rp hzp ep2 lp hqp ep rk hzk ek2 lk hqk ek his htv rx hR sR sm hs hz8' rx8 hR8 sR8 sm8 hs8 hz8 nz8 h8 S68 rep8 s8 hpt S7 npt pne shP shN ilead ipiv op ok lx gw2 atk n0at kat kn ekk fi hii rx1 fg1 hR5 sm4 bC1 hB1 lead S4 n3 S03 hDl3 hR3 S3 RD hqb eb hqa ea em l3 l2 l1 hF hDl n1 s2 nD gw fg hat lz rz s1 nR hxs hp hv k mins fg0 n12 hr C__law_mul C__law_less F T; omega), by (clear rep12 s12 S11 c8 c6 c5 c4 c3 c2 c1 v6 v3 w3 u3 i2 i1 a2 a1 hzy hpy hzx hpx hy' hyy hx' hxx kR hT hdj hj s10 hDo hD ene ak rp hzp ep2 lp hqp ep rk hzk ek2 lk hqk ek his htv rx hR sR sm hs hz8' rx8 hR8 sR8 sm8 hs8 hz8 nz8 h8 S68 rep8 s8 hpt S7 npt pne shP shN ilead ipiv op ok lx gw2 atk n0at kat kn ekk fi hii rx1 fg1 hR5 sm4 bC1 hB1 lead S4 n3 S03 hDl3 hR3 S3 RD hqb eb hqa ea em l3 l2 l1 hF hDl n1 s2 nD gw fg hat lz rz s1 nR hxs hp hv k mins fg0 n12 hr C__law_mul C__law_less F T; omega), by (clear rep12 s12 S11 c7 c6 c5 c4 c3 c2 c1 v6 v3 w3 u3 i2 i1 a2 a1 hzy hpy hzx hpx hy' hyy hx' hxx kR hT hdj hj s10 hDo hD ene ak rp hzp ep2 lp hqp ep rk hzk ek2 lk hqk ek his htv rx hR sR sm hs hz8' rx8 hR8 sR8 sm8 hs8 hz8 nz8 h8 S68 rep8 s8 hpt S7 npt pne shP shN ilead ipiv op ok lx gw2 atk n0at kat kn ekk fi hii rx1 fg1 hR5 sm4 bC1 hB1 lead S4 n3 S03 hDl3 hR3 S3 RD hqb eb hqa ea em l3 l2 l1 hF hDl n1 s2 nD gw fg hat lz rz s1 nR hxs hp hv k mins fg0 n12 hr C__law_mul C__law_less F T; omega), fun z4 H13 s13 rep13 => ?_⟩
                    refine kR _ _ _ ⟨_, _, rfl⟩ ((S11.trans s12).trans s13) ?_
                    have hd2 : d = dF (ne j) := by
                      rw [List.getElem?_map, List.getElem?_map, List.getElem?_range hj] at hdj
                      exact (Option.some.inj hdj).symm
                    rw [hd2, ene]
                    refine Rep.mono (fun b o h => ?_) _ rep13
                    obtain ⟨z1, z2⟩ := newH_of h
                    obtain ⟨oD, hDo⟩ := hDo
                    have bD : b ≠ D := (ne_of_none (s12 _ _ (S11 _ _ hDo)) z1).symm
                    rw [cutH_at bD (s10.free (S11.free (s12.free z1)))]
                    exact z2
                  · intro D H10 hD s10 rep
                    refine ⟨xs, s10 _ _ hR, kk, by rw [lx, show (0 : Int) + (at_ : Int) + 1 + (ii : Int) = (kk : Int) by (clear rep s10 hD ene ak rp hzp ep2 lp hqp ep rk hzk ek2 lk hqk ek his htv rx hR sR sm hs hz8' rx8 hR8 sR8 sm8 hs8 hz8 nz8 h8 S68 rep8 s8 hpt S7 npt pne shP shN ilead ipiv op ok lx gw2 atk n0at kat kn fi hii rx1 fg1 hR5 sm4 bC1 hB1 lead S4 n3 S03 hDl3 hR3 S3 RD hqb eb hqa ea em l3 l2 l1 hF hDl n1 s2 nD gw fg hat lz rz s1 nR hxs hp hv k mins fg0 c11 n12 hr C__law_mul C__law_less F T; omega)]; exact ixN_nat kn, grow S H9 H10, hs.trans (grow_same sm), same_put (grow_in sm s10) (by rw [grow_old hR]; exact sR), by rw [grow_old hR]; exact sR, G.set kk ((List.range n).map ne), ?_, ?_⟩
                    · rw [List.map_set]
                      exact Reps_set (show Rep (grow S H9 H10) _ (dRow _) from Rep.mono grow_new _ rep) kk (Reps.mono (grow_same sm) _ rx)
                    · rw [show at_ + 1 + (ii + 1) = kk + 1 by (clear rep s10 hD ene ak rp hzp ep2 lp hqp ep rk hzk ek2 lk hqk ek his htv rx hR sR sm hs hz8' rx8 hR8 sR8 sm8 hs8 hz8 nz8 h8 S68 rep8 s8 hpt S7 npt pne shP shN ilead ipiv op ok lx gw2 atk n0at kat kn fi hii rx1 fg1 hR5 sm4 bC1 hB1 lead S4 n3 S03 hDl3 hR3 S3 RD hqb eb hqa ea em l3 l2 l1 hF hDl n1 s2 nD gw fg hat lz rz s1 nR hxs hp hv k mins fg0 c11 n12 hr C__law_mul C__law_less F T; omega)]
                      refine Fi_next fg1 hat hB1 fi (by (clear rep s10 hD ene ak rp hzp ep2 lp hqp ep rk hzk ek2 lk hqk ek his htv rx hR sR sm hs hz8' rx8 hR8 sR8 sm8 hs8 hz8 nz8 h8 S68 rep8 s8 hpt S7 npt pne shP shN ilead ipiv op ok lx gw2 n0at kat kn fi hii rx1 fg1 hR5 sm4 bC1 hB1 lead S4 n3 S03 hDl3 hR3 S3 RD hqb eb hqa ea em l3 l2 l1 hF hDl n1 s2 nD gw fg hat lz rz s1 nR hxs hp hv k mins fg0 c11 n12 hr C__law_mul C__law_less F T; omega)) kn his (by simp) fun j hj => ?_
                      rw [List.getD_eq_getElem?_getD, List.getElem?_map, List.getElem?_range hj, ene]
                      rfl
              · rintro σ H6 ⟨S, xs, G, e4, e5, rfl, hs, sm, sR, hR, rx, fi⟩
                rw [show at_ + 1 + (n - (at_ + 1)) = n by (clear fi rx hR sR sm hs rx1 fg1 hR5 sm4 bC1 hV2 hB1 hV1 lead S4 n3 S03 hDl3 hR3 S3 RD hqb eb hqa ea em l3 l2 l1 hF hDl n1 s2 nD gw bC hV fg rz s1 nR hxs hp hv k mins fg0 c11 n12 hr C__law_mul C__law_less F T; omega)] at fi
                exact ⟨S, xs, G, V1, _, _, L1, _, _, _, _, rfl, hs, sm, sR, hR, rx, Fi_end fg1 hat hB1 bC1 fi, hV2⟩
        · rintro σ H' ⟨S, xs, G, Vd, b, B, L, e2, e3, e4, e5, rfl, hs, sm, sR, hR, rx, fg, hV⟩
          walk_at "rd"
          have e := fg.fl.one rfl
          have nz : ¬ D n A0 = 0 := fun z => fg.fl.b0 (by rw [e]; rcases hV with h | h <;> rw [h, z]; rfl)
          have := k _ (hs.trans sm)
          rw [decide_eq_false nz] at this
          exact this
end Rim5
set_option Elab.async false
set_option linter.all false
set_option maxRecDepth 100000
set_option pp.deepTerms true
set_option maxHeartbeats 4000000
namespace Rim5
open PySem PySem.Spec PyProof.Rows L2 RimM RimD
local macro_rules | `(tactic| walk_at "rd") => `(tactic| first | (dsimp only [tSeq, tAsg, gName, tTup, tLst, tCons, tNil, tVar, tC, tCB, tOp, rI, rI0, tTest, tIfS, tNext, tRet, tRetN, tDrop, tB, tAnd, tOr, tNot, tAndV, tOrV, tNotV, rU, tUn, tBM0, tBM, rBits, tCall, L2.start, rIxTH, rIxLH, rLenH, rEqTH, rEq, rNe, scal, tyV, CMul, CMulB, CDivB, CDivF, CPow, List.map_cons, List.map_nil, List.length_cons, List.length_nil, List.replicate, List.cons_append, List.nil_append, List.set_cons_zero, List.set_cons_succ, List.getElem?_cons_zero, List.getElem?_cons_succ, gSub, rSetL, rCat, iRng1, tPar, iList, tComp, pick, tYes, iZip, gTup, gCons, gNil, rSum, rListH, List.map, iRng2, iRngD, tSl, rSlH, tPart, tNoPart, tPar3]; try simp only [tSeq, tAsg, gName, tTup, tLst, tCons, tNil, tVar, tC, tCB, tOp, rI, rI0, tTest, tIfS, tNext, tRet, tRetN, tDrop, tB, tAnd, tOr, tNot, tAndV, tOrV, tNotV, rU, tUn, tBM0, tBM, rBits, tCall, L2.start, rIxTH, rIxLH, rLenH, rEqTH, rEq, rNe, scal, tyV, CMul, CMulB, CDivB, CDivF, CPow, List.map_cons, List.map_nil, List.length_cons, List.length_nil, List.replicate, List.cons_append, List.nil_append, List.append_nil, List.set_cons_zero, List.set_cons_succ, List.getElem?_cons_zero, List.getElem?_cons_succ, Option.some.injEq, List.cons.injEq, V.int.injEq, V.bl.injEq, V.str.injEq, V.ref.injEq, V.ty.injEq, HO.tup.injEq, HO.lst.injEq, exists_eq_left, exists_eq_left', exists_and_left, and_assoc, and_true, true_and, upd_same, atI_0, atI_1, atI_2, Nat.zero_add, Nat.reduceAdd, Nat.reduceSub, decide_eq_true_eq, Bool.not_eq_true', decide_eq_false_iff_not, reduceCtorEq, false_or, or_false, true_or, or_true, plainT_int, plainT_bool, plainT_tuple, plainT_list, plainT_str, Bool.false_eq_true, if_false, if_true, Bool.not_false, Bool.not_true, Bool.not_not, gSub, rSetL, ixN_00, upd_upd, rCat, iRng1, tFor_eq, tPar, iList, tComp, pick, tYes, iZip, gTup, gCons, gNil, rSum, rListH, List.map, Option.bind, iRng2, iRngD, tSl, rSlH, tPart, tNoPart, tPar3]) | simp only [tSeq, tAsg, gName, tTup, tLst, tCons, tNil, tVar, tC, tCB, tOp, rI, rI0, tTest, tIfS, tNext, tRet, tRetN, tDrop, tB, tAnd, tOr, tNot, tAndV, tOrV, tNotV, rU, tUn, tBM0, tBM, rBits, tCall, L2.start, rIxTH, rIxLH, rLenH, rEqTH, rEq, rNe, scal, tyV, CMul, CMulB, CDivB, CDivF, CPow, List.map_cons, List.map_nil, List.length_cons, List.length_nil, List.replicate, List.cons_append, List.nil_append, List.append_nil, List.set_cons_zero, List.set_cons_succ, List.getElem?_cons_zero, List.getElem?_cons_succ, Option.some.injEq, List.cons.injEq, V.int.injEq, V.bl.injEq, V.str.injEq, V.ref.injEq, V.ty.injEq, HO.tup.injEq, HO.lst.injEq, exists_eq_left, exists_eq_left', exists_and_left, and_assoc, and_true, true_and, upd_same, atI_0, atI_1, atI_2, Nat.zero_add, Nat.reduceAdd, Nat.reduceSub, decide_eq_true_eq, Bool.not_eq_true', decide_eq_false_iff_not, reduceCtorEq, false_or, or_false, true_or, or_true, plainT_int, plainT_bool, plainT_tuple, plainT_list, plainT_str, Bool.false_eq_true, if_false, if_true, Bool.not_false, Bool.not_true, Bool.not_not, gSub, rSetL, ixN_00, upd_upd, rCat, iRng1, tFor_eq, tPar, iList, tComp, pick, tYes, iZip, gTup, gCons, gNil, rSum, rListH, List.map, Option.bind, iRng2, iRngD, tSl, rSlH, tPart, tNoPart, tPar3])
variable {P : Program} {w : World} {K : PySem.W.Frag} {mg : Str → Option Value} {base : Heap}
structure GS (H S H' : Hp) (l : Addr) (r : Int) : Prop where
  sm : Same S H'
  sl : S l = none
  hl : H' l = some (.lst [.int r])
  but : But l H H'
  dis : ∀ b o, S b = some o → H b = none
theorem GS.dig {H S H' : Hp} {l : Addr} {r : Int} (g : GS H S H' l r) (r' : Int) : GS H S (upd H' l (.lst [.int r'])) l r' := ⟨same_put g.sm g.sl, g.sl, upd_same, But.upd g.but, g.dis⟩
theorem GS.call {H S H' H2 : Hp} {l : Addr} {r : Int} (g : GS H S H' l r) (s : Same H' H2) : GS H (grow S H' H2) H2 l r := by
  refine ⟨grow_in g.sm s, by rw [grow_old g.hl]; exact g.sl, s _ _ g.hl, g.but.trans (But.of s), fun b o h => ?_⟩
  cases e : H' b with
  | some z => rw [grow_old e] at h; exact g.dis _ _ h
  | none =>
    cases q : H b with
    | none => rfl
    | some z =>
      by_cases hb : b = l
      · rw [hb, g.hl] at e; cases e
      · rw [g.but b z hb q] at e; cases e
theorem GS.same {H S H' H2 : Hp} {l : Addr} {r : Int} (g : GS H S H' l r) : Same S (grow S H' H2) := grow_same g.sm
theorem GS.new {H S H' : Hp} {l a : Addr} {r : Int} {o : HO} (g : GS H S H' l r) (n : H' a = none) : GS H S (upd H' a o) l r := ⟨g.sm.trans (Same.new n), g.sl, (Same.new n) _ _ g.hl, g.but.trans (But.of (Same.new n)), g.dis⟩
theorem GS.put {H S H' : Hp} {l a : Addr} {r : Int} {o : HO} (g : GS H S H' l r) (ha : S a = none) (al : a ≠ l) (hH : H a = none) : GS H S (upd H' a o) l r :=
  ⟨same_put g.sm ha, g.sl, by rw [upd_ne al.symm]; exact g.hl, fun b z n h => by rw [upd_ne (ne_of_none h hH)]; exact g.but b z n h, g.dis⟩
theorem GS.free {H S H' : Hp} {l a : Addr} {r : Int} (g : GS H S H' l r) (n : H' a = none) : H a = none := by
  cases q : H a with
  | none => rfl
  | some z =>
    by_cases hb : a = l
    · rw [hb, g.hl] at n; cases n
    · rw [g.but a z hb q] at n; cases n
structure GT (H S H' : Hp) (l : Addr) (r : Int) (as : List (Addr × HO)) : Prop where
  gs : GS H S H' l r
  at_ : ∀ a o, (a, o) ∈ as → S a = none ∧ H' a = some o ∧ a ≠ l
theorem GT.call {H S H' H2 : Hp} {l : Addr} {r : Int} {as : List (Addr × HO)} (g : GT H S H' l r as) (s : Same H' H2) : GT H (grow S H' H2) H2 l r as := ⟨g.gs.call s, fun a o h => by
  obtain ⟨h1, h2, h3⟩ := g.at_ a o h
  exact ⟨by rw [grow_old h2]; exact h1, s _ _ h2, h3⟩⟩
theorem GT.dig {H S H' : Hp} {l : Addr} {r : Int} {as : List (Addr × HO)} (g : GT H S H' l r as) (r' : Int) : GT H S (upd H' l (.lst [.int r'])) l r' as := ⟨g.gs.dig r', fun a o h => by
  obtain ⟨h1, h2, h3⟩ := g.at_ a o h
  exact ⟨h1, by rw [upd_ne h3]; exact h2, h3⟩⟩
theorem GT.gr {H S H' H2 : Hp} {l : Addr} {r : Int} {as : List (Addr × HO)} (g : GT H S H' l r as) : Same S (grow S H' H2) := grow_same g.gs.sm
structure Dr (p : Int × Int) : Prop where
  low : Low p
  top : p.1.natAbs ≤ 12
  bot : p.2 ≤ 6
theorem Dr.sm {p : Int × Int} (h : Dr p) : Sm p := by
  have h0 := h.low.pos
  have h1 := h.top
  have h2 := h.bot
  exact ⟨h0, PyProof.Rows.bits_of_natAbs_le (b := 12) (by (clear h2 h0 h; omega)) (by decide +kernel), PyProof.Rows.bits_of_natAbs_le (b := 6) (by omega) (by decide +kernel)⟩
theorem dr_nf {t b : Int} (ht : t.natAbs ≤ 12) (h0 : 0 < b) (h6 : b ≤ 6) : Dr (nf t b) := by
  have l := (nf_low (t := t) (b := b) (by omega)).1
  have z := nf_abs_le (t := t) (b := b) (by omega)
  have := l.pos
  exact ⟨l, by (clear this l h6 h0; omega), by (clear this l ht; omega)⟩
theorem dr_add {p q : Int × Int} (hp : Dr p) (hq : Dr q) : Sm (nf (p.1 * q.2 + q.1 * p.2) (p.2 * q.2)) ∧ Low (nf (p.1 * q.2 + q.1 * p.2) (p.2 * q.2)) := by
  have p0 := hp.low.pos
  have q0 := hq.low.pos
  have b0 : 0 < p.2 * q.2 := Int.mul_pos p0 q0
  have l := (nf_low (t := p.1 * q.2 + q.1 * p.2) (b := p.2 * q.2) (by (clear q0 p0 hq hp; omega))).1
  have z := nf_abs_le (t := p.1 * q.2 + q.1 * p.2) (b := p.2 * q.2) (by (clear l q0 p0 hq hp; omega))
  have a1 : (p.1 * q.2).natAbs ≤ 12 * 6 := by rw [Int.natAbs_mul]; exact Nat.mul_le_mul hp.top (by have := hq.bot; (clear z l b0 p0 hq hp; omega))
  have a2 : (q.1 * p.2).natAbs ≤ 12 * 6 := by rw [Int.natAbs_mul]; exact Nat.mul_le_mul hq.top (by have := hp.bot; (clear a1 z l b0 q0 hq hp; omega))
  have a3 : (p.2 * q.2).natAbs ≤ 6 * 6 := by rw [Int.natAbs_mul]; exact Nat.mul_le_mul (by have := hp.bot; (clear a2 a1 z l b0 q0 hq hp; omega)) (by have := hq.bot; (clear a2 a1 z l b0 p0 hq hp; omega))
  have a4 := Int.natAbs_add_le (p.1 * q.2) (q.1 * p.2)
  exact ⟨⟨l.pos, PyProof.Rows.bits_of_natAbs_le (b := 144) (by (clear a3 l b0 q0 p0 hq hp; omega)) (by decide +kernel), PyProof.Rows.bits_of_natAbs_le (b := 36) (by (clear a4 a2 a1 l b0 q0 p0 hq hp; omega)) (by decide +kernel)⟩, l⟩
theorem ix_wrap {n : Nat} {i : Int} (h0 : -(n : Int) ≤ i) (h1 : i < n) : ∃ k, k < n ∧ ixN n i = some k := by
  unfold ixN
  by_cases h : 0 ≤ i
  · rw [if_pos h, if_pos h1]
    exact ⟨i.toNat, by omega, rfl⟩
  · rw [if_neg h, if_pos (by omega)]
    exact ⟨_, by omega, rfl⟩
theorem at_wrap {xs : List V} {n : Nat} {i : Int} (hl : xs.length = n) (h0 : -(n : Int) ≤ i) (h1 : i < n) : ∃ k, k < n ∧ ∃ v, xs[k]? = some v ∧ atI xs i = some v := by
  obtain ⟨k, hk, e⟩ := ix_wrap h0 h1
  refine ⟨k, hk, xs[k]'(by (clear e h1 h0; omega)), List.getElem?_eq_getElem _, ?_⟩
  have e2 : ixN xs.length i = some k := by rw [hl]; exact e
  unfold atI
  rw [e2]
  exact List.getElem?_eq_getElem _
theorem sl01 : Sm (0, 1) ∧ Low (0, 1) := ⟨⟨by decide, by decide +kernel, by decide +kernel⟩, ⟨by decide, by decide⟩⟩
noncomputable abbrev s__law_grid_by : Stmt := PySem.Challenge.pw_rimread_k05_solved.main.body.getD 35 (.Pass ⟨0, 0, 0, 0⟩)
theorem sc__law_grid_by : FnScope ["_law_rest", "_law_size", "_law_kind", "_law_grid", "_law_i", "_law_row", "_law_j", "_law_top", "_law_spoilt", "_law_at", "_law_rows"] ["_law_rest", "_law_size"] (defScope s__law_grid_by) := ⟨rfl, rfl, rfl, by decide +kernel, rfl, by decide +kernel, by decide +kernel⟩
theorem lk__law_grid_by_0 : (defScope s__law_grid_by).names.lookup ("_law_rest" : Str) = some PySem.NameKind.local := by decide +kernel
theorem lk__law_grid_by_1 : (defScope s__law_grid_by).names.lookup ("_law_size" : Str) = some PySem.NameKind.local := by decide +kernel
theorem lk__law_grid_by_2 : (defScope s__law_grid_by).names.lookup ("_law_kind" : Str) = some PySem.NameKind.local := by decide +kernel
theorem lk__law_grid_by_3 : (defScope s__law_grid_by).names.lookup ("_law_grid" : Str) = some PySem.NameKind.local := by decide +kernel
theorem lk__law_grid_by_4 : (defScope s__law_grid_by).names.lookup ("_law_i" : Str) = some PySem.NameKind.local := by decide +kernel
theorem lk__law_grid_by_5 : (defScope s__law_grid_by).names.lookup ("_law_row" : Str) = some PySem.NameKind.local := by decide +kernel
theorem lk__law_grid_by_6 : (defScope s__law_grid_by).names.lookup ("_law_j" : Str) = some PySem.NameKind.local := by decide +kernel
theorem lk__law_grid_by_7 : (defScope s__law_grid_by).names.lookup ("_law_top" : Str) = some PySem.NameKind.local := by decide +kernel
theorem lk__law_grid_by_8 : (defScope s__law_grid_by).names.lookup ("_law_spoilt" : Str) = some PySem.NameKind.local := by decide +kernel
theorem lk__law_grid_by_9 : (defScope s__law_grid_by).names.lookup ("_law_at" : Str) = some PySem.NameKind.local := by decide +kernel
theorem lk__law_grid_by_10 : (defScope s__law_grid_by).names.lookup ("_law_rows" : Str) = some PySem.NameKind.local := by decide +kernel
theorem gk__law_grid_by__law_digit : (defScope s__law_grid_by).names.lookup ("_law_digit" : Str) = some PySem.NameKind.globalImplicit := by decide +kernel
theorem gk__law_grid_by__law_low : (defScope s__law_grid_by).names.lookup ("_law_low" : Str) = some PySem.NameKind.globalImplicit := by decide +kernel
theorem gk__law_grid_by_int : (defScope s__law_grid_by).names.lookup ("int" : Str) = some PySem.NameKind.globalImplicit := by decide +kernel
theorem gk__law_grid_by_list : (defScope s__law_grid_by).names.lookup ("list" : Str) = some PySem.NameKind.globalImplicit := by decide +kernel
theorem gk__law_grid_by_range : (defScope s__law_grid_by).names.lookup ("range" : Str) = some PySem.NameKind.globalImplicit := by decide +kernel
theorem gk__law_grid_by_zip : (defScope s__law_grid_by).names.lookup ("zip" : Str) = some PySem.NameKind.globalImplicit := by decide +kernel
noncomputable def sp_gb : Sp := fun vs H Q _ => ∃ (l : Addr) (r : Int) (n : Nat), vs = [.ref l, .int n] ∧ H l = some (.lst [.int r]) ∧ n ≤ 12 ∧
  ∀ v H' r' (g : List (List (Int × Int))), But l H H' → H' l = some (.lst [.int r']) → Rep (newH H H') v (.lst (g.map dRow)) → g.length = n → (∀ row ∈ g, row.length = n ∧ ∀ p ∈ row, Sm p ∧ Low p) → Q v H'
theorem ok__law_grid_by (T : Txt K mg) (F : Fn0 K mg "_law_grid_by" s__law_grid_by) (C__law_digit : Cal P w K mg base "_law_digit" ["_law_rest", "_law_many"] 1 sp_digit) (C__law_low : Cal P w K mg base "_law_low" ["_law_top", "_law_bottom"] 1 sp_low) (C__law_add : Cal P w K mg base "_law_add" ["_law_one", "_law_other"] 2 (sp_two (fun p q => p.1 * q.2 + q.1 * p.2))) : Cal P w K mg base "_law_grid_by" ["_law_rest", "_law_size"] 3 sp_gb := by
  refine cal_of F sc__law_grid_by (fun _ _ _ _ _ _ us hl => match us, hl with | [_, _], _ => rfl) ?len ?body
  case len => rintro vs H Q E ⟨a, b, c, rfl, _⟩; rfl
  case body =>
    intro f cdv A outer s H vs Q E hr h
    obtain ⟨l, r, n, rfl, hl, n12, k⟩ := h
    refine' ⟨_, ?D, ?R⟩
    case D =>
      refine' pss_cons ?g1 ?g2
      case g1 =>
        refine' ps_set1 (i := 2) sc__law_grid_by.nd rfl lk__law_grid_by_2 ?g3
        case g3 =>
          refine' pe_op op_mulB ?g4 ?g5
          case g4 =>
            refine' pe_op op_add ?g6 ?g7
            case g6 => exact pe_int
            case g7 =>
              refine' pe_callD C__law_digit (hr.mono (by decide)) gk__law_grid_by__law_digit ?g8
              case g8 =>
                refine' pa_c ?g9 ?g10
                case g9 => exact pv1 0 rfl lk__law_grid_by_0
                case g10 =>
                  refine' pa_c ?g11 ?g12
                  case g11 => exact pe_int
                  case g12 => exact pa_nil
          case g5 =>
            refine' pe_callT call_int1 gk__law_grid_by_int T.n_int bt_int ?g13
            case g13 =>
              refine' pa_c ?g14 ?g15
              case g14 =>
                refine' pe_cmpR op_lt ?g16 ?g17 (nomark _)
                case g16 => exact pv1 1 rfl lk__law_grid_by_1
                case g17 => exact pe_int
              case g15 => exact pa_nil
      case g2 =>
        refine' pss_cons ?g18 ?g19
        case g18 =>
          refine' ps_set1 (i := 3) sc__law_grid_by.nd rfl lk__law_grid_by_3 ?g20
          case g20 =>
            refine' pe_lst ?g21
            case g21 => exact pa_nil
        case g19 =>
          refine' pss_cons ?g22 ?g23
          case g22 =>
            refine' ps_for PassesOwn.never rfl ?g24 ?g25 ?g26
            case g24 =>
              refine' pi_range1 gk__law_grid_by_range T.n_range ?g27
              case g27 =>
                refine' pa_c ?g28 ?g29
                case g28 => exact pv1 1 rfl lk__law_grid_by_1
                case g29 => exact pa_nil
            case g25 => exact pg_name1 (i := 4) sc__law_grid_by.nd rfl lk__law_grid_by_4
            case g26 =>
              refine' pss_cons ?g30 ?g31
              case g30 =>
                refine' ps_set1 (i := 5) sc__law_grid_by.nd rfl lk__law_grid_by_5 ?g32
                case g32 =>
                  refine' pe_lst ?g33
                  case g33 => exact pa_nil
              case g31 =>
                refine' pss_cons ?g34 ?g35
                case g34 =>
                  refine' ps_for PassesOwn.never rfl ?g36 ?g37 ?g38
                  case g36 =>
                    refine' pi_range1 gk__law_grid_by_range T.n_range ?g39
                    case g39 =>
                      refine' pa_c ?g40 ?g41
                      case g40 => exact pv1 1 rfl lk__law_grid_by_1
                      case g41 => exact pa_nil
                  case g37 => exact pg_name1 (i := 6) sc__law_grid_by.nd rfl lk__law_grid_by_6
                  case g38 =>
                    refine' pss_cons ?g42 ?g43
                    case g42 =>
                      refine' ps_set1 (i := 7) sc__law_grid_by.nd rfl lk__law_grid_by_7 ?g44
                      case g44 =>
                        refine' pe_op op_sub ?g45 ?g46
                        case g45 =>
                          refine' pe_callD C__law_digit (hr.mono (by decide)) gk__law_grid_by__law_digit ?g47
                          case g47 =>
                            refine' pa_c ?g48 ?g49
                            case g48 => exact pv1 0 rfl lk__law_grid_by_0
                            case g49 =>
                              refine' pa_c ?g50 ?g51
                              case g50 =>
                                refine' pe_ix ix_tupH ?g52 ?g53 (fun _ _ => rfl)
                                case g52 =>
                                  refine' pe_tup ?g54
                                  case g54 =>
                                    refine' pa_c ?g55 ?g56
                                    case g55 => exact pe_int
                                    case g56 =>
                                      refine' pa_c ?g57 ?g58
                                      case g57 => exact pe_int
                                      case g58 =>
                                        refine' pa_c ?g59 ?g60
                                        case g59 => exact pe_int
                                        case g60 => exact pa_nil
                                case g53 => exact pv1 2 rfl lk__law_grid_by_2
                              case g51 => exact pa_nil
                        case g46 =>
                          refine' pe_ix ix_tupH ?g61 ?g62 (fun _ _ => rfl)
                          case g61 =>
                            refine' pe_tup ?g63
                            case g63 =>
                              refine' pa_c ?g64 ?g65
                              case g64 => exact pe_int
                              case g65 =>
                                refine' pa_c ?g66 ?g67
                                case g66 => exact pe_int
                                case g67 =>
                                  refine' pa_c ?g68 ?g69
                                  case g68 => exact pe_int
                                  case g69 => exact pa_nil
                          case g62 => exact pv1 2 rfl lk__law_grid_by_2
                    case g43 =>
                      refine' pss_one ?g70
                      case g70 =>
                        refine' ps_expr1 ?g71
                        case g71 =>
                          refine' pe_bm PySem.F.plainAttrs_list PySem.F.slot_list_append PySem.F.type_list_append mt_append ?g72 ?g73
                          case g72 => exact pv1 5 rfl lk__law_grid_by_5
                          case g73 =>
                            refine' pa_c ?g74 ?g75
                            case g74 =>
                              refine' pe_callD C__law_low (hr.mono (by decide)) gk__law_grid_by__law_low ?g76
                              case g76 =>
                                refine' pa_c ?g77 ?g78
                                case g77 => exact pv1 7 rfl lk__law_grid_by_7
                                case g78 =>
                                  refine' pa_c ?g79 ?g80
                                  case g79 =>
                                    refine' pe_op op_add ?g81 ?g82
                                    case g81 => exact pe_int
                                    case g82 =>
                                      refine' pe_callD C__law_digit (hr.mono (by decide)) gk__law_grid_by__law_digit ?g83
                                      case g83 =>
                                        refine' pa_c ?g84 ?g85
                                        case g84 => exact pv1 0 rfl lk__law_grid_by_0
                                        case g85 =>
                                          refine' pa_c ?g86 ?g87
                                          case g86 =>
                                            refine' pe_ix ix_tupH ?g88 ?g89 (fun _ _ => rfl)
                                            case g88 =>
                                              refine' pe_tup ?g90
                                              case g90 =>
                                                refine' pa_c ?g91 ?g92
                                                case g91 => exact pe_int
                                                case g92 =>
                                                  refine' pa_c ?g93 ?g94
                                                  case g93 => exact pe_int
                                                  case g94 =>
                                                    refine' pa_c ?g95 ?g96
                                                    case g95 => exact pe_int
                                                    case g96 => exact pa_nil
                                            case g89 => exact pv1 2 rfl lk__law_grid_by_2
                                          case g87 => exact pa_nil
                                  case g80 => exact pa_nil
                            case g75 => exact pa_nil
                case g35 =>
                  refine' pss_one ?g97
                  case g97 =>
                    refine' ps_expr1 ?g98
                    case g98 =>
                      refine' pe_bm PySem.F.plainAttrs_list PySem.F.slot_list_append PySem.F.type_list_append mt_append ?g99 ?g100
                      case g99 => exact pv1 3 rfl lk__law_grid_by_3
                      case g100 =>
                        refine' pa_c ?g101 ?g102
                        case g101 => exact pv1 5 rfl lk__law_grid_by_5
                        case g102 => exact pa_nil
          case g23 =>
            refine' pss_cons ?g103 ?g104
            case g103 =>
              refine' ps_set1 (i := 8) sc__law_grid_by.nd rfl lk__law_grid_by_8 ?g105
              case g105 =>
                refine' pe_callD C__law_digit (hr.mono (by decide)) gk__law_grid_by__law_digit ?g106
                case g106 =>
                  refine' pa_c ?g107 ?g108
                  case g107 => exact pv1 0 rfl lk__law_grid_by_0
                  case g108 =>
                    refine' pa_c ?g109 ?g110
                    case g109 => exact pe_int
                    case g110 => exact pa_nil
            case g104 =>
              refine' pss_cons ?g111 ?g112
              case g111 =>
                refine' ps_if ?g113 ?g114 ?g115
                case g113 =>
                  refine' PW.pt ?g116
                  case g116 =>
                    refine' pw_and ?g117 ?g118
                    case g117 =>
                      refine' pt_cmpR op_lt ?g119 ?g120 (nomark _)
                      case g119 => exact pv1 8 rfl lk__law_grid_by_8
                      case g120 => exact pe_int
                    case g118 =>
                      refine' pw_and1 ?g121
                      case g121 =>
                        refine' pt_cmpR op_gt ?g122 ?g123 (nomark _)
                        case g122 => exact pv1 1 rfl lk__law_grid_by_1
                        case g123 => exact pe_int
                case g114 =>
                  refine' pss_cons ?g124 ?g125
                  case g124 =>
                    refine' ps_set1 (i := 9) sc__law_grid_by.nd rfl lk__law_grid_by_9 ?g126
                    case g126 =>
                      refine' pe_callD C__law_digit (hr.mono (by decide)) gk__law_grid_by__law_digit ?g127
                      case g127 =>
                        refine' pa_c ?g128 ?g129
                        case g128 => exact pv1 0 rfl lk__law_grid_by_0
                        case g129 =>
                          refine' pa_c ?g130 ?g131
                          case g130 => exact pv1 1 rfl lk__law_grid_by_1
                          case g131 => exact pa_nil
                  case g125 =>
                    refine' pss_cons ?g132 ?g133
                    case g132 =>
                      refine' ps_set1 (i := 10) sc__law_grid_by.nd rfl lk__law_grid_by_10 ?g134
                      case g134 =>
                        refine' pe_lst ?g135
                        case g135 =>
                          refine' pa_c ?g136 ?g137
                          case g136 =>
                            refine' pe_ix ix_listH ?g138 ?g139 (fun _ _ => rfl)
                            case g138 => exact pv1 3 rfl lk__law_grid_by_3
                            case g139 => exact pv1 9 rfl lk__law_grid_by_9
                          case g137 =>
                            refine' pa_c ?g140 ?g141
                            case g140 =>
                              refine' pe_comp (N' := ["_law_j"]) (ix := [none]) rfl rfl (scp_of ?g142) ?g143 (fun _ _ _ => ?g144) (fun _ _ _ => ?g145) (fun _ _ _ => ?g146)
                              case g142 => exact (by show scpB (defScope s__law_grid_by) ["_law_rest", "_law_size", "_law_kind", "_law_grid", "_law_i", "_law_row", "_law_j", "_law_top", "_law_spoilt", "_law_at", "_law_rows"] _ _ _ = true; decide +kernel)
                              case g143 =>
                                refine' pi_range1 gk__law_grid_by_range T.n_range ?g147
                                case g147 =>
                                  refine' pa_c ?g148 ?g149
                                  case g148 => exact pv1 1 rfl lk__law_grid_by_1
                                  case g149 => exact pa_nil
                              case g144 => exact pg_name1 (i := 0) (by show List.Nodup (["_law_j"] : List Str); decide +kernel) rfl rfl
                              case g145 => exact pf_nil
                              case g146 =>
                                refine' pe_tup ?g150
                                case g150 =>
                                  refine' pa_c ?g151 ?g152
                                  case g151 => exact pe_int
                                  case g152 =>
                                    refine' pa_c ?g153 ?g154
                                    case g153 => exact pe_int
                                    case g154 => exact pa_nil
                            case g141 => exact pa_nil
                    case g133 =>
                      refine' pss_cons ?g155 ?g156
                      case g155 =>
                        refine' ps_expr1 ?g157
                        case g157 =>
                          refine' pe_bm PySem.F.plainAttrs_list PySem.F.slot_list_append PySem.F.type_list_append mt_append ?g158 ?g159
                          case g158 => exact pv1 10 rfl lk__law_grid_by_10
                          case g159 =>
                            refine' pa_c ?g160 ?g161
                            case g160 =>
                              refine' pe_comp (N' := ["_law_one", "_law_two"]) (ix := [none, none]) rfl rfl (scp_of ?g162) ?g163 (fun _ _ _ => ?g164) (fun _ _ _ => ?g165) (fun _ _ _ => ?g166)
                              case g162 => exact (by show scpB (defScope s__law_grid_by) ["_law_rest", "_law_size", "_law_kind", "_law_grid", "_law_i", "_law_row", "_law_j", "_law_top", "_law_spoilt", "_law_at", "_law_rows"] _ _ _ = true; decide +kernel)
                              case g163 =>
                                refine' pi_zip (K := K) rfl gk__law_grid_by_zip T.n_zip ?g167
                                case g167 =>
                                  refine' pa_c ?g168 ?g169
                                  case g168 =>
                                    refine' pe_ix ix_listH ?g170 ?g171 (fun _ _ => rfl)
                                    case g170 => exact pv1 3 rfl lk__law_grid_by_3
                                    case g171 =>
                                      refine' pe_op op_sub ?g172 ?g173
                                      case g172 => exact pv1 9 rfl lk__law_grid_by_9
                                      case g173 => exact pe_int
                                  case g169 =>
                                    refine' pa_c ?g174 ?g175
                                    case g174 =>
                                      refine' pe_ix ix_listH ?g176 ?g177 (fun _ _ => rfl)
                                      case g176 => exact pv1 3 rfl lk__law_grid_by_3
                                      case g177 =>
                                        refine' pe_op op_sub ?g178 ?g179
                                        case g178 => exact pv1 9 rfl lk__law_grid_by_9
                                        case g179 => exact pe_int
                                    case g175 => exact pa_nil
                              case g164 =>
                                refine' pg_tupK (K := K) (n := 2) rfl rfl ?g180
                                case g180 =>
                                  refine' pgs_cons ?g181 ?g182
                                  case g181 => exact pg_name1 (i := 0) (by show List.Nodup (["_law_one", "_law_two"] : List Str); decide +kernel) rfl rfl
                                  case g182 =>
                                    refine' pgs_cons ?g183 ?g184
                                    case g183 => exact pg_name1 (i := 1) (by show List.Nodup (["_law_one", "_law_two"] : List Str); decide +kernel) rfl rfl
                                    case g184 => exact pgs_nil
                              case g165 => exact pf_nil
                              case g166 =>
                                refine' pe_callD C__law_add (hr.mono (by decide)) rfl ?g185
                                case g185 =>
                                  refine' pa_c ?g186 ?g187
                                  case g186 => exact pv1 0 rfl rfl
                                  case g187 =>
                                    refine' pa_c ?g188 ?g189
                                    case g188 => exact pv1 1 rfl rfl
                                    case g189 => exact pa_nil
                            case g161 => exact pa_nil
                      case g156 =>
                        refine' pss_one ?g190
                        case g190 =>
                          refine' ps_asg ?g191 (pg_sub ?g192 ?g193 set_list)
                          case g191 =>
                            refine' pe_callT call_listH gk__law_grid_by_list T.n_list bt_list ?g194
                            case g194 =>
                              refine' pa_c ?g195 ?g196
                              case g195 =>
                                refine' pe_ix ix_listH ?g197 ?g198 (fun _ _ => rfl)
                                case g197 => exact pv1 10 rfl lk__law_grid_by_10
                                case g198 => exact pv1 8 rfl lk__law_grid_by_8
                              case g196 => exact pa_nil
                          case g192 => exact pv1 3 rfl lk__law_grid_by_3
                          case g193 =>
                            refine' pe_op op_sub ?g199 ?g200
                            case g199 => exact pv1 9 rfl lk__law_grid_by_9
                            case g200 =>
                              refine' pe_ix ix_listH ?g201 ?g202 (fun _ _ => rfl)
                              case g201 =>
                                refine' pe_lst ?g203
                                case g203 =>
                                  refine' pa_c ?g204 ?g205
                                  case g204 => exact pe_int
                                  case g205 =>
                                    refine' pa_c ?g206 ?g207
                                    case g206 => exact pe_int
                                    case g207 =>
                                      refine' pa_c ?g208 ?g209
                                      case g208 => exact pe_int
                                      case g209 => exact pa_nil
                              case g202 => exact pv1 8 rfl lk__law_grid_by_8
                case g115 => exact pss_nil
              case g112 =>
                refine' pss_one ?g210
                case g210 =>
                  refine' ps_ret ?g211
                  case g211 => exact pv1 3 rfl lk__law_grid_by_3
    case R =>
      walk_at "rd"
      refine ⟨l, r, 2, rfl, hl, by decide, by decide +kernel, ?_⟩
      try walk_at "rd"
      refine .inr ?_
      try walk_at "rd"
      have r0 := Int.emod_nonneg r (show (2 : Int) ≠ 0 by decide)
      have r1 := Int.emod_lt_of_pos r (show (0 : Int) < 2 by decide)
      obtain ⟨kd, ekd, kd2⟩ : ∃ kd : Nat, (1 + r % 2) * (if (n : Int) < 7 then 1 else 0) = (kd : Int) ∧ kd ≤ 2 := by
        split
        · exact ⟨(1 + r % 2).toNat, by (clear r1 k n12 hl hr C__law_add C__law_low C__law_digit F T; omega), by (clear r1 k n12 hl hr C__law_add C__law_low C__law_digit F T; omega)⟩
        · exact ⟨0, by (clear r1 r0 k n12 hl hr C__law_add C__law_low C__law_digit F T; omega), by (clear r1 r0 k n12 hl hr C__law_add C__law_low C__law_digit F T; omega)⟩
      have bk : Builtin.Int.intBits (1 + r % 2) + Builtin.Int.intBits (if (n : Int) < 7 then 1 else 0) ≤ 134217728 := by
        have b1 := PyProof.Rows.bits_of_natAbs_le (a := 1 + r % 2) (b := 2) (n := 2) (by (clear kd2 ekd r1 k n12 hl hr C__law_add C__law_low C__law_digit F T; omega)) (by decide +kernel)
        have b2 : Builtin.Int.intBits (if (n : Int) < 7 then 1 else 0) ≤ 1 := by split <;> decide +kernel
        (clear kd2 ekd r1 r0 k n12 hl hr C__law_add C__law_low C__law_digit F T; omega)
      rw [ekd]
      refine ⟨bk, Nat.zero_le _, fun G nG => ⟨by (clear nG bk kd2 ekd r1 r0 k hl hr C__law_add C__law_low C__law_digit F T; omega), by (clear nG bk kd2 ekd r1 r0 k hl hr C__law_add C__law_low C__law_digit F T; omega), ?_⟩⟩
      rw [show Int.toNat (n : Int) = n by (clear nG bk kd2 ekd r1 r0 k hl hr C__law_add C__law_low C__law_digit F T; omega)]
      clear bk ekd
      obtain ⟨m1, m2, m3, a1, a2, a3, hm1, hm2, hm3, hm4, hm5⟩ : ∃ m1 m2 m3 : Int, atI [V.int 3, .int 5, .int 25] (kd : Int) = some (.int m1) ∧ atI [V.int 1, .int 2, .int 12] (kd : Int) = some (.int m2) ∧ atI [V.int 1, .int 1, .int 6] (kd : Int) = some (.int m3) ∧ 0 < m1 ∧ m1.natAbs ≤ 25 ∧ (∀ d : Int, 0 ≤ d → d < m1 → (d - m2).natAbs ≤ 12) ∧ 0 < m3 ∧ m3 ≤ 6 := by
        have : kd = 0 ∨ kd = 1 ∨ kd = 2 := by (clear nG r1 r0 k n12 hl hr C__law_add C__law_low C__law_digit F T; omega)
        rcases this with rfl | rfl | rfl
        · exact ⟨3, 1, 1, rfl, rfl, rfl, by decide, by decide, fun d _ _ => by (clear kd2 nG r1 r0 k n12 hl hr C__law_add C__law_low C__law_digit F T; omega), by decide, by decide⟩
        · exact ⟨5, 2, 1, rfl, rfl, rfl, by decide, by decide, fun d _ _ => by (clear kd2 nG r1 r0 k n12 hl hr C__law_add C__law_low C__law_digit F T; omega), by decide, by decide⟩
        · exact ⟨25, 12, 6, rfl, rfl, rfl, by decide, by decide, fun d _ _ => by (clear kd2 nG r1 r0 k n12 hl hr C__law_add C__law_low C__law_digit F T; omega), by decide, by decide⟩
      have lg : ∀ m : Int, m.natAbs ≤ 25 → m.natAbs.log2 < 9000 := fun m hm => Nat.lt_of_le_of_lt (Nat.log2_le_self _) (by (clear hm5 hm4 hm3 hm2 hm1 a3 a2 a1 nG kd2 r1 r0 k n12 hl hr C__law_add C__law_low C__law_digit F T; omega))
      have Gl : G ≠ l := fun z => by rw [z, upd_same] at nG; cases nG
      have HG : H G = none := by rw [upd_ne Gl] at nG; exact nG
      have g0 : GS H (fun _ => none) (upd (upd H l (HO.lst [V.int (r / 2)])) G (HO.lst [])) l (r / 2) := by
        have z : GS H (fun _ => none) H l r := ⟨fun b o e => (nomatch e), rfl, hl, But.refl l H, fun b o e => (nomatch e)⟩
        exact (z.dig (r / 2)).new nG
      refine go_range (fun i σ H' => ∃ (S : Hp) (r : Int) (g : List (List (Int × Int))) (xs : List V) (e4 e5 e6 e7 : Option V), σ = [some (.ref l), some (.int n), some (.int kd), some (.ref G), e4, e5, e6, e7, none, none, none] ∧ GS H S H' l r ∧ S G = none ∧ H' G = some (.lst xs) ∧ Reps S xs (g.map dRow) ∧ g.length = i ∧ ∀ row ∈ g, row.length = n ∧ ∀ p ∈ row, Dr p) ⟨_, _, [], [], _, _, _, _, rfl, g0, rfl, upd_same, rfl, rfl, fun row h => by cases h⟩ ?_ ?_
      · rintro i σ H' hi ⟨S, r, g, xs, e4, e5, e6, e7, rfl, gs, sG, hG, rx, gl, gok⟩
        have xl : xs.length = i := by rw [rx.length, List.length_map, gl]
        walk_at "rd"
        refine ⟨Nat.zero_le _, fun R nR => ⟨by (clear nR xl gok gl rx hG sG gs hi g0 HG Gl lg hm5 hm4 hm3 hm2 hm1 a3 a2 a1 nG kd2 r1 r0 k hl hr C__law_add C__law_low C__law_digit F T; omega), by (clear nR xl gok gl rx hG sG gs hi g0 HG Gl lg hm5 hm4 hm3 hm2 hm1 a3 a2 a1 nG kd2 r1 r0 k hl hr C__law_add C__law_low C__law_digit F T; omega), ?_⟩⟩
        rw [show Int.toNat (n : Int) = n by (clear nR gok rx hG sG gs g0 HG Gl lg hm5 hm4 hm3 hm2 hm1 a3 a2 a1 nG kd2 r1 r0 k hl hr C__law_add C__law_low C__law_digit F T; omega)]
        have Rl : R ≠ l := (ne_of_none gs.hl nR).symm
        have RG : R ≠ G := (ne_of_none hG nR).symm
        have HR : H R = none := gs.free nR
        refine go_range (fun j σ H2 => ∃ (S : Hp) (r : Int) (ys : List V) (row : List (Int × Int)) (e6 e7 : Option V), σ = [some (.ref l), some (.int n), some (.int kd), some (.ref G), some (.int (0 + i)), some (.ref R), e6, e7, none, none, none] ∧ GS H S H2 l r ∧ S G = none ∧ S R = none ∧ H2 G = some (.lst xs) ∧ H2 R = some (.lst ys) ∧ Reps S xs (g.map dRow) ∧ Reps S ys (row.map dF) ∧ row.length = j ∧ ∀ p ∈ row, Dr p) ⟨S, _, [], [], _, _, rfl, gs.new nR, sG, gs.sm.free nR, (Same.new nR) _ _ hG, upd_same, rx, rfl, rfl, fun p h => by cases h⟩ ?_ ?_
        · rintro j σ H2 hj ⟨S, r, ys, row, e6, e7, rfl, gs, sG, sR, hG, hR, rx, ry, rl, rok⟩
          have yl : ys.length = j := by rw [ry.length, List.length_map, rl]
          have tA : GT H S H2 l r [(G, .lst xs), (R, .lst ys)] := ⟨gs, fun a o h => by
            rcases List.mem_cons.mp h with z | z
            · cases z; exact ⟨sG, hG, Gl⟩
            · rw [List.mem_singleton] at z; cases z; exact ⟨sR, hR, Rl⟩⟩
          have d0 := Int.emod_nonneg r (show m1 ≠ 0 by (clear tA yl rok rl ry rx hR hG sR sG gs hj HR RG Rl nR xl gok gl hi g0 HG Gl lg hm5 hm4 hm3 hm2 a3 a2 a1 nG kd2 r1 r0 k n12 hl hr C__law_add C__law_low C__law_digit F T; omega))
          have d1 := Int.emod_lt_of_pos r hm1
          have d2 := Int.emod_nonneg (r / m1) (show m3 ≠ 0 by (clear d1 d0 tA yl rok rl ry rx hR hG sR sG gs hj HR RG Rl nR xl gok gl hi g0 HG Gl lg hm3 hm2 hm1 a3 a2 a1 nG kd2 r1 r0 k n12 hl hr C__law_add C__law_low C__law_digit F T; omega))
          have d3 := Int.emod_lt_of_pos (r / m1) hm4
          have dr := dr_nf (t := r % m1 - m2) (b := 1 + r / m1 % m3) (hm3 _ d0 d1) (by (clear d3 d1 d0 tA yl rok rl ry rx hR hG sR sG gs hj HR RG Rl nR xl gok gl hi g0 HG Gl lg hm5 hm4 hm3 hm2 hm1 a3 a2 a1 nG kd2 r1 r0 k n12 hl hr C__law_add C__law_low C__law_digit F T; omega)) (by (clear d2 d1 d0 tA yl rok rl ry rx hR hG sR sG gs hj HR RG Rl nR xl gok gl hi g0 HG Gl lg hm3 hm2 hm1 a3 a2 a1 nG kd2 r1 r0 k n12 hl hr C__law_add C__law_low C__law_digit F T; omega))
          walk_at "rd"
          refine ⟨by decide, fun p1 n1 => ?_⟩
          have tB := tA.call (Same.new n1 (o := HO.tup [V.int 3, V.int 5, V.int 25]))
          refine ⟨_, a1, l, r, m1, rfl, tB.gs.hl, hm1, lg m1 hm2, by decide, fun p2 n2 => ?_⟩
          have tC := tB.dig (r / m1)
          have tD := tC.call (Same.new n2 (o := HO.tup [V.int 1, V.int 2, V.int 12]))
          refine ⟨_, a2, _, rfl, _, rfl, .inl ⟨_, .inl (.inl (tD.at_ R (.lst ys) (by simp)).2.1)⟩, by decide, fun p3 n3 => ?_⟩
          have tE := tD.call (Same.new n3 (o := HO.tup [V.int 1, V.int 1, V.int 6]))
          refine ⟨_, a3, l, r / m1, m3, rfl, tE.gs.hl, hm4, lg m3 (by (clear tE n3 tD tC n2 tB n1 dr d3 d2 d1 d0 tA yl rok rl ry rx hR hG sR sG gs hj HR RG Rl nR xl gok gl hi g0 HG Gl lg hm3 hm2 hm1 a3 a2 a1 nG kd2 r1 r0 k n12 hl hr C__law_add C__law_low C__law_digit F T; omega)), _, rfl, ?_⟩
          have tF := tE.dig (r / m1 / m3)
          refine ⟨_, _, rfl, by (clear tF tE n3 tD tC n2 tB n1 dr d3 d1 d0 tA yl rok rl ry rx hR hG sR sG gs hj HR RG Rl nR xl gok gl hi g0 HG Gl lg hm5 hm4 hm3 hm2 hm1 a3 a2 a1 nG kd2 r1 r0 k n12 hl hr C__law_add C__law_low C__law_digit F T; omega), Nat.le_trans (PyProof.Rows.bits_of_natAbs_le (b := 6) (n := 3) (by (clear tF tE n3 tD tC n2 tB n1 dr d1 d0 tA yl rok rl ry rx hR hG sR sG gs hj HR RG Rl nR xl gok gl hi g0 HG Gl lg hm3 hm2 hm1 a3 a2 a1 nG kd2 r1 r0 k n12 hl hr C__law_add C__law_low C__law_digit F T; omega)) (by decide +kernel)) (by decide), fun pz Hz sz rep => ?_⟩
          have tG := tF.call sz
          have up := tA.gr.trans (tC.gr.trans (tD.gr.trans (tF.gr (H2 := Hz))))
          obtain ⟨g1, g2, g3⟩ := tG.at_ G (.lst xs) (by simp)
          obtain ⟨q1, q2, q3⟩ := tG.at_ R (.lst ys) (by simp)
          refine ⟨R, ys, .ref pz, rfl, rfl, q2, small1000 (by (clear q3 q2 q1 g3 g2 g1 up tG rep sz tF tE n3 tD tC n2 tB n1 dr d3 d2 d1 d0 tA rok ry rx hR hG sR sG gs HR RG Rl nR xl gok gl hi g0 HG Gl lg hm5 hm4 hm3 hm2 hm1 a3 a2 a1 nG kd2 r1 r0 k hl hr C__law_add C__law_low C__law_digit F T; omega)), _, _, tG.gs.put q1 Rl HR, g1, q1, by rw [upd_ne RG.symm]; exact g2, _, upd_same, ?_, row ++ [nf (r % m1 - m2) (1 + r / m1 % m3)], ?_, by simp [rl], fun p hp => ?_⟩
          · exact Reps.mono up _ rx
          · rw [List.map_append]
            exact (Reps.mono up _ ry).append ⟨_, _, rfl, Rep.mono grow_new _ rep, rfl⟩
          · rcases List.mem_append.mp hp with h | h
            · exact rok p h
            · rw [List.mem_singleton.mp h]; exact dr
        · rintro σ H2 ⟨S, r, ys, row, e6, e7, rfl, gs, sG, sR, hG, hR, rx, ry, rl, rok⟩
          walk_at "rd"
          refine ⟨.inl ⟨_, .inl (.inl hG)⟩, G, xs, .ref R, rfl, rfl, hG, small1000 (by (clear rok ry rx hR hG sR sG gs HR RG Rl nR gok g0 HG Gl lg hm5 hm4 hm3 hm2 hm1 a3 a2 a1 nG kd2 r1 r0 k hl hr C__law_add C__law_low C__law_digit F T; omega)), upd S R (.lst ys), r, ?_, by rw [upd_ne RG.symm]; exact sG, g ++ [row], _, upd_same, ?_, by simp [gl], fun rr hrr => ?_⟩
          · refine ⟨fun b o h => ?_, by rw [upd_ne Rl.symm]; exact gs.sl, by rw [upd_ne Gl.symm]; exact gs.hl, fun b z nb h => by rw [upd_ne (ne_of_none h HG)]; exact gs.but b z nb h, fun b o h => ?_⟩
            · by_cases hb : b = R
              · subst hb
                rw [upd_same] at h
                rw [upd_ne RG, ← h]
                exact hR
              · rw [upd_ne hb] at h
                rw [upd_ne (ne_of_none h sG)]
                exact gs.sm _ _ h
            · by_cases hb : b = R
              · rw [hb]; exact HR
              · rw [upd_ne hb] at h
                exact gs.dis _ _ h
          · have up : Same S (upd S R (.lst ys)) := Same.new sR
            rw [List.map_append]
            exact (Reps.mono up _ rx).append ⟨_, _, rfl, ⟨R, ys, rfl, upd_same, Reps.mono up _ ry⟩, rfl⟩
          · rcases List.mem_append.mp hrr with h | h
            · exact gok rr h
            · rw [List.mem_singleton.mp h]; exact ⟨rl, rok⟩
      · rintro σ H' ⟨S, r, g, xs, e4, e5, e6, e7, rfl, gs, sG, hG, rx, gl, gok⟩
        walk_at "rd"
        have fin : ∀ {S H' : Hp} {r : Int} {g : List (List (Int × Int))} {xs : List V}, GS H S H' l r → H' G = some (.lst xs) → Reps S xs (g.map dRow) → g.length = n → (∀ row ∈ g, row.length = n ∧ ∀ p ∈ row, Sm p ∧ Low p) → Q (.ref G) H' := fun {S H' r g xs} gs hG rx gl gok =>
          k _ _ r g gs.but gs.hl ⟨G, xs, rfl, by rw [newH_at HG]; exact hG, Reps.mono (fun b o h => by rw [newH_at (gs.dis _ _ h)]; exact gs.sm _ _ h) _ rx⟩ gl gok
        have gok2 : ∀ row ∈ g, row.length = n ∧ ∀ p ∈ row, Sm p ∧ Low p := fun row h => ⟨(gok row h).1, fun p hp => ⟨((gok row h).2 p hp).sm, ((gok row h).2 p hp).low⟩⟩
        have xl : xs.length = n := by rw [rx.length, List.length_map, gl]
        refine ⟨l, r, 9, rfl, gs.hl, by decide, by decide +kernel, ?_⟩
        try walk_at "rd"
        have g9 := gs.dig (r / 9)
        have hG9 : upd H' l (HO.lst [V.int (r / 9)]) G = some (.lst xs) := by rw [upd_ne Gl]; exact hG
        have sp0 := Int.emod_nonneg r (show (9 : Int) ≠ 0 by decide)
        refine ite2 (fun h3 => ite2 (fun h2 => ?_) (fun _ => fin g9 hG9 rx gl gok2)) (fun _ => fin g9 hG9 rx gl gok2)
        have n2 : 2 < n := by (clear h3 sp0 hG9 g9 gok2 fin gok rx hG sG gs g0 HG Gl lg hm5 hm4 hm3 hm2 hm1 a3 a2 a1 nG kd2 r1 r0 k hl hr C__law_add C__law_low C__law_digit F T; omega)
        have n0 : (0 : Int) < n := by (clear n2 h3 sp0 hG9 g9 gok2 fin gok rx hG sG gs g0 HG Gl lg hm5 hm4 hm3 hm2 hm1 a3 a2 a1 nG kd2 r1 r0 k hl hr C__law_add C__law_low C__law_digit F T; omega)
        have nlog : (n : Int).natAbs.log2 < 9000 := Nat.lt_of_le_of_lt (Nat.log2_le_self _) (by (clear n0 n2 h3 sp0 hG9 g9 gok2 fin gok rx hG sG gs g0 HG Gl lg hm5 hm4 hm3 hm2 hm1 a3 a2 a1 nG kd2 r1 r0 k hl hr C__law_add C__law_low C__law_digit F T; omega))
        generalize upd H' l (HO.lst [V.int (r / 9)]) = H9 at *
        generalize r % 9 = sp at *
        refine ⟨l, r / 9, n, rfl, g9.hl, n0, nlog, ?_⟩
        have gA := g9.dig (r / 9 / n)
        have hGA : upd H9 l (HO.lst [V.int (r / 9 / n)]) G = some (.lst xs) := by rw [upd_ne Gl]; exact hG9
        have c0 := Int.emod_nonneg (r / 9) (show (n : Int) ≠ 0 by (clear hGA gA h3 sp0 hG9 g9 nlog n0 n2 gok2 fin gok rx hG sG gs g0 HG Gl lg hm5 hm4 hm3 hm2 hm1 a3 a2 a1 nG kd2 r1 r0 k hl hr C__law_add C__law_low C__law_digit F T; omega))
        have c1 := Int.emod_lt_of_pos (r / 9) n0
        generalize upd H9 l (HO.lst [V.int (r / 9 / n)]) = HA at *
        generalize r / 9 % n = ac at *
        obtain ⟨ka, ka1, va, eva, ava⟩ := at_wrap xl (i := ac) (by (clear hGA gA h3 sp0 hG9 g9 nlog n0 n2 h2 gok2 fin gok rx hG sG gs g0 HG Gl lg hm5 hm4 hm3 hm2 hm1 a3 a2 a1 nG kd2 r1 r0 k n12 hl hr C__law_add C__law_low C__law_digit F T; omega)) c1
        obtain ⟨kb, kb1, vb, evb, avb⟩ := at_wrap xl (i := ac - 1) (by (clear ava eva ka1 hGA gA h3 sp0 hG9 g9 nlog n0 n2 h2 gok2 fin gok rx hG sG gs g0 HG Gl lg hm5 hm4 hm3 hm2 hm1 a3 a2 a1 nG kd2 r1 r0 k n12 hl hr C__law_add C__law_low C__law_digit F T; omega)) (by (clear ava eva ka1 c0 hGA gA h3 sp0 hG9 g9 nlog n0 n2 h2 gok2 fin gok rx hG sG gs g0 HG Gl lg hm5 hm4 hm3 hm2 hm1 a3 a2 a1 nG kd2 r1 r0 k n12 hl hr C__law_add C__law_low C__law_digit F T; omega))
        obtain ⟨kc, kc1, vc, evc, avc⟩ := at_wrap xl (i := ac - 2) (by (clear avb evb kb1 ava eva ka1 hGA gA h3 sp0 hG9 g9 nlog n0 n2 gok2 fin gok rx hG sG gs g0 HG Gl lg hm5 hm4 hm3 hm2 hm1 a3 a2 a1 nG kd2 r1 r0 k hl hr C__law_add C__law_low C__law_digit F T; omega)) (by (clear avb evb kb1 ava eva ka1 c0 hGA gA h3 sp0 hG9 g9 nlog n0 n2 h2 gok2 fin gok rx hG sG gs g0 HG Gl lg hm5 hm4 hm3 hm2 hm1 a3 a2 a1 nG kd2 r1 r0 k n12 hl hr C__law_add C__law_low C__law_digit F T; omega))
        obtain ⟨qa, ya, ra, hra, rfl, hqa, rya⟩ := rep_rows rx eva
        obtain ⟨qb, yb, rb, hrb, rfl, hqb, ryb⟩ := rep_rows rx evb
        obtain ⟨qc, yc, rc, hrc, rfl, hqc, ryc⟩ := rep_rows rx evc
        obtain ⟨la, da⟩ := gok ra (List.mem_of_getElem? hra)
        obtain ⟨lb, db⟩ := gok rb (List.mem_of_getElem? hrb)
        obtain ⟨lc, dc⟩ := gok rc (List.mem_of_getElem? hrc)
        refine ⟨xs, ac, rfl, hGA, _, ava, by (clear dc db da ryc hqc avc evc hrc ryb hqb avb evb hrb rya hqa ava eva hra kc1 kb1 ka1 c1 c0 hGA gA h3 sp0 hG9 g9 nlog n0 n2 gok2 fin gok rx hG sG gs g0 HG Gl lg hm5 hm4 hm3 hm2 hm1 a3 a2 a1 nG kd2 r1 r0 k hl hr C__law_add C__law_low C__law_digit F T; omega), by (clear dc db da ryc hqc avc evc hrc ryb hqb avb evb hrb rya hqa ava eva hra kc1 kb1 ka1 c1 c0 hGA gA h3 sp0 hG9 g9 nlog n0 n2 gok2 fin gok rx hG sG gs g0 HG Gl lg hm5 hm4 hm3 hm2 hm1 a3 a2 a1 nG kd2 r1 r0 k hl hr C__law_add C__law_low C__law_digit F T; omega), ?_⟩
        rw [show Int.toNat (n : Int) = n by (clear dc db da ryc hqc avc evc hrc ryb hqb avb evb hrb rya hqa ava eva hra kc1 kb1 ka1 c1 c0 hGA gA h3 sp0 hG9 g9 nlog n0 n2 gok2 fin gok rx hG sG gs g0 HG Gl lg hm5 hm4 hm3 hm2 hm1 a3 a2 a1 nG kd2 r1 r0 k hl hr C__law_add C__law_low C__law_digit F T; omega)]
        refine comp_any (n := n) (B := HA) (Pσ := fun σ => ∃ e, σ = [e]) (ds := (List.replicate n ((0 : Int), (1 : Int))).map dF) (Same.refl _) ⟨_, rfl⟩ (by simp) (by (clear dc db da ryc hqc avc evc hrc ryb hqb avb evb hrb rya hqa ava eva hra kc1 kb1 ka1 c1 c0 hGA gA h3 sp0 hG9 g9 nlog n0 n2 gok2 fin gok rx hG sG gs g0 HG Gl lg hm5 hm4 hm3 hm2 hm1 a3 a2 a1 nG kd2 r1 r0 k hl hr C__law_add C__law_low C__law_digit F T; omega)) (fun j H2 hj s2 => hj) (fun H2 s2 => Nat.le_refl _) ?_ ?_
        · rintro D j x d σ' H2 H2' hD ⟨oD, hDo⟩ s2 hj hdj ⟨rfl, rfl⟩ ⟨e, rfl⟩ R kR
          walk_at "rd"
          refine ⟨by decide, fun t nt => kR _ _ _ ⟨_, rfl⟩ (Same.new nt) ?_⟩
          have hd2 : d = dF (0, 1) := by
            rw [List.getElem?_map, List.getElem?_replicate, if_pos hj] at hdj
            exact (Option.some.inj hdj).symm
          rw [hd2]
          refine rep_of ?_
          rw [cutH_at (ne_of_none hDo nt).symm (s2.free nt), upd_same]
        · intro Dz HB hDz sB repz
          have gB := gA.call sB
          have upB : Same S (grow S HA HB) := grow_same gA.sm
          have sGB : grow S HA HB G = none := by rw [grow_old hGA]; exact sG
          have hGB := sB _ _ hGA
          refine ⟨by decide, fun PR nPR => ?_⟩
          have gC := gB.new nPR (o := HO.lst [V.ref qa, V.ref Dz])
          have hPR := upd_same (H := HB) (a := PR) (o := HO.lst [V.ref qa, V.ref Dz])
          have hGC : upd HB PR (HO.lst [V.ref qa, V.ref Dz]) G = some (.lst xs) := (Same.new nPR) _ _ hGB
          have sPR : grow S HA HB PR = none := gB.sm.free nPR
          have PRG : PR ≠ G := (ne_of_none hGB nPR).symm
          have PRl : PR ≠ l := (ne_of_none gB.hl nPR).symm
          have HPR : H PR = none := gB.free nPR
          generalize upd HB PR (HO.lst [V.ref qa, V.ref Dz]) = HC at *
          have repz' := Rep.mono (grow_new (S := S)) _ repz
          have hqbC := gC.sm _ _ (upB _ _ hqb)
          have hqcC := gC.sm _ _ (upB _ _ hqc)
          have lyb : yb.length = n := by rw [ryb.length, List.length_map, lb]
          have lyc : yc.length = n := by rw [ryc.length, List.length_map, lc]
          refine ⟨.inl ⟨_, .inl (.inl hPR)⟩, ac, rfl, xs, hGC, _, avb, ac, rfl, xs, hGC, _, avc, qb, rfl, qc, rfl, ⟨yb, .inl (.inl hqbC)⟩, ⟨yc, .inl (.inl hqcC)⟩, ?_⟩
          refine comp_any (n := n) (B := HC) (Pσ := fun σ => ∃ e1 e2, σ = [e1, e2]) (ds := (List.zipWith (fun p q : Int × Int => nf (p.1 * q.2 + q.1 * p.2) (p.2 * q.2)) rb rc).map dF) (Same.refl _) ⟨_, _, rfl⟩ (by simp [lb, lc]) (by (clear hqcC hqbC repz' hGC hPR gC HPR PRl PRG sPR nPR hGB sGB upB gB repz sB hDz dc db da ryc hqc avc evc hrc ryb hqb avb evb hrb rya hqa ava eva hra kc1 kb1 ka1 c1 c0 hGA gA h3 sp0 hG9 g9 nlog n0 n2 gok2 fin gok rx hG sG gs g0 HG Gl lg hm5 hm4 hm3 hm2 hm1 a3 a2 a1 nG kd2 r1 r0 k hl hr C__law_add C__law_low C__law_digit F T; omega))
            (fun j H2 hj s2 => ⟨yb, yc, yb[j]'(by (clear s2 hqcC hqbC repz' hGC hPR gC HPR PRl PRG sPR nPR hGB sGB upB gB repz sB hDz dc db da ryc hqc avc evc hrc ryb hqb avb evb hrb rya hqa ava eva hra kc1 kb1 ka1 c1 c0 hGA gA h3 sp0 hG9 g9 nlog n0 n2 h2 gok2 fin gok rx hG sG gs g0 HG Gl lg hm5 hm4 hm3 hm2 hm1 a3 a2 a1 nG kd2 r1 r0 k n12 hl hr C__law_add C__law_low C__law_digit F T; omega)), yc[j]'(by (clear s2 hqcC hqbC repz' hGC hPR gC HPR PRl PRG sPR nPR hGB sGB upB gB repz sB hDz dc db da ryc hqc avc evc hrc ryb hqb avb evb hrb rya hqa ava eva hra kc1 kb1 ka1 c1 c0 hGA gA h3 sp0 hG9 g9 nlog n0 n2 h2 gok2 fin gok rx hG sG gs g0 HG Gl lg hm5 hm4 hm3 hm2 hm1 a3 a2 a1 nG kd2 r1 r0 k n12 hl hr C__law_add C__law_low C__law_digit F T; omega)), .inl (.inl (s2 _ _ hqbC)), .inl (.inl (s2 _ _ hqcC)), by simp [show j < yb.length by (clear s2 hqcC hqbC repz' hGC hPR gC HPR PRl PRG sPR nPR hGB sGB upB gB repz sB hDz dc db da ryc hqc avc evc hrc ryb hqb avb evb hrb rya hqa ava eva hra kc1 kb1 ka1 c1 c0 hGA gA h3 sp0 hG9 g9 nlog n0 n2 h2 gok2 fin gok rx hG sG gs g0 HG Gl lg hm5 hm4 hm3 hm2 hm1 a3 a2 a1 nG kd2 r1 r0 k n12 hl hr C__law_add C__law_low C__law_digit F T; omega)], by simp [show j < yc.length by (clear s2 hqcC hqbC repz' hGC hPR gC HPR PRl PRG sPR nPR hGB sGB upB gB repz sB hDz dc db da ryc hqc avc evc hrc ryb hqb avb evb hrb rya hqa ava eva hra kc1 kb1 ka1 c1 c0 hGA gA h3 sp0 hG9 g9 nlog n0 n2 h2 gok2 fin gok rx hG sG gs g0 HG Gl lg hm5 hm4 hm3 hm2 hm1 a3 a2 a1 nG kd2 r1 r0 k n12 hl hr C__law_add C__law_low C__law_digit F T; omega)]⟩) (fun H2 s2 => ⟨yb, yc, .inl (.inl (s2 _ _ hqbC)), .inl (.inl (s2 _ _ hqcC)), .inl (by (clear s2 lyc hqcC hqbC repz' hGC hPR gC HPR PRl PRG sPR nPR hGB sGB upB gB repz sB hDz dc db da ryc hqc avc evc hrc ryb hqb avb evb hrb rya hqa ava eva hra kc1 kb1 ka1 c1 c0 hGA gA h3 sp0 hG9 g9 nlog n0 n2 h2 gok2 fin gok rx hG sG gs g0 HG Gl lg hm5 hm4 hm3 hm2 hm1 a3 a2 a1 nG kd2 r1 r0 k n12 hl hr C__law_add C__law_low C__law_digit F T; omega))⟩) ?_ ?_
          · rintro D j x d σ' H2 H2' hD hDo s2 hj hdj ⟨t, xx, yy, rfl, hT, rfl, hxx, hyy⟩ ⟨f1, f2, rfl⟩ R kR
            have hx' := hxx _ (.inl (.inl (s2 _ _ hqbC)))
            have hy' := hyy _ (.inl (.inl (s2 _ _ hqcC)))
            obtain ⟨zx, px, hpx, rfl, hzx⟩ := rep_at ryb hx'
            obtain ⟨zy, py, hpy, rfl, hzy⟩ := rep_at ryc hy'
            have drx := db px (List.mem_of_getElem? hpx)
            have dry := dc py (List.mem_of_getElem? hpy)
            have smx := drx.sm
            have smy := dry.sm
            have b1 := smx.top
            have b2 := smx.bot
            have b3 := smy.top
            have b4 := smy.bot
            have S11 := Same.new hT (o := HO.tup [V.ref zx, V.ref zy])
            walk_at "rd"
            refine ⟨_, .inl (.inl upd_same), rfl, _, _, rfl, _, _, rfl, rfl, ?_⟩
            try walk_at "rd"
            refine ⟨.ref zx, .ref zy, px, py, rfl, rep_of (S11 _ _ (s2 _ _ (gC.sm _ _ (upB _ _ hzx)))), rep_of (S11 _ _ (s2 _ _ (gC.sm _ _ (upB _ _ hzy)))), smx.pos, smy.pos, by (clear S11 b4 b3 b2 smy smx dry drx hy' hyy hzy hpy hx' hxx hzx hpx kR hT hdj hj s2 hDo hD lyc lyb hqcC hqbC repz' hGC hPR gC HPR PRl PRG sPR nPR hGB sGB upB gB repz sB hDz dc lc db lb da la ryc hqc avc evc hrc ryb hqb avb evb hrb rya hqa ava eva hra kc1 kb1 ka1 c1 c0 hGA gA h3 sp0 hG9 g9 nlog n0 n2 h2 xl gok2 fin gok gl rx hG sG gs g0 HG Gl lg hm5 hm4 hm3 hm2 hm1 a3 a2 a1 nG kd2 r1 r0 k n12 hl hr C__law_add C__law_low C__law_digit F T; omega), by (clear S11 b4 b3 b1 smy smx dry drx hy' hyy hzy hpy hx' hxx hzx hpx kR hT hdj hj s2 hDo hD lyc lyb hqcC hqbC repz' hGC hPR gC HPR PRl PRG sPR nPR hGB sGB upB gB repz sB hDz dc lc db lb da la ryc hqc avc evc hrc ryb hqb avb evb hrb rya hqa ava eva hra kc1 kb1 ka1 c1 c0 hGA gA h3 sp0 hG9 g9 nlog n0 n2 h2 xl gok2 fin gok gl rx hG sG gs g0 HG Gl lg hm5 hm4 hm3 hm2 hm1 a3 a2 a1 nG kd2 r1 r0 k n12 hl hr C__law_add C__law_low C__law_digit F T; omega), by (clear S11 b4 b2 b1 smy smx dry drx hy' hyy hzy hpy hx' hxx hzx hpx kR hT hdj hj s2 hDo hD lyc lyb hqcC hqbC repz' hGC hPR gC HPR PRl PRG sPR nPR hGB sGB upB gB repz sB hDz dc lc db lb da la ryc hqc avc evc hrc ryb hqb avb evb hrb rya hqa ava eva hra kc1 kb1 ka1 c1 c0 hGA gA h3 sp0 hG9 g9 nlog n0 n2 h2 xl gok2 fin gok gl rx hG sG gs g0 HG Gl lg hm5 hm4 hm3 hm2 hm1 a3 a2 a1 nG kd2 r1 r0 k n12 hl hr C__law_add C__law_low C__law_digit F T; omega), by (clear S11 b3 b2 b1 smy smx dry drx hy' hyy hzy hpy hx' hxx hzx hpx kR hT hdj hj s2 hDo hD lyc lyb hqcC hqbC repz' hGC hPR gC HPR PRl PRG sPR nPR hGB sGB upB gB repz sB hDz dc lc db lb da la ryc hqc avc evc hrc ryb hqb avb evb hrb rya hqa ava eva hra kc1 kb1 ka1 c1 c0 hGA gA h3 sp0 hG9 g9 nlog n0 n2 h2 xl gok2 fin gok gl rx hG sG gs g0 HG Gl lg hm5 hm4 hm3 hm2 hm1 a3 a2 a1 nG kd2 r1 r0 k n12 hl hr C__law_add C__law_low C__law_digit F T; omega), fun z4 H13 s13 rep13 => ?_⟩
            refine kR _ _ _ ⟨_, _, rfl⟩ (S11.trans s13) ?_
            have hd2 : d = dF (nf (px.1 * py.2 + py.1 * px.2) (px.2 * py.2)) := by
              rw [List.getElem?_map, List.getElem?_zipWith, hpx, hpy] at hdj
              exact (Option.some.inj hdj).symm
            rw [hd2]
            refine Rep.mono (fun b o h => ?_) _ rep13
            obtain ⟨z1, z2⟩ := newH_of h
            obtain ⟨oD, hDo⟩ := hDo
            have bD : b ≠ D := (ne_of_none (S11 _ _ hDo) z1).symm
            rw [cutH_at bD (s2.free (S11.free z1))]
            exact z2
          · intro Ds HD hDs sD reps
            have gD := gC.call sD
            have upD : Same (grow S HA HB) (grow (grow S HA HB) HC HD) := grow_same gC.sm
            have hPRD := sD _ _ hPR
            have sPRD : grow (grow S HA HB) HC HD PR = none := by rw [grow_old hPR]; exact sPR
            have hGD := sD _ _ hGC
            have sGD : grow (grow S HA HB) HC HD G = none := by rw [grow_old hGC]; exact sGB
            have repz2 := Rep.mono upD _ repz'
            have reps2 := Rep.mono (grow_new (S := grow S HA HB)) _ reps
            have rx2 := Reps.mono (upB.trans upD) _ rx
            have rya2 := Reps.mono (upB.trans upD) _ rya
            have hqa2 := upD _ _ (upB _ _ hqa)
            have gE := gD.put (o := HO.lst [V.ref qa, V.ref Dz, V.ref Ds]) sPRD PRl HPR
            have hGE : upd HD PR (HO.lst [V.ref qa, V.ref Dz, V.ref Ds]) G = some (.lst xs) := by rw [upd_ne PRG.symm]; exact hGD
            refine ⟨PR, _, .ref Ds, rfl, rfl, hPRD, small1000 (by simp), _, upd_same, ?_⟩
            simp only [List.cons_append, List.nil_append]
            generalize grow (grow S HA HB) HC HD = S3 at *
            obtain ⟨q, y, row, v, e1, e2, hq, ry, rl, rok, v0, v1⟩ : ∃ (q : Addr) (y : List V) (row : List (Int × Int)) (v : Int), atI [V.ref qa, V.ref Dz, V.ref Ds] sp = some (.ref q) ∧ atI [V.int 1, V.int 0, V.int 0] sp = some (.int v) ∧ S3 q = some (.lst y) ∧ Reps S3 y (row.map dF) ∧ row.length = n ∧ (∀ p ∈ row, Sm p ∧ Low p) ∧ 0 ≤ v ∧ v ≤ 1 := by
              have : sp = 0 ∨ sp = 1 ∨ sp = 2 := by (clear gE hqa2 rya2 rx2 reps2 repz2 sGD sPRD upD gD hGE hGD hPRD reps sD hDs lyc lyb hqcC hqbC repz' hGC hPR gC HPR PRl PRG sPR nPR hGB sGB upB gB repz sB hDz dc lc db lb da la ryc hqc avc evc hrc ryb hqb avb evb hrb rya hqa ava eva hra kc1 kb1 ka1 c1 c0 hGA gA hG9 g9 nlog n0 n2 h2 xl gok2 fin gok gl rx hG sG gs g0 HG Gl lg hm5 hm4 hm3 hm2 hm1 a3 a2 a1 nG kd2 r1 r0 k n12 hl hr C__law_add C__law_low C__law_digit F T; omega)
              rcases this with rfl | rfl | rfl
              · exact ⟨qa, ya, ra, 1, rfl, rfl, hqa2, rya2, la, fun p hp => ⟨(da p hp).sm, (da p hp).low⟩, by decide, by decide⟩
              · obtain ⟨_, y, e, h1, h2⟩ := repz2
                cases e
                exact ⟨Dz, y, List.replicate n (0, 1), 0, rfl, rfl, h1, h2, by simp, fun p hp => by rw [(List.mem_replicate.mp hp).2]; exact sl01, by decide, by decide⟩
              · obtain ⟨_, y, e, h1, h2⟩ := reps2
                cases e
                refine ⟨Ds, y, _, 0, rfl, rfl, h1, h2, by simp [lb, lc], fun p hp => ?_, by decide, by decide⟩
                obtain ⟨j, hj, rfl⟩ := List.mem_iff_getElem.mp hp
                rw [List.getElem_zipWith]
                simp only [List.length_zipWith] at hj
                exact dr_add (db _ (List.getElem_mem _)) (dc _ (List.getElem_mem _))
            have hqE := gE.sm _ _ hq
            generalize upd HD PR (HO.lst [V.ref qa, V.ref Dz, V.ref Ds]) = HE at *
            refine ⟨_, e1, q, rfl, y, .inl hqE, fun L nL => ⟨by decide, fun p5 n5 => ?_⟩⟩
            have gF := gE.call (Same.new nL (o := HO.lst y))
            have upF : Same S3 (grow S3 HE (upd HE L (HO.lst y))) := grow_same gE.sm
            have gG := gF.call (Same.new n5 (o := HO.lst [V.int 1, V.int 0, V.int 0]))
            have upG := grow_same (H' := upd (upd HE L (HO.lst y)) p5 (HO.lst [V.int 1, V.int 0, V.int 0])) gF.sm
            have hGG := (Same.new n5 (o := HO.lst [V.int 1, V.int 0, V.int 0])) _ _ ((Same.new nL (o := HO.lst y)) _ _ hGE)
            have sGG : grow (grow S3 HE (upd HE L (HO.lst y))) (upd HE L (HO.lst y)) (upd (upd HE L (HO.lst y)) p5 (HO.lst [V.int 1, V.int 0, V.int 0])) G = none := by
              rw [grow_old ((Same.new nL (o := HO.lst y)) _ _ hGE), grow_old hGE]
              exact sGD
            obtain ⟨j, jn, ej⟩ := ix_wrap (n := n) (i := ac - v) (by (clear sGG hGG upG gG upF gF n5 nL hqE gE hGE rok ry hq e2 e1 hqa2 rya2 rx2 reps2 repz2 sGD sPRD upD gD hGD hPRD reps sD hDs hqcC hqbC repz' hGC hPR gC HPR PRl PRG sPR nPR hGB sGB upB gB repz sB hDz dc db da ryc hqc avc evc hrc ryb hqb avb evb hrb rya hqa ava eva hra kc1 kb1 ka1 c1 hGA gA h3 sp0 hG9 g9 nlog n0 n2 gok2 fin gok rx hG sG gs g0 HG Gl lg hm5 hm4 hm3 hm2 hm1 a3 a2 a1 nG kd2 r1 r0 k hl hr C__law_add C__law_low C__law_digit F T; omega)) (by (clear sGG hGG upG gG upF gF n5 nL hqE gE hGE rok ry hq e2 e1 hqa2 rya2 rx2 reps2 repz2 sGD sPRD upD gD hGD hPRD reps sD hDs hqcC hqbC repz' hGC hPR gC HPR PRl PRG sPR nPR hGB sGB upB gB repz sB hDz dc db da ryc hqc avc evc hrc ryb hqb avb evb hrb rya hqa ava eva hra kc1 kb1 ka1 c0 hGA gA h3 sp0 hG9 g9 nlog n0 n2 h2 gok2 fin gok rx hG sG gs g0 HG Gl lg hm5 hm4 hm3 hm2 hm1 a3 a2 a1 nG kd2 r1 r0 k n12 hl hr C__law_add C__law_low C__law_digit F T; omega))
            refine ⟨_, e2, _, rfl, _, rfl, xs, hGG, j, by rw [xl]; exact ej, ?_⟩
            have gH := gG.put (o := HO.lst (xs.set j (V.ref L))) sGG Gl HG
            refine fin (g := g.set j row) gH upd_same ?_ (by rw [List.length_set]; exact gl) fun rr hrr => ?_
            · rw [List.map_set]
              refine Reps_set (show Rep _ _ (dRow row) from Rep.mono upG _ ⟨L, y, rfl, ?_, Reps.mono upF _ ry⟩) j (Reps.mono (upF.trans upG) _ rx2)
              rw [grow_at nL, upd_same]
            · rcases List.mem_or_eq_of_mem_set hrr with h | h
              · exact gok2 rr h
              · rw [h]; exact ⟨rl, rok⟩
end Rim5
set_option Elab.async false
set_option linter.all false
set_option maxRecDepth 100000
set_option pp.deepTerms true
set_option maxHeartbeats 4000000
namespace Rim5
open PySem PySem.Spec PyProof.Rows L2 RimM RimD
local macro_rules | `(tactic| walk_at "rd") => `(tactic| first | (dsimp only [tSeq, tAsg, gName, tTup, tLst, tCons, tNil, tVar, tC, tCB, tOp, rI, rI0, tTest, tIfS, tNext, tRet, tRetN, tDrop, tB, tAnd, tOr, tNot, tAndV, tOrV, tNotV, rU, tUn, tBM0, tBM, rBits, tCall, L2.start, rIxTH, rIxLH, rLenH, rEqTH, rEq, rNe, scal, tyV, CMul, CMulB, CDivB, CDivF, CPow, List.map_cons, List.map_nil, List.length_cons, List.length_nil, List.replicate, List.cons_append, List.nil_append, List.set_cons_zero, List.set_cons_succ, List.getElem?_cons_zero, List.getElem?_cons_succ, gSub, rSetL, rCat, iRng1, tPar, iList, tComp, pick, tYes, iZip, gTup, gCons, gNil, rSum, rListH, List.map, iRng2, iRngD, tSl, rSlH, tPart, tNoPart, tPar3]; try simp only [tSeq, tAsg, gName, tTup, tLst, tCons, tNil, tVar, tC, tCB, tOp, rI, rI0, tTest, tIfS, tNext, tRet, tRetN, tDrop, tB, tAnd, tOr, tNot, tAndV, tOrV, tNotV, rU, tUn, tBM0, tBM, rBits, tCall, L2.start, rIxTH, rIxLH, rLenH, rEqTH, rEq, rNe, scal, tyV, CMul, CMulB, CDivB, CDivF, CPow, List.map_cons, List.map_nil, List.length_cons, List.length_nil, List.replicate, List.cons_append, List.nil_append, List.append_nil, List.set_cons_zero, List.set_cons_succ, List.getElem?_cons_zero, List.getElem?_cons_succ, Option.some.injEq, List.cons.injEq, V.int.injEq, V.bl.injEq, V.str.injEq, V.ref.injEq, V.ty.injEq, HO.tup.injEq, HO.lst.injEq, exists_eq_left, exists_eq_left', exists_and_left, and_assoc, and_true, true_and, upd_same, atI_0, atI_1, atI_2, Nat.zero_add, Nat.reduceAdd, Nat.reduceSub, decide_eq_true_eq, Bool.not_eq_true', decide_eq_false_iff_not, reduceCtorEq, false_or, or_false, true_or, or_true, plainT_int, plainT_bool, plainT_tuple, plainT_list, plainT_str, Bool.false_eq_true, if_false, if_true, Bool.not_false, Bool.not_true, Bool.not_not, gSub, rSetL, ixN_00, upd_upd, rCat, iRng1, tFor_eq, tPar, iList, tComp, pick, tYes, iZip, gTup, gCons, gNil, rSum, rListH, List.map, Option.bind, iRng2, iRngD, tSl, rSlH, tPart, tNoPart, tPar3, tTry, tRaise, Ends.unb]) | simp only [tSeq, tAsg, gName, tTup, tLst, tCons, tNil, tVar, tC, tCB, tOp, rI, rI0, tTest, tIfS, tNext, tRet, tRetN, tDrop, tB, tAnd, tOr, tNot, tAndV, tOrV, tNotV, rU, tUn, tBM0, tBM, rBits, tCall, L2.start, rIxTH, rIxLH, rLenH, rEqTH, rEq, rNe, scal, tyV, CMul, CMulB, CDivB, CDivF, CPow, List.map_cons, List.map_nil, List.length_cons, List.length_nil, List.replicate, List.cons_append, List.nil_append, List.append_nil, List.set_cons_zero, List.set_cons_succ, List.getElem?_cons_zero, List.getElem?_cons_succ, Option.some.injEq, List.cons.injEq, V.int.injEq, V.bl.injEq, V.str.injEq, V.ref.injEq, V.ty.injEq, HO.tup.injEq, HO.lst.injEq, exists_eq_left, exists_eq_left', exists_and_left, and_assoc, and_true, true_and, upd_same, atI_0, atI_1, atI_2, Nat.zero_add, Nat.reduceAdd, Nat.reduceSub, decide_eq_true_eq, Bool.not_eq_true', decide_eq_false_iff_not, reduceCtorEq, false_or, or_false, true_or, or_true, plainT_int, plainT_bool, plainT_tuple, plainT_list, plainT_str, Bool.false_eq_true, if_false, if_true, Bool.not_false, Bool.not_true, Bool.not_not, gSub, rSetL, ixN_00, upd_upd, rCat, iRng1, tFor_eq, tPar, iList, tComp, pick, tYes, iZip, gTup, gCons, gNil, rSum, rListH, List.map, Option.bind, iRng2, iRngD, tSl, rSlH, tPart, tNoPart, tPar3, tTry, tRaise, Ends.unb])
variable {P : Program} {w : World} {K : PySem.W.Frag} {mg : Str → Option Value} {base : Heap}
variable {CR CA CN CP CW : Addr}
theorem row_is {r : List (Int × Int)} (h : ∀ p ∈ r, Sm p ∧ Low p) {j : Nat} (hj : j < r.length) : Is (r.getD j (0, 1)) (gi (tops r (lcmB r)) j) (lcmB r) := by
  have e : r[j]? = some (r[j]'hj) := List.getElem?_eq_getElem _
  have m := List.getElem_mem hj
  have b := bot_lcm fun p hp => (h p hp).1
  have b0 := b.pos
  obtain ⟨sm, lo⟩ := h _ m
  have dv := b.dvd _ m
  have p0 := lo.pos
  have a1 : r.getD j (0, 1) = r[j]'hj := by rw [List.getD_eq_getElem?_getD, e]; rfl
  have a2 : gi (tops r (lcmB r)) j = (r[j]'hj).1 * (lcmB r / (r[j]'hj).2) := by
    unfold gi tops
    rw [List.getD_eq_getElem?_getD, List.getElem?_map, e]
    rfl
  rw [a1, a2]
  refine ⟨lo, by (clear a2 a1 p0 dv lo sm b m e h; omega), ?_⟩
  rw [Int.mul_assoc, Int.ediv_mul_cancel dv]
structure In2 (g o : List (List (Int × Int))) (n c : Nat) : Prop where
  gl : g.length = n
  n12 : n ≤ 12
  gr : ∀ r ∈ g, r.length = n ∧ ∀ p ∈ r, Sm p ∧ Low p
  ol : o.length = n
  c1 : 1 ≤ c
  c3 : c ≤ 3
  orow : ∀ r ∈ o, r.length = c ∧ ∀ p ∈ r, Sm p ∧ Low p
theorem In2.in {g o : List (List (Int × Int))} {n c : Nat} (h : In2 g o n c) : In g o n c := ⟨h.gl, h.n12, fun r hr => ⟨(h.gr r hr).1, fun p hp => ((h.gr r hr).2 p hp).1⟩, h.ol, h.c1, h.c3, fun r hr => ⟨(h.orow r hr).1, fun p hp => ((h.orow r hr).2 p hp).1⟩⟩
theorem lcm_le {r : List (Int × Int)} (h : ∀ p ∈ r, Sm p) (hr : r.length ≤ 12) : 0 < lcmB r ∧ (lcmB r).natAbs ≤ 2 ^ 73 := by
  have b := bot_lcm h
  have bb := b.bits
  exact ⟨b.pos, Nat.le_trans (nat_of_bits bb) (Nat.pow_le_pow_right (by decide) (by (clear bb b h; omega)))⟩
theorem In2.gis {g o : List (List (Int × Int))} {n c : Nat} (h : In2 g o n c) {r t : Nat} (hr : r < n) (ht : t < n) : Is (ga g r t) (ma (nums g) r t) (lcmB (g.getD r [])) ∧ (ma (nums g) r t).natAbs ≤ 2 ^ 83 := by
  have m := row_mem (g := g) (k := r) (by rw [h.gl]; exact hr)
  obtain ⟨l, a⟩ := h.gr _ m
  have n12 := h.n12
  unfold ga ma
  rw [nums_at (by rw [h.gl]; exact hr)]
  exact ⟨row_is a (by (clear n12 a m hr h; omega)), gi_le (fun x hx => nat_of_bits (tops_le (fun p hp => (a p hp).1) (by (clear hx a m ht hr h; omega)) x hx)) t⟩
theorem In2.flat {g o : List (List (Int × Int))} {n c : Nat} (h : In2 g o n c) : Fg n 0 1044 (ma (nums g)) (D n (ma (nums g))) 1 (ma (nums g)) (fun r => lcmB (g.getD r [])) g ∧ ∀ (t : Nat) (ρ κ : Nat → Nat), t ≤ n → (∀ i, ρ i < n) → (D t fun i j => ma (nums g) (ρ i) (κ j)).natAbs ≤ 2 ^ 1044 := by
  have n12 := h.n12
  refine ⟨Fg_start h.gl (fun r hr => (h.gr r hr).1) (fun k hk => ?_) fun k j hk hj => (h.gis hk hj).1, fun t ρ κ ht hρ => ?_⟩
  · have m := row_mem (g := g) (k := k) (by rw [h.gl]; exact hk)
    obtain ⟨l, a⟩ := h.gr _ m
    obtain ⟨b1, b2⟩ := lcm_le (fun p hp => (a p hp).1) (by (clear a m hk h; omega))
    exact ⟨by (clear b2 a l m hk n12 h; omega), Nat.le_trans b2 (Nat.pow_le_pow_right (by decide) (by decide))⟩
  · refine Nat.le_trans (D_le4 (B := 83) (n := t) (by omega) fun i j _ _ => ?_) (Nat.pow_le_pow_right (by decide) (by omega))
    show (gi ((nums g).getD (ρ i) []) (κ j)).natAbs ≤ _
    rw [nums_at (by rw [h.gl]; exact hρ i)]
    have gm := h.gr _ (row_mem (k := ρ i) (by rw [h.gl]; exact hρ i))
    exact gi_le (fun x hx => nat_of_bits (tops_le (fun p hp => (gm.2 p hp).1) (by (clear hx hρ ht h; omega)) x hx)) _
theorem In2.sol {g o : List (List (Int × Int))} {n c : Nat} (h : In2 g o n c) (hd : 0 < n → D n (ma (nums g)) ≠ 0) (fin : 0 < n → (sweepP n 1 (aug g (cols o))).2.length = n ∧ Rect c (sweepP n 1 (aug g (cols o))).2 ∧ ∀ row ∈ (sweepP n 1 (aug g (cols o))).2, ∀ z ∈ row, z.natAbs ≤ 2 ^ 2080) :
    Pr n c g (solP g o) o (ma (nums g)) (ma (sweepP n 1 (aug g (cols o))).2) (fun r => lcmB (g.getD r [])) (fun q => lcmB ((cols o).getD q [])) (D n (ma (nums g))) (fun q r => gi (tops ((cols o).getD q []) (lcmB ((cols o).getD q []))) r) ∧ ∀ r ∈ solP g o, r.length = c ∧ ∀ p ∈ r, Low p ∧ Builtin.Int.intBits p.2 ≤ 8000 := by
  have n12 := h.n12
  have c1 := h.c1
  have c3 := h.c3
  by_cases hn : 0 < n
  · obtain ⟨e1, e2, e3⟩ := h.in.co hn
    obtain ⟨l1, l2, l3⟩ := h.in.lf hn
    obtain ⟨f1, f2, f3⟩ := fin hn
    have dd := h.in.dt hn
    have d0 := hd hn
    have dle := h.in.dle
    rw [h.gl] at dd
    have es : solP g o = (sweepP n 1 (aug g (cols o))).2.map fun row => List.zipWith (fun t c => nf t (D n (ma (nums g)) * lcmB c)) row (cols o) := by unfold solP; rw [h.gl, dd]
    have cm : ∀ q, q < c → (cols o).getD q [] ∈ cols o := fun q hq => row_mem (by rw [e2]; exact hq)
    have lc : ∀ q, q < c → 0 < lcmB ((cols o).getD q []) ∧ (lcmB ((cols o).getD q [])).natAbs ≤ 2 ^ 73 := fun q hq => lcm_le (e3 _ (cm q hq)).2 (by rw [(e3 _ (cm q hq)).1]; (clear hq cm es dle d0 dd f3 f2 f1 l3 l2 l1 e3 e2 e1 hn c3 c1 fin hd h; omega))
    have al : (aug g (cols o)).length = n := by rw [aug_len, h.gl]
    have xrow : ∀ t, t < n → ∃ row, row ∈ (sweepP n 1 (aug g (cols o))).2 ∧ (sweepP n 1 (aug g (cols o))).2.getD t [] = row ∧ (solP g o).getD t [] = List.zipWith (fun t c => nf t (D n (ma (nums g)) * lcmB c)) row (cols o) := fun t ht => by
      have e : (sweepP n 1 (aug g (cols o))).2[t]? = some ((sweepP n 1 (aug g (cols o))).2[t]'(by (clear lc cm es dle d0 dd f3 f2 l3 l2 l1 e3 e2 e1 hn c3 c1 n12 fin hd h; omega))) := List.getElem?_eq_getElem _
      refine ⟨_, List.getElem_mem (show t < (sweepP n 1 (aug g (cols o))).2.length by (clear e lc cm es dle d0 dd f3 f2 l3 l2 l1 e3 e2 e1 hn c3 c1 n12 fin hd h; omega)), by rw [List.getD_eq_getElem?_getD, e]; rfl, ?_⟩
      rw [es, List.getD_eq_getElem?_getD, List.getElem?_map, e]
      rfl
    refine ⟨⟨n12, c3, h.gl, fun r hr => (h.gr r hr).1, by rw [es, List.length_map, f1], fun r hr => ?_, h.ol, fun r hr => (h.orow r hr).1, fun r t hr ht => ⟨(h.gis hr ht).1, Nat.le_trans (h.gis hr ht).2 (Nat.pow_le_pow_right (by decide) (by decide))⟩, fun t q ht hq => ?_, fun r q hr hq => ⟨?_, ?_⟩, fun r hr => ?_, fun q hq => ?_⟩, fun r hr => ?_⟩
    · rw [es] at hr
      obtain ⟨row, hrow, rfl⟩ := List.mem_map.mp hr
      rw [List.length_zipWith, f2.w row hrow, e2, Nat.min_self]
    · obtain ⟨row, hrow, r1, r2⟩ := xrow t ht
      have rl := f2.w row hrow
      have q1 : row[q]? = some (row[q]'(by (clear r2 r1 hrow ht xrow al lc cm es dle d0 dd f3 f2 f1 l3 l2 l1 e3 e1 hn c3 c1 n12 fin hd h; omega))) := List.getElem?_eq_getElem _
      have q2 : (cols o)[q]? = some ((cols o)[q]'(by (clear q1 r2 r1 hrow ht xrow al lc cm es dle d0 dd f3 f2 f1 l3 l2 l1 e3 e1 hn c3 c1 n12 fin hd h; omega))) := List.getElem?_eq_getElem _
      have q3 : (cols o).getD q [] = (cols o)[q]'(by (clear q2 q1 r2 r1 hrow ht xrow al lc cm es dle d0 dd f3 f2 f1 l3 l2 l1 e3 e1 hn c3 c1 n12 fin hd h; omega)) := by rw [List.getD_eq_getElem?_getD, q2]; rfl
      have a1 : ma (sweepP n 1 (aug g (cols o))).2 t q = row[q]'(by (clear q3 q2 q1 r2 r1 hrow ht xrow al lc cm es dle d0 dd f3 f2 f1 l3 l2 l1 e3 e1 hn c3 c1 n12 fin hd h; omega)) := by
        unfold ma gi
        rw [r1, List.getD_eq_getElem?_getD, q1]
        rfl
      have a2 : ga (solP g o) t q = nf (row[q]'(by (clear a1 q3 q2 q1 r2 r1 hrow ht xrow al lc cm es dle d0 dd f3 f2 f1 l3 l2 l1 e3 e1 hn c3 c1 n12 fin hd h; omega))) (D n (ma (nums g)) * lcmB ((cols o).getD q [])) := by
        unfold ga
        rw [r2, List.getD_eq_getElem?_getD, List.getElem?_zipWith, q1, q2, q3]
        rfl
      rw [a1, a2]
      have := (lc q hq).1
      exact ⟨is_nf (Int.mul_ne_zero d0 (by (clear a2 a1 q3 q2 q1 r2 r1 hrow ht xrow al lc cm es dle d0 dd f3 f2 f1 l3 l2 l1 e3 e1 hn c3 c1 n12 fin hd h; omega))), f3 row hrow _ (List.getElem_mem _)⟩
    · have cl := (e3 _ (cm q hq)).1
      have ok : ∀ p ∈ (cols o).getD q [], Sm p ∧ Low p := fun p hp => by
        have : (cols o).getD q [] = o.map fun row => row.getD q (0, 1) := by
          rw [e1, List.getD_eq_getElem?_getD, List.getElem?_map, List.getElem?_range hq]
          rfl
        rw [this] at hp
        obtain ⟨row, hrow, rfl⟩ := List.mem_map.mp hp
        rw [List.getD_eq_getElem?_getD]
        cases z : row[q]? with
        | none => exact sl01
        | some y => exact (h.orow row hrow).2 y (List.mem_of_getElem? z)
      have := row_is ok (j := r) (by (clear ok hq xrow lc cm es dle d0 dd f3 f2 l3 l2 l1 e3 e2 e1 hn c3 c1 n12 fin hd h; omega))
      have ee : ((cols o).getD q []).getD r (0, 1) = ga o r q := by
        have : (cols o).getD q [] = o.map fun row => row.getD q (0, 1) := by
          rw [e1, List.getD_eq_getElem?_getD, List.getElem?_map, List.getElem?_range hq]
          rfl
        rw [this, List.getD_eq_getElem?_getD, List.getElem?_map]
        unfold ga
        rw [List.getD_eq_getElem?_getD (l := o), List.getElem?_eq_getElem (by rw [h.ol]; exact hr)]
        rfl
      rw [← ee]
      exact this
    · have sa := sweep_answer (rows := aug g (cols o)) (w := 0) (c := c) (by rw [al]; exact l3) (by rw [al, dd]; exact d0) (by rw [al]; exact f1) (by rw [al]; exact f2) (r := r) (q := q) (by rw [al]; exact hr) hq
      rw [al, dd] at sa
      rw [← l2 r q hr hq, ← sa]
      exact su_congr fun t ht => by rw [l1 r t hr ht]
    · have m := row_mem (g := g) (k := r) (by rw [h.gl]; exact hr)
      obtain ⟨l, a⟩ := h.gr _ m
      exact Nat.le_trans (lcm_le (fun p hp => (a p hp).1) (by (clear a m hr xrow lc cm es dle d0 dd f3 f2 l3 l2 l1 e3 e2 e1 c3 c1 fin hd h; omega))).2 (Nat.pow_le_pow_right (by decide) (by decide))
    · exact Nat.le_trans (le_mul dle (lc q hq).2) (Nat.pow_le_pow_right (by decide) (by decide))
    · rw [es] at hr
      obtain ⟨row, hrow, rfl⟩ := List.mem_map.mp hr
      refine ⟨by rw [List.length_zipWith, f2.w row hrow, e2, Nat.min_self], fun p hp => ?_⟩
      obtain ⟨j, hj, rfl⟩ := List.mem_iff_getElem.mp hp
      rw [List.getElem_zipWith]
      simp only [List.length_zipWith] at hj
      have hc : (cols o)[j]'(by (clear hp hr hrow xrow al lc cm es dle d0 dd f3 f2 f1 l3 l2 l1 e3 e2 e1 hn c3 c1 n12 fin hd h; omega)) ∈ cols o := List.getElem_mem _
      obtain ⟨b1, b2⟩ := lcm_le (e3 _ hc).2 (by rw [(e3 _ hc).1]; (clear hc hj hp hr hrow xrow al lc cm es dle d0 dd f3 f2 f1 l3 l2 l1 e3 e2 e1 hn c3 c1 fin hd h; omega))
      have ne : D n (ma (nums g)) * lcmB ((cols o)[j]'(by (clear b2 hc hp hr hrow xrow al lc cm es dle d0 dd f3 f2 f1 l3 l2 l1 e3 e2 e1 hn c3 c1 n12 fin hd h; omega))) ≠ 0 := Int.mul_ne_zero d0 (by (clear b2 hc hp hr hrow xrow al lc cm es dle d0 dd f3 f2 f1 l3 l2 l1 e3 e2 e1 hn c3 c1 n12 fin hd h; omega))
      have z := bits_of_le (Nat.le_trans (nf_abs_le (t := row[j]'(by (clear b2 hc hp hr hrow xrow al lc cm es dle d0 dd f3 f2 f1 l3 l2 l1 e3 e2 e1 hn c3 c1 n12 fin hd h; omega))) ne).2 (le_mul dle b2))
      exact ⟨(nf_low ne).1, by (clear b2 hc hp hr hrow xrow al lc cm es dle d0 dd f3 f2 f1 l3 l2 l1 e3 e2 e1 hn c3 c1 n12 fin hd h; omega)⟩
  · have g0 : g = [] := List.length_eq_zero_iff.mp (by rw [h.gl]; (clear c3 c1 fin hd h; omega))
    have o0 : o = [] := List.length_eq_zero_iff.mp (by rw [h.ol]; (clear g0 c3 c1 fin hd h; omega))
    have s0 : solP [] [] = [] := rfl
    subst g0 o0
    rw [s0]
    have nz : n = 0 := by (clear fin h hd s0 c3 c1; omega)
    subst nz
    refine ⟨⟨n12, c3, rfl, fun r hr => (nomatch hr), rfl, fun r hr => (nomatch hr), rfl, fun r hr => (nomatch hr), fun r t hr => absurd hr (by (clear fin h hd hn n12 s0 c3 c1; omega)), fun t q ht => absurd ht (by (clear fin h hd hn n12 s0 c3 c1; omega)), fun r q hr => absurd hr (by (clear fin h hd hn n12 s0 c3 c1; omega)), fun r hr => absurd hr (by (clear fin h hd hn n12 s0 c3 c1; omega)), fun q hq => ?_⟩, fun r hr => (nomatch hr)⟩
    show ((1 : Int) * 1).natAbs ≤ 2 ^ 1200
    exact Nat.one_le_two_pow
theorem comp_copy {g : TG} {te : TE} {σ : L2.St} {H : Hp} {Q : VK} {p : Addr} {xs : List V} {gs : List (List (Int × Int))} (hp : H p = some (.lst xs)) (hxs : Reps H xs (gs.map dRow)) (h8 : gs.length ≤ 16)
    (hg : g = gName 0) (hte : te = tCB rListH (tCons (tVar 0) tNil)) (hσ : ∃ e, σ = [e])
    (hd : ∀ D H', H D = none → Same H H' → Rep H' (.ref D) (.lst (gs.map dRow)) → Q (.ref D) H') : CompGo (Itl K p) g tYes te σ H Q := by
  subst hg hte
  have hl : xs.length = gs.length := by rw [hxs.length, List.length_map]
  refine comp_any (n := xs.length) (B := fun _ => none) (Pσ := fun σ => ∃ e, σ = [e]) (ds := gs.map dRow) (fun b o e => by cases e) hσ (by simp [hl]) (by (clear hd hσ hxs hp; omega)) (fun i H2 hi s2 => ⟨xs, xs[i], .inl (.inl (s2 _ _ hp)), by simp [hi]⟩) (fun H2 s2 => ⟨xs, .inl (.inl (s2 _ _ hp)), Nat.le_refl _⟩) ?_ (fun D H' hD s' rep => hd D H' hD s' rep)
  rintro D i x d σ' H' H'' hD ⟨od, hDo⟩ hs' hi hdi ⟨rfl, hy⟩ ⟨e, rfl⟩ R kR
  have hx := hy xs (.inl (.inl (hs' _ _ hp)))
  obtain ⟨q, ys, r, hr0, rfl, hq, hys⟩ := rep_rows hxs hx
  have hd2 : d = dRow r := by rw [List.getElem?_map, hr0] at hdi; exact (Option.some.inj hdi).symm
  walk_at "rd"
  refine ⟨ys, .inl (hs' _ _ hq), fun l hl => kR _ _ _ ⟨_, rfl⟩ (Same.new hl) ?_⟩
  rw [hd2]
  have hlD : l ≠ D := (ne_of_none hDo hl).symm
  exact ⟨l, ys, rfl, by rw [cutH_at hlD rfl, upd_same], Reps.mono (old_cut (hs'.trans (Same.new hl)) hD) _ hys⟩
mutual
theorem deq_refl : ∀ d : Dt, deq d d = some true
  | .non => rfl
  | .bl a => by simp [deq]
  | .int a => by simp [deq]
  | .str a => by simp [deq]
  | .tup xs => deqs_refl xs
  | .lst xs => by rw [deq, if_pos rfl]; exact deqs_refl xs
theorem deqs_refl : ∀ ds : List Dt, deqs ds ds = some true
  | [] => rfl
  | d :: ds => by rw [deqs, deq_refl d, deqs_refl ds]; rfl
end
noncomputable abbrev s__law_answer : Stmt := PySem.Challenge.pw_rimread_k05_solved.main.body.getD 36 (.Pass ⟨0, 0, 0, 0⟩)
theorem sc__law_answer : FnScope ["_law_grid", "_law_other", "e", "_law_own"] ["_law_grid", "_law_other"] (defScope s__law_answer) := ⟨rfl, rfl, rfl, by decide +kernel, rfl, by decide +kernel, by decide +kernel⟩
theorem lk__law_answer_0 : (defScope s__law_answer).names.lookup ("_law_grid" : Str) = some PySem.NameKind.local := by decide +kernel
theorem lk__law_answer_1 : (defScope s__law_answer).names.lookup ("_law_other" : Str) = some PySem.NameKind.local := by decide +kernel
theorem lk__law_answer_2 : (defScope s__law_answer).names.lookup ("e" : Str) = some PySem.NameKind.local := by decide +kernel
theorem lk__law_answer_3 : (defScope s__law_answer).names.lookup ("_law_own" : Str) = some PySem.NameKind.local := by decide +kernel
theorem gk__law_answer_NoAnswer : (defScope s__law_answer).names.lookup ("NoAnswer" : Str) = some PySem.NameKind.globalImplicit := by decide +kernel
theorem gk__law_answer_NoNet : (defScope s__law_answer).names.lookup ("NoNet" : Str) = some PySem.NameKind.globalImplicit := by decide +kernel
theorem gk__law_answer_NoPlane : (defScope s__law_answer).names.lookup ("NoPlane" : Str) = some PySem.NameKind.globalImplicit := by decide +kernel
theorem gk__law_answer_NoWorth : (defScope s__law_answer).names.lookup ("NoWorth" : Str) = some PySem.NameKind.globalImplicit := by decide +kernel
theorem gk__law_answer_RimError : (defScope s__law_answer).names.lookup ("RimError" : Str) = some PySem.NameKind.globalImplicit := by decide +kernel
theorem gk__law_answer_ValueError : (defScope s__law_answer).names.lookup ("ValueError" : Str) = some PySem.NameKind.globalImplicit := by decide +kernel
theorem gk__law_answer_isinstance : (defScope s__law_answer).names.lookup ("isinstance" : Str) = some PySem.NameKind.globalImplicit := by decide +kernel
theorem gk__law_answer_solved : (defScope s__law_answer).names.lookup ("solved" : Str) = some PySem.NameKind.globalImplicit := by decide +kernel
noncomputable def sp_ans : Sp := fun vs H Q _ => ∃ (v u : V) (g o : List (List (Int × Int))) (n c : Nat), vs = [v, u] ∧ Rep H v (.lst (g.map dRow)) ∧ Rep H u (.lst (o.map dRow)) ∧ In g o n c ∧
  (((0 < n → D n (ma (nums g)) ≠ 0) ∧ ∀ z x H', Same H H' → H' z = some (.tup [x, .bl true]) → Rep H' x (.lst ((solP g o).map dRow)) → (0 < n → (sweepP n 1 (aug g (cols o))).2.length = n ∧ Rect c (sweepP n 1 (aug g (cols o))).2 ∧ ∀ row ∈ (sweepP n 1 (aug g (cols o))).2, ∀ z ∈ row, z.natAbs ≤ 2 ^ 2080) → Q (.ref z) H') ∨
   (0 < n ∧ D n (ma (nums g)) = 0 ∧ ∀ z H', Same H H' → H' z = some (.tup [.non, .bl true]) → Q (.ref z) H'))
theorem ok__law_answer (T : Txt K mg) (EX : Exs K mg CR CA CN CP CW) (F : Fn0 K mg "_law_answer" s__law_answer) (C_solved : Cal P w K mg base "solved" ["grid", "other"] 5 sp_solv) (R_solved : CalR P w K mg base "solved" ["grid", "other"] 5 (sp_solvR CA)) : Cal P w K mg base "_law_answer" ["_law_grid", "_law_other"] 6 sp_ans := by
  refine cal_of F sc__law_answer (fun _ _ _ _ _ _ us hl => match us, hl with | [_, _], _ => rfl) ?len ?body
  case len => rintro vs H Q E ⟨a, b, c, d, e, f, rfl, _⟩; rfl
  case body =>
    intro f cdv A outer s H vs Q E hr h
    obtain ⟨v, u, g, o, n, c, rfl, hv, hu, hin, hc | hc⟩ := h
    · obtain ⟨hd, k⟩ := hc
      refine' ⟨_, ?D, ?R⟩
      case D =>
        refine' pss_one ?g1
        case g1 =>
          refine' ps_tryOk (fun _ => ?g2)
          case g2 =>
            refine' pss_one ?g3
            case g3 =>
              refine' ps_ret ?g4
              case g4 =>
                refine' pe_tup ?g5
                case g5 =>
                  refine' pa_c ?g6 ?g7
                  case g6 =>
                    refine' pe_callD C_solved (hr.mono (by decide)) gk__law_answer_solved ?g8
                    case g8 =>
                      refine' pa_c ?g9 ?g10
                      case g9 => exact pv1 0 rfl lk__law_answer_0
                      case g10 =>
                        refine' pa_c ?g11 ?g12
                        case g11 => exact pv1 1 rfl lk__law_answer_1
                        case g12 => exact pa_nil
                  case g7 =>
                    refine' pa_c ?g13 ?g14
                    case g13 => exact pe_bl
                    case g14 => exact pa_nil
      case R =>
        walk_at "rd"
        refine ⟨v, u, g, o, n, c, rfl, hv, hu, hin, hd, fun x H1 s1 rep fin => ⟨by decide, fun z nz => ?_⟩⟩
        exact k z x _ (s1.trans (Same.new nz)) upd_same (Rep.mono (Same.new nz) _ rep) fin
    · obtain ⟨hn, hd, k⟩ := hc
      refine' ⟨_, ?D, ?R⟩
      case D =>
        refine' pss_one ?g1
        case g1 =>
          refine' ps_tryR (i := 2) R_solved (hr.mono (by decide)) gk__law_answer_solved rfl rfl EX.m_RimError EX.hnd_RimError gk__law_answer_RimError sc__law_answer.nd rfl lk__law_answer_2 (fun _ => ?g2) (fun _ => ?g3)
          case g2 =>
            refine' pa_c ?g4 ?g5
            case g4 => exact pv1 0 rfl lk__law_answer_0
            case g5 =>
              refine' pa_c ?g6 ?g7
              case g6 => exact pv1 1 rfl lk__law_answer_1
              case g7 => exact pa_nil
          case g3 =>
            refine' pss_cons ?g8 ?g9
            case g8 =>
              refine' ps_set1 (i := 3) sc__law_answer.nd rfl lk__law_answer_3 ?g10
              case g10 =>
                refine' pe_and ?g11 ?g12
                case g11 =>
                  refine' pe_callE (call_isiX (K := K) rfl) gk__law_answer_isinstance T.n_isinstance bt_isinstance ?g13
                  case g13 =>
                    refine' pa_c ?g14 ?g15
                    case g14 => exact pv1 2 rfl lk__law_answer_2
                    case g15 =>
                      refine' pa_c ?g16 ?g17
                      case g16 => exact pe_gref gk__law_answer_NoAnswer EX.m_NoAnswer
                      case g17 => exact pa_nil
                case g12 =>
                  refine' pe_and ?g18 ?g19
                  case g18 =>
                    refine' pe_callE (call_isiX (K := K) rfl) gk__law_answer_isinstance T.n_isinstance bt_isinstance ?g20
                    case g20 =>
                      refine' pa_c ?g21 ?g22
                      case g21 => exact pv1 2 rfl lk__law_answer_2
                      case g22 =>
                        refine' pa_c ?g23 ?g24
                        case g23 => exact pe_bty gk__law_answer_ValueError T.n_ValueError bt_ValueError
                        case g24 => exact pa_nil
                  case g19 =>
                    refine' pe_one ?g25
                    case g25 =>
                      refine' pe_not ?g26
                      case g26 =>
                        refine' pe_callE (call_isiX (K := K) rfl) gk__law_answer_isinstance T.n_isinstance bt_isinstance ?g27
                        case g27 =>
                          refine' pa_c ?g28 ?g29
                          case g28 => exact pv1 2 rfl lk__law_answer_2
                          case g29 =>
                            refine' pa_c ?g30 ?g31
                            case g30 =>
                              refine' pe_tup ?g32
                              case g32 =>
                                refine' pa_c ?g33 ?g34
                                case g33 => exact pe_gref gk__law_answer_NoNet EX.m_NoNet
                                case g34 =>
                                  refine' pa_c ?g35 ?g36
                                  case g35 => exact pe_gref gk__law_answer_NoPlane EX.m_NoPlane
                                  case g36 =>
                                    refine' pa_c ?g37 ?g38
                                    case g37 => exact pe_gref gk__law_answer_NoWorth EX.m_NoWorth
                                    case g38 => exact pa_nil
                            case g31 => exact pa_nil
            case g9 =>
              refine' pss_one ?g39
              case g39 =>
                refine' ps_ret ?g40
                case g40 =>
                  refine' pe_tup ?g41
                  case g41 =>
                    refine' pa_c ?g42 ?g43
                    case g42 => exact pe_non
                    case g43 =>
                      refine' pa_c ?g44 ?g45
                      case g44 => exact pv1 3 rfl lk__law_answer_3
                      case g45 => exact pa_nil
      case R =>
        walk_at "rd"
        refine ⟨v, u, g, o, n, c, rfl, hv, hu, hin, hn, hd, fun H1 s1 => ⟨CA, rfl, EX.sub, fun ea hea => ?_⟩⟩
        have se : Same H1 (upd H1 ea (exO (.ref CA) ea)) := Same.new hea
        try walk_at "rd"
        refine ⟨ea, CA, _, true, rfl, upd_same, EX.kit, .inr (.inl ⟨CA, rfl, EX.isA⟩), _, rfl, ?_⟩
        try walk_at "rd"
        refine ⟨ea, CA, _, true, rfl, upd_same, EX.kit, .inl ⟨_, rfl, EX.isV⟩, _, rfl, ?_⟩
        try walk_at "rd"
        refine ⟨by decide, fun p hp => ?_⟩
        have sp := Same.new hp (o := HO.tup [.ref CN, .ref CP, .ref CW])
        refine ⟨ea, CA, _, false, rfl, sp _ _ upd_same, EX.kit, .inr (.inr ⟨p, [CN, CP, CW], rfl, upd_same, EX.isN⟩), _, rfl, ?_⟩
        try walk_at "rd"
        refine ⟨by decide, fun z nz => k z _ (((s1.trans se).trans sp).trans (Same.new nz)) upd_same⟩
end Rim5
set_option Elab.async false
set_option linter.all false
set_option maxRecDepth 100000
set_option pp.deepTerms true
set_option maxHeartbeats 4000000
namespace Rim5
open PySem PySem.Spec PyProof.Rows L2 RimM RimD
local macro_rules | `(tactic| walk_at "rd") => `(tactic| first | (dsimp only [tSeq, tAsg, gName, tTup, tLst, tCons, tNil, tVar, tC, tCB, tOp, rI, rI0, tTest, tIfS, tNext, tRet, tRetN, tDrop, tB, tAnd, tOr, tNot, tAndV, tOrV, tNotV, rU, tUn, tBM0, tBM, rBits, tCall, L2.start, rIxTH, rIxLH, rLenH, rEqTH, rEq, rNe, scal, tyV, CMul, CMulB, CDivB, CDivF, CPow, List.map_cons, List.map_nil, List.length_cons, List.length_nil, List.replicate, List.cons_append, List.nil_append, List.set_cons_zero, List.set_cons_succ, List.getElem?_cons_zero, List.getElem?_cons_succ, gSub, rSetL, rCat, iRng1, tPar, iList, tComp, pick, tYes, iZip, gTup, gCons, gNil, rSum, rListH, List.map, iRng2, iRngD, tSl, rSlH, tPart, tNoPart, tPar3]; try simp only [tSeq, tAsg, gName, tTup, tLst, tCons, tNil, tVar, tC, tCB, tOp, rI, rI0, tTest, tIfS, tNext, tRet, tRetN, tDrop, tB, tAnd, tOr, tNot, tAndV, tOrV, tNotV, rU, tUn, tBM0, tBM, rBits, tCall, L2.start, rIxTH, rIxLH, rLenH, rEqTH, rEq, rNe, scal, tyV, CMul, CMulB, CDivB, CDivF, CPow, List.map_cons, List.map_nil, List.length_cons, List.length_nil, List.replicate, List.cons_append, List.nil_append, List.append_nil, List.set_cons_zero, List.set_cons_succ, List.getElem?_cons_zero, List.getElem?_cons_succ, Option.some.injEq, List.cons.injEq, V.int.injEq, V.bl.injEq, V.str.injEq, V.ref.injEq, V.ty.injEq, HO.tup.injEq, HO.lst.injEq, exists_eq_left, exists_eq_left', exists_and_left, and_assoc, and_true, true_and, upd_same, atI_0, atI_1, atI_2, Nat.zero_add, Nat.reduceAdd, Nat.reduceSub, decide_eq_true_eq, Bool.not_eq_true', decide_eq_false_iff_not, reduceCtorEq, false_or, or_false, true_or, or_true, plainT_int, plainT_bool, plainT_tuple, plainT_list, plainT_str, Bool.false_eq_true, if_false, if_true, Bool.not_false, Bool.not_true, Bool.not_not, gSub, rSetL, ixN_00, upd_upd, rCat, iRng1, tFor_eq, tPar, iList, tComp, pick, tYes, iZip, gTup, gCons, gNil, rSum, rListH, List.map, Option.bind, iRng2, iRngD, tSl, rSlH, tPart, tNoPart, tPar3, tTry, tRaise, Ends.unb, tIsN]) | simp only [tSeq, tAsg, gName, tTup, tLst, tCons, tNil, tVar, tC, tCB, tOp, rI, rI0, tTest, tIfS, tNext, tRet, tRetN, tDrop, tB, tAnd, tOr, tNot, tAndV, tOrV, tNotV, rU, tUn, tBM0, tBM, rBits, tCall, L2.start, rIxTH, rIxLH, rLenH, rEqTH, rEq, rNe, scal, tyV, CMul, CMulB, CDivB, CDivF, CPow, List.map_cons, List.map_nil, List.length_cons, List.length_nil, List.replicate, List.cons_append, List.nil_append, List.append_nil, List.set_cons_zero, List.set_cons_succ, List.getElem?_cons_zero, List.getElem?_cons_succ, Option.some.injEq, List.cons.injEq, V.int.injEq, V.bl.injEq, V.str.injEq, V.ref.injEq, V.ty.injEq, HO.tup.injEq, HO.lst.injEq, exists_eq_left, exists_eq_left', exists_and_left, and_assoc, and_true, true_and, upd_same, atI_0, atI_1, atI_2, Nat.zero_add, Nat.reduceAdd, Nat.reduceSub, decide_eq_true_eq, Bool.not_eq_true', decide_eq_false_iff_not, reduceCtorEq, false_or, or_false, true_or, or_true, plainT_int, plainT_bool, plainT_tuple, plainT_list, plainT_str, Bool.false_eq_true, if_false, if_true, Bool.not_false, Bool.not_true, Bool.not_not, gSub, rSetL, ixN_00, upd_upd, rCat, iRng1, tFor_eq, tPar, iList, tComp, pick, tYes, iZip, gTup, gCons, gNil, rSum, rListH, List.map, Option.bind, iRng2, iRngD, tSl, rSlH, tPart, tNoPart, tPar3, tTry, tRaise, Ends.unb, tIsN])
variable {P : Program} {w : World} {K : PySem.W.Frag} {mg : Str → Option Value} {base : Heap}
variable {CR CA CN CP CW : Addr}
theorem digit_nat {r : Int} {n : Nat} (h : 0 < n) : ∃ k : Nat, r % n = k ∧ k < n := by
  have h0 : (n : Int) ≠ 0 := by omega
  have h1 := Int.emod_nonneg r h0
  have h2 := Int.emod_lt_of_pos r (show (0 : Int) < n by omega)
  exact ⟨(r % n).toNat, by (clear h2 h0 h; omega), by omega⟩
theorem all_dF {PF : Int × Int → Prop} : ∀ {ds : List Dt}, (∀ d ∈ ds, ∃ p, d = dF p ∧ PF p) → ∃ ps : List (Int × Int), ds = ps.map dF ∧ ∀ p ∈ ps, PF p
  | [], _ => ⟨[], rfl, fun p hp => nomatch hp⟩
  | d :: ds, h => by
    obtain ⟨p, e, hp⟩ := h d List.mem_cons_self
    obtain ⟨ps, e2, h2⟩ := all_dF (ds := ds) fun d hd => h d (List.mem_cons_of_mem _ hd)
    refine ⟨p :: ps, by rw [e, e2]; rfl, fun q hq => ?_⟩
    rcases List.mem_cons.mp hq with rfl | hq
    · exact hp
    · exact h2 q hq
theorem growB_in {S H H' : Hp} {l : Addr} (s : Same S H) (sl : S l = none) (t : But l H H') : Same (grow S H H') H' := fun b o h => by
  unfold grow at h
  cases e : H b with
  | some z => rw [e] at h; exact t _ _ (ne_of_none h sl) (s _ _ h)
  | none => rw [e] at h; exact h
noncomputable abbrev s_law : Stmt := PySem.Challenge.pw_rimread_k05_solved.main.body.getD 37 (.Pass ⟨0, 0, 0, 0⟩)
theorem sc_law : FnScope ["_law_script", "_law_rest", "_law_size", "_law_columns", "_law_grid", "_law_other", "_law_i", "_law_handed", "_law_found", "_law_own"] ["_law_script"] (defScope s_law) := ⟨rfl, rfl, rfl, by decide +kernel, rfl, by decide +kernel, by decide +kernel⟩
theorem lk_law_0 : (defScope s_law).names.lookup ("_law_script" : Str) = some PySem.NameKind.local := by decide +kernel
theorem lk_law_1 : (defScope s_law).names.lookup ("_law_rest" : Str) = some PySem.NameKind.cell := by decide +kernel
theorem lk_law_2 : (defScope s_law).names.lookup ("_law_size" : Str) = some PySem.NameKind.local := by decide +kernel
theorem lk_law_3 : (defScope s_law).names.lookup ("_law_columns" : Str) = some PySem.NameKind.local := by decide +kernel
theorem lk_law_4 : (defScope s_law).names.lookup ("_law_grid" : Str) = some PySem.NameKind.local := by decide +kernel
theorem lk_law_5 : (defScope s_law).names.lookup ("_law_other" : Str) = some PySem.NameKind.local := by decide +kernel
theorem lk_law_6 : (defScope s_law).names.lookup ("_law_i" : Str) = some PySem.NameKind.local := by decide +kernel
theorem lk_law_7 : (defScope s_law).names.lookup ("_law_handed" : Str) = some PySem.NameKind.local := by decide +kernel
theorem lk_law_8 : (defScope s_law).names.lookup ("_law_found" : Str) = some PySem.NameKind.local := by decide +kernel
theorem lk_law_9 : (defScope s_law).names.lookup ("_law_own" : Str) = some PySem.NameKind.local := by decide +kernel
theorem gk_law__law_answer : (defScope s_law).names.lookup ("_law_answer" : Str) = some PySem.NameKind.globalImplicit := by decide +kernel
theorem gk_law__law_big : (defScope s_law).names.lookup ("_law_big" : Str) = some PySem.NameKind.globalImplicit := by decide +kernel
theorem gk_law__law_digit : (defScope s_law).names.lookup ("_law_digit" : Str) = some PySem.NameKind.globalImplicit := by decide +kernel
theorem gk_law__law_grid_by : (defScope s_law).names.lookup ("_law_grid_by" : Str) = some PySem.NameKind.globalImplicit := by decide +kernel
theorem gk_law__law_is_flat : (defScope s_law).names.lookup ("_law_is_flat" : Str) = some PySem.NameKind.globalImplicit := by decide +kernel
theorem gk_law__law_is_grid : (defScope s_law).names.lookup ("_law_is_grid" : Str) = some PySem.NameKind.globalImplicit := by decide +kernel
theorem gk_law__law_times : (defScope s_law).names.lookup ("_law_times" : Str) = some PySem.NameKind.globalImplicit := by decide +kernel
theorem gk_law_range : (defScope s_law).names.lookup ("range" : Str) = some PySem.NameKind.globalImplicit := by decide +kernel
noncomputable def sp_law (K : PySem.W.Frag) : Sp := fun vs H Q _ => ∃ (a : Addr) (ns : List Int), vs = [.ref a] ∧ SqL K H a (ns.map V.int) ∧ ∀ H', Q (.bl true) H'
theorem ok_law {f : Addr} {fd : FuncData} (T : Txt K mg) (F : Fun K "law" "law" s_law f fd) (C__law_big : Cal P w K mg base "_law_big" ["_law_script", "_law_at"] 2 (sp_big K)) (C__law_digit : Cal P w K mg base "_law_digit" ["_law_rest", "_law_many"] 1 sp_digit) (C__law_low : Cal P w K mg base "_law_low" ["_law_top", "_law_bottom"] 1 sp_low)
    (C__law_grid_by : Cal P w K mg base "_law_grid_by" ["_law_rest", "_law_size"] 3 sp_gb) (C__law_answer : Cal P w K mg base "_law_answer" ["_law_grid", "_law_other"] 6 sp_ans) (C__law_is_flat : Cal P w K mg base "_law_is_flat" ["_law_grid"] 3 sp_flat) (C__law_is_grid : Cal P w K mg base "_law_is_grid" ["_law_found", "_law_rows", "_law_columns"] 3 sp_isg) (C__law_times : Cal P w K mg base "_law_times" ["_law_grid", "_law_other", "_law_columns"] 3 sp_times) : FnOk P w K mg base CX0 7 f fd ["_law_script"] (sp_law K) := by
  refine F.ok sc_law ?len ?body
  case len => rintro vs H Q E ⟨a, b, rfl, _⟩; rfl
  case body =>
    intro cdv A outer s H vs Q E hr h
    obtain ⟨a, ns, rfl, hS, k⟩ := h
    refine' ⟨_, ?D, ?R⟩
    case D =>
      refine' pss_cons ?g1 ?g2
      case g1 =>
        refine' ps_setc (i := 1) sc_law.nd rfl lk_law_1 rfl ?g3 rfl
        case g3 =>
          refine' pe_lst ?g4
          case g4 =>
            refine' pa_c ?g5 ?g6
            case g5 =>
              refine' pe_callD C__law_big (hr.mono (by decide)) gk_law__law_big ?g7
              case g7 =>
                refine' pa_c ?g8 ?g9
                case g8 => exact pv1 0 rfl lk_law_0
                case g9 =>
                  refine' pa_c ?g10 ?g11
                  case g10 => exact pe_int
                  case g11 => exact pa_nil
            case g6 => exact pa_nil
      case g2 =>
        refine' pss_cons ?g12 ?g13
        case g12 =>
          refine' ps_set1 (i := 2) sc_law.nd rfl lk_law_2 ?g14
          case g14 =>
            refine' pe_callD C__law_digit (hr.mono (by decide)) gk_law__law_digit ?g15
            case g15 =>
              refine' pa_c ?g16 ?g17
              case g16 => exact pvc 1 rfl lk_law_1
              case g17 =>
                refine' pa_c ?g18 ?g19
                case g18 => exact pe_int
                case g19 => exact pa_nil
        case g13 =>
          refine' pss_cons ?g20 ?g21
          case g20 =>
            refine' ps_cut ?g22
            case g22 =>
              refine' ps_if ?g23 ?g24 ?g25
              case g23 =>
                refine' pt_cmpR op_eq ?g26 ?g27 (nomark _)
                case g26 =>
                  refine' pe_callD C__law_digit (hr.mono (by decide)) gk_law__law_digit ?g28
                  case g28 =>
                    refine' pa_c ?g29 ?g30
                    case g29 => exact pvc 1 rfl lk_law_1
                    case g30 =>
                      refine' pa_c ?g31 ?g32
                      case g31 => exact pe_int
                      case g32 => exact pa_nil
                case g27 => exact pe_int
              case g24 =>
                refine' pss_one ?g33
                case g33 =>
                  refine' ps_set1 (i := 2) sc_law.nd rfl lk_law_2 ?g34
                  case g34 =>
                    refine' pe_callD C__law_digit (hr.mono (by decide)) gk_law__law_digit ?g35
                    case g35 =>
                      refine' pa_c ?g36 ?g37
                      case g36 => exact pvc 1 rfl lk_law_1
                      case g37 =>
                        refine' pa_c ?g38 ?g39
                        case g38 => exact pe_int
                        case g39 => exact pa_nil
              case g25 => exact pss_nil
          case g21 =>
            refine' pss_cons ?g40 ?g41
            case g40 =>
              refine' ps_set1 (i := 3) sc_law.nd rfl lk_law_3 ?g42
              case g42 =>
                refine' pe_op op_add ?g43 ?g44
                case g43 => exact pe_int
                case g44 =>
                  refine' pe_callD C__law_digit (hr.mono (by decide)) gk_law__law_digit ?g45
                  case g45 =>
                    refine' pa_c ?g46 ?g47
                    case g46 => exact pvc 1 rfl lk_law_1
                    case g47 =>
                      refine' pa_c ?g48 ?g49
                      case g48 => exact pe_int
                      case g49 => exact pa_nil
            case g41 =>
              refine' pss_cons ?g50 ?g51
              case g50 =>
                refine' ps_set1 (i := 4) sc_law.nd rfl lk_law_4 ?g52
                case g52 =>
                  refine' pe_callD C__law_grid_by (hr.mono (by decide)) gk_law__law_grid_by ?g53
                  case g53 =>
                    refine' pa_c ?g54 ?g55
                    case g54 => exact pvc 1 rfl lk_law_1
                    case g55 =>
                      refine' pa_c ?g56 ?g57
                      case g56 => exact pv1 2 rfl lk_law_2
                      case g57 => exact pa_nil
              case g51 =>
                refine' pss_cons ?g58 ?g59
                case g58 =>
                  refine' ps_set1 (i := 5) sc_law.nd rfl lk_law_5 ?g60
                  case g60 =>
                    refine' pe_lst ?g61
                    case g61 => exact pa_nil
                case g59 =>
                  refine' pss_cons ?g62 ?g63
                  case g62 =>
                    refine' ps_for PassesOwn.never rfl ?g64 ?g65 ?g66
                    case g64 =>
                      refine' pi_range1 gk_law_range T.n_range ?g67
                      case g67 =>
                        refine' pa_c ?g68 ?g69
                        case g68 => exact pv1 2 rfl lk_law_2
                        case g69 => exact pa_nil
                    case g65 => exact pg_name1 (i := 6) sc_law.nd rfl lk_law_6
                    case g66 =>
                      refine' pss_one ?g70
                      case g70 =>
                        refine' ps_expr1 ?g71
                        case g71 =>
                          refine' pe_bm PySem.F.plainAttrs_list PySem.F.slot_list_append PySem.F.type_list_append mt_append ?g72 ?g73
                          case g72 => exact pv1 5 rfl lk_law_5
                          case g73 =>
                            refine' pa_c ?g74 ?g75
                            case g74 =>
                              refine' pe_comp (N' := ["_law_j", "_law_rest"]) (ix := [none, some 1]) rfl rfl (scp_of ?g76) ?g77 (fun _ _ _ => ?g78) (fun _ _ _ => ?g79) (fun _ _ _ => ?g80)
                              case g76 => exact (by show scpB (defScope s_law) ["_law_script", "_law_rest", "_law_size", "_law_columns", "_law_grid", "_law_other", "_law_i", "_law_handed", "_law_found", "_law_own"] _ _ _ = true; decide +kernel)
                              case g77 =>
                                refine' pi_range1 gk_law_range T.n_range ?g81
                                case g81 =>
                                  refine' pa_c ?g82 ?g83
                                  case g82 => exact pv1 3 rfl lk_law_3
                                  case g83 => exact pa_nil
                              case g78 => exact pg_name1 (i := 0) (by show List.Nodup (["_law_j", "_law_rest"] : List Str); decide +kernel) rfl rfl
                              case g79 => exact pf_nil
                              case g80 =>
                                refine' pe_callD C__law_low (hr.mono (by decide)) rfl ?g84
                                case g84 =>
                                  refine' pa_c ?g85 ?g86
                                  case g85 =>
                                    refine' pe_op op_sub ?g87 ?g88
                                    case g87 =>
                                      refine' pe_callD C__law_digit (hr.mono (by decide)) rfl ?g89
                                      case g89 =>
                                        refine' pa_c ?g90 ?g91
                                        case g90 => exact pvc 1 rfl rfl
                                        case g91 =>
                                          refine' pa_c ?g92 ?g93
                                          case g92 => exact pe_int
                                          case g93 => exact pa_nil
                                    case g88 => exact pe_int
                                  case g86 =>
                                    refine' pa_c ?g94 ?g95
                                    case g94 =>
                                      refine' pe_op op_add ?g96 ?g97
                                      case g96 => exact pe_int
                                      case g97 =>
                                        refine' pe_callD C__law_digit (hr.mono (by decide)) rfl ?g98
                                        case g98 =>
                                          refine' pa_c ?g99 ?g100
                                          case g99 => exact pvc 1 rfl rfl
                                          case g100 =>
                                            refine' pa_c ?g101 ?g102
                                            case g101 => exact pe_int
                                            case g102 => exact pa_nil
                                    case g95 => exact pa_nil
                            case g75 => exact pa_nil
                  case g63 =>
                    refine' pss_cons ?g103 ?g104
                    case g103 =>
                      refine' ps_set1 (i := 7) sc_law.nd rfl lk_law_7 ?g105
                      case g105 =>
                        refine' pe_tup ?g106
                        case g106 =>
                          refine' pa_c ?g107 ?g108
                          case g107 =>
                            refine' pe_comp (N' := ["_law_row"]) (ix := [none]) rfl rfl (scp_of ?g109) ?g110 (fun _ _ _ => ?g111) (fun _ _ _ => ?g112) (fun _ _ _ => ?g113)
                            case g109 => exact (by show scpB (defScope s_law) ["_law_script", "_law_rest", "_law_size", "_law_columns", "_law_grid", "_law_other", "_law_i", "_law_handed", "_law_found", "_law_own"] _ _ _ = true; decide +kernel)
                            case g110 =>
                              refine' pi_listK (K := K) rfl ?g114
                              case g114 => exact pv1 4 rfl lk_law_4
                            case g111 => exact pg_name1 (i := 0) (by show List.Nodup (["_law_row"] : List Str); decide +kernel) rfl rfl
                            case g112 => exact pf_nil
                            case g113 =>
                              refine' pe_callT call_listH rfl T.n_list bt_list ?g115
                              case g115 =>
                                refine' pa_c ?g116 ?g117
                                case g116 => exact pv1 0 rfl rfl
                                case g117 => exact pa_nil
                          case g108 =>
                            refine' pa_c ?g118 ?g119
                            case g118 =>
                              refine' pe_comp (N' := ["_law_row"]) (ix := [none]) rfl rfl (scp_of ?g120) ?g121 (fun _ _ _ => ?g122) (fun _ _ _ => ?g123) (fun _ _ _ => ?g124)
                              case g120 => exact (by show scpB (defScope s_law) ["_law_script", "_law_rest", "_law_size", "_law_columns", "_law_grid", "_law_other", "_law_i", "_law_handed", "_law_found", "_law_own"] _ _ _ = true; decide +kernel)
                              case g121 =>
                                refine' pi_listK (K := K) rfl ?g125
                                case g125 => exact pv1 5 rfl lk_law_5
                              case g122 => exact pg_name1 (i := 0) (by show List.Nodup (["_law_row"] : List Str); decide +kernel) rfl rfl
                              case g123 => exact pf_nil
                              case g124 =>
                                refine' pe_callT call_listH rfl T.n_list bt_list ?g126
                                case g126 =>
                                  refine' pa_c ?g127 ?g128
                                  case g127 => exact pv1 0 rfl rfl
                                  case g128 => exact pa_nil
                            case g119 => exact pa_nil
                    case g104 =>
                      refine' pss_cons ?g129 ?g130
                      case g129 =>
                        refine' ps_asg ?g131 ?g132
                        case g131 =>
                          refine' pe_callD C__law_answer (hr.mono (by decide)) gk_law__law_answer ?g133
                          case g133 =>
                            refine' pa_c ?g134 ?g135
                            case g134 =>
                              refine' pe_ix ix_tupH ?g136 ?g137 (fun _ _ => rfl)
                              case g136 => exact pv1 7 rfl lk_law_7
                              case g137 => exact pe_int
                            case g135 =>
                              refine' pa_c ?g138 ?g139
                              case g138 =>
                                refine' pe_ix ix_tupH ?g140 ?g141 (fun _ _ => rfl)
                                case g140 => exact pv1 7 rfl lk_law_7
                                case g141 => exact pe_int
                              case g139 => exact pa_nil
                        case g132 =>
                          refine' pg_tupK (K := K) (n := 2) rfl rfl ?g142
                          case g142 =>
                            refine' pgs_cons ?g143 ?g144
                            case g143 => exact pg_name1 (i := 8) sc_law.nd rfl lk_law_8
                            case g144 =>
                              refine' pgs_cons ?g145 ?g146
                              case g145 => exact pg_name1 (i := 9) sc_law.nd rfl lk_law_9
                              case g146 => exact pgs_nil
                      case g130 =>
                        refine' pss_cons ?g147 ?g148
                        case g147 =>
                          refine' ps_if ?g149 ?g150 ?g151
                          case g149 =>
                            refine' PW.pt ?g152
                            case g152 =>
                              refine' pw_or ?g153 ?g154
                              case g153 =>
                                refine' pt_not ?g155
                                case g155 =>
                                  refine' pt_val ?g156
                                  case g156 => exact pv1 9 rfl lk_law_9
                              case g154 =>
                                refine' pw_or1 ?g157
                                case g157 =>
                                  refine' pt_cmpR (op_neD (hr.units)) ?g158 ?g159 (nomark _)
                                  case g158 => exact pv1 7 rfl lk_law_7
                                  case g159 =>
                                    refine' pe_tup ?g160
                                    case g160 =>
                                      refine' pa_c ?g161 ?g162
                                      case g161 => exact pv1 4 rfl lk_law_4
                                      case g162 =>
                                        refine' pa_c ?g163 ?g164
                                        case g163 => exact pv1 5 rfl lk_law_5
                                        case g164 => exact pa_nil
                          case g150 =>
                            refine' pss_one ?g165
                            case g165 =>
                              refine' ps_ret ?g166
                              case g166 => exact pe_bl
                          case g151 => exact pss_nil
                        case g148 =>
                          refine' pss_cons ?g167 ?g168
                          case g167 =>
                            refine' ps_if ?g169 ?g170 ?g171
                            case g169 =>
                              refine' pt_cmp (pc_isN ?g172)
                              case g172 => exact pv1 8 rfl lk_law_8
                            case g170 =>
                              refine' pss_one ?g173
                              case g173 =>
                                refine' ps_ret ?g174
                                case g174 =>
                                  refine' pe_callD C__law_is_flat (hr.mono (by decide)) gk_law__law_is_flat ?g175
                                  case g175 =>
                                    refine' pa_c ?g176 ?g177
                                    case g176 => exact pv1 4 rfl lk_law_4
                                    case g177 => exact pa_nil
                            case g171 => exact pss_nil
                          case g168 =>
                            refine' pss_one ?g178
                            case g178 =>
                              refine' ps_ret ?g179
                              case g179 =>
                                refine' pe_and ?g180 ?g181
                                case g180 =>
                                  refine' pe_callD C__law_is_grid (hr.mono (by decide)) gk_law__law_is_grid ?g182
                                  case g182 =>
                                    refine' pa_c ?g183 ?g184
                                    case g183 => exact pv1 8 rfl lk_law_8
                                    case g184 =>
                                      refine' pa_c ?g185 ?g186
                                      case g185 => exact pv1 2 rfl lk_law_2
                                      case g186 =>
                                        refine' pa_c ?g187 ?g188
                                        case g187 => exact pv1 3 rfl lk_law_3
                                        case g188 => exact pa_nil
                                case g181 =>
                                  refine' pe_and ?g189 ?g190
                                  case g189 =>
                                    refine' pe_cmpR (op_eqD (hr.units)) ?g191 ?g192 (nomark _)
                                    case g191 =>
                                      refine' pe_callD C__law_times (hr.mono (by decide)) gk_law__law_times ?g193
                                      case g193 =>
                                        refine' pa_c ?g194 ?g195
                                        case g194 => exact pv1 4 rfl lk_law_4
                                        case g195 =>
                                          refine' pa_c ?g196 ?g197
                                          case g196 => exact pv1 8 rfl lk_law_8
                                          case g197 =>
                                            refine' pa_c ?g198 ?g199
                                            case g198 => exact pv1 3 rfl lk_law_3
                                            case g199 => exact pa_nil
                                    case g192 => exact pv1 5 rfl lk_law_5
                                  case g190 =>
                                    refine' pe_one ?g200
                                    case g200 =>
                                      refine' pe_not ?g201
                                      case g201 =>
                                        refine' pe_callD C__law_is_flat (hr.mono (by decide)) gk_law__law_is_flat ?g202
                                        case g202 =>
                                          refine' pa_c ?g203 ?g204
                                          case g203 => exact pv1 4 rfl lk_law_4
                                          case g204 => exact pa_nil
    case R =>
      walk_at "rd"
      refine ⟨a, ns, rfl, hS, fun z H1 s1 => ?_⟩
      walk_at "rd"
      refine ⟨by decide, fun l nl => ?_⟩
      try walk_at "rd"
      refine ⟨l, z, 7, rfl, upd_same, by decide, by decide +kernel, ?_⟩
      try walk_at "rd"
      obtain ⟨n0, hn0, nn⟩ := digit_nat (r := z) (n := 7) (by decide)
      rw [show z % 7 = ((n0 : Nat) : Int) from hn0]
      have hl0 := upd_same (H := H1) (a := l) (o := HO.lst [V.int (z / 7)])
      generalize upd H1 l (HO.lst [V.int (z / 7)]) = H2 at *
      refine ⟨fun σ H3 => ∃ (n : Nat) (r : Int), σ = [some (.ref a), some (.ref l), some (.int n), none, none, none, none, none, none, none] ∧ n ≤ 12 ∧ H3 l = some (.lst [.int r]), ?_, ?_⟩
      · walk_at "rd"
        refine ⟨l, _, 8, rfl, hl0, by decide, by decide +kernel, ?_⟩
        try walk_at "rd"
        refine ite2 (fun _ => ?_) (fun _ => ⟨n0, rfl, by (clear hl0 nn nl s1 k hS hr C__law_times C__law_is_grid C__law_is_flat C__law_answer C__law_grid_by C__law_low C__law_digit C__law_big F T; omega), _, rfl⟩)
        refine ⟨l, _, 13, rfl, upd_same, by decide, by decide +kernel, ?_⟩
        obtain ⟨n1, hn1, nn1⟩ := digit_nat (r := z / 7 / 8) (n := 13) (by decide)
        try walk_at "rd"
        exact ⟨n1, hn1, by (clear nn1 hl0 nn hn0 nl s1 k hS hr C__law_times C__law_is_grid C__law_is_flat C__law_answer C__law_grid_by C__law_low C__law_digit C__law_big F T; omega), _, rfl⟩
      · rintro σ H3 ⟨n, r, rfl, n12, hl3⟩
        walk_at "rd"
        refine ⟨l, r, 3, rfl, hl3, by decide, by decide +kernel, ?_⟩
        try walk_at "rd"
        obtain ⟨c0, hc0, cc⟩ := digit_nat (r := r) (n := 3) (by decide)
        rw [show r % 3 = ((c0 : Nat) : Int) from hc0]
        obtain ⟨c, ec⟩ : ∃ c : Nat, (1 : Int) + (c0 : Int) = (c : Int) := ⟨c0 + 1, by (clear cc hc0 hl3 n12 hl0 nn hn0 nl s1 k hS hr C__law_times C__law_is_grid C__law_is_flat C__law_answer C__law_grid_by C__law_low C__law_digit C__law_big F T; omega)⟩
        rw [ec]
        refine ⟨l, _, n, rfl, upd_same, n12, fun vg H4 r4 g but4 hl4 repg gl gok => ?_⟩
        try walk_at "rd"
        have vS : Rep (newH (upd H3 l (HO.lst [V.int (r / 3)])) H4) vg (.lst (g.map dRow)) := repg
        have sl0 : newH (upd H3 l (HO.lst [V.int (r / 3)])) H4 l = none := by unfold newH; rw [upd_same]
        have sm0 : Same (newH (upd H3 l (HO.lst [V.int (r / 3)])) H4) H4 := newH_same
        generalize newH (upd H3 l (HO.lst [V.int (r / 3)])) H4 = S0 at *
        refine ⟨Nat.zero_le _, fun O nO => ⟨by (clear nO sm0 sl0 vS repg gok hl4 but4 ec cc hc0 hl3 hl0 nn hn0 nl s1 k hS hr C__law_times C__law_is_grid C__law_is_flat C__law_answer C__law_grid_by C__law_low C__law_digit C__law_big F T; omega), by (clear nO sm0 sl0 vS repg gok hl4 but4 ec cc hc0 hl3 hl0 nn hn0 nl s1 k hS hr C__law_times C__law_is_grid C__law_is_flat C__law_answer C__law_grid_by C__law_low C__law_digit C__law_big F T; omega), ?_⟩⟩
        rw [show Int.toNat (n : Int) = n by (clear nO sm0 sl0 vS repg gok hl4 but4 ec cc hc0 hl3 hl0 nn hn0 nl s1 k hS hr C__law_times C__law_is_grid C__law_is_flat C__law_answer C__law_grid_by C__law_low C__law_digit C__law_big F T; omega)]
        have Ol : O ≠ l := (ne_of_none hl4 nO).symm
        refine go_range (fun i σ H5 => ∃ (S : Hp) (r : Int) (o : List (List (Int × Int))) (xs : List V) (e6 : Option V), σ = [some (.ref a), some (.ref l), some (.int n), some (.int c), some vg, some (.ref O), e6, none, none, none] ∧ Same S H5 ∧ S l = none ∧ S O = none ∧ H5 l = some (.lst [.int r]) ∧ H5 O = some (.lst xs) ∧ Rep S vg (.lst (g.map dRow)) ∧ Reps S xs (o.map dRow) ∧ o.length = i ∧ ∀ row ∈ o, row.length = c ∧ ∀ p ∈ row, Sm p ∧ Low p)
          ⟨S0, _, [], [], _, rfl, sm0.trans (Same.new nO), sl0, sm0.free nO, (Same.new nO) _ _ hl4, upd_same, vS, rfl, rfl, fun row h => by cases h⟩ ?_ ?_
        · rintro i σ H5 hi ⟨S, r, o, xs, e6, rfl, sm, sl, sO, hl, hO, rg, rx, ol, ook⟩
          have xl : xs.length = i := by rw [rx.length, List.length_map, ol]
          walk_at "rd"
          refine ⟨.inl ⟨_, .inl (.inl hO)⟩, by (clear xl ook ol rx rg hO hl sO sl sm hi Ol nO sm0 sl0 vS repg gok gl hl4 but4 cc hl3 n12 hl0 nn hn0 nl s1 k hS hr C__law_times C__law_is_grid C__law_is_flat C__law_answer C__law_grid_by C__law_low C__law_digit C__law_big F T; omega), by (clear xl ook ol rx rg hO hl sO sl sm hi Ol nO sm0 sl0 vS repg gok gl hl4 but4 cc hl3 n12 hl0 nn hn0 nl s1 k hS hr C__law_times C__law_is_grid C__law_is_flat C__law_answer C__law_grid_by C__law_low C__law_digit C__law_big F T; omega), ?_⟩
          rw [show Int.toNat (c : Int) = c by (clear xl ook ol rx rg hO hl sO sl sm hi Ol nO sm0 sl0 vS repg gok gl hl4 but4 cc hl3 n12 hl0 nn hn0 nl s1 k hS hr C__law_times C__law_is_grid C__law_is_flat C__law_answer C__law_grid_by C__law_low C__law_digit C__law_big F T; omega)]
          refine comp_drawD (n := c) (l := l) (r0 := r) (Pσ := fun σ => ∃ e, σ = [e, some (.ref l)]) ⟨_, rfl⟩ (by (clear xl ook ol rx rg hO hl sO sl sm hi Ol nO sm0 sl0 vS repg gok gl hl4 but4 cc hl3 n12 hl0 nn hn0 nl s1 k hS hr C__law_times C__law_is_grid C__law_is_flat C__law_answer C__law_grid_by C__law_low C__law_digit C__law_big F T; omega)) hl (fun d => ∃ p, d = dF p ∧ (Sm p ∧ Low p)) ?_ ?_
          · rintro D j σ2 H6 r6 hD hDo b6 hl6 hj ⟨e, rfl⟩ R kR
            have a0 := Int.emod_nonneg r6 (show (25 : Int) ≠ 0 by decide)
            have a1 := Int.emod_lt_of_pos r6 (show (0 : Int) < 25 by decide)
            have b0 := Int.emod_nonneg (r6 / 25) (show (6 : Int) ≠ 0 by decide)
            have b1 := Int.emod_lt_of_pos (r6 / 25) (show (0 : Int) < 6 by decide)
            have dr := dr_nf (t := r6 % 25 - 12) (b := 1 + r6 / 25 % 6) (by (clear b1 b0 a1 kR hj hl6 b6 hDo hD xl ook ol rx rg hO hl sO sl sm hi Ol nO sm0 sl0 vS repg gok gl hl4 but4 ec cc hc0 hl3 n12 hl0 nn hn0 nl s1 k hS hr C__law_times C__law_is_grid C__law_is_flat C__law_answer C__law_grid_by C__law_low C__law_digit C__law_big F T; omega)) (by (clear b1 a1 a0 kR hj hl6 b6 hDo hD xl ook ol rx rg hO hl sO sl sm hi Ol nO sm0 sl0 vS repg gok gl hl4 but4 ec cc hc0 hl3 n12 hl0 nn hn0 nl s1 k hS hr C__law_times C__law_is_grid C__law_is_flat C__law_answer C__law_grid_by C__law_low C__law_digit C__law_big F T; omega)) (by (clear b1 a1 a0 kR hj hl6 b6 hDo hD xl ook ol rx rg hO hl sO sl sm hi Ol nO sm0 sl0 vS repg gok gl hl4 but4 ec cc hc0 hl3 n12 hl0 nn hn0 nl s1 k hS hr C__law_times C__law_is_grid C__law_is_flat C__law_answer C__law_grid_by C__law_low C__law_digit C__law_big F T; omega))
            walk_at "rd"
            refine ⟨l, r6, 25, rfl, hl6, by decide, by decide +kernel, _, rfl, l, r6 / 25, 6, rfl, upd_same, by decide, by decide +kernel, _, rfl, ?_⟩
            refine ⟨_, _, rfl, by (clear dr b1 a1 a0 kR hj hl6 b6 hDo hD xl ook ol rx rg hO hl sO sl sm hi Ol nO sm0 sl0 vS repg gok gl hl4 but4 ec cc hc0 hl3 n12 hl0 nn hn0 nl s1 k hS hr C__law_times C__law_is_grid C__law_is_flat C__law_answer C__law_grid_by C__law_low C__law_digit C__law_big F T; omega), Nat.le_trans (PyProof.Rows.bits_of_natAbs_le (b := 6) (n := 3) (by (clear dr b1 a1 a0 kR hj hl6 b6 hDo hD xl ook ol rx rg hO hl sO sl sm hi Ol nO sm0 sl0 vS repg gok gl hl4 but4 ec cc hc0 hl3 n12 hl0 nn hn0 nl s1 k hS hr C__law_times C__law_is_grid C__law_is_flat C__law_answer C__law_grid_by C__law_low C__law_digit C__law_big F T; omega)) (by decide +kernel)) (by decide), fun pz Hz sz rep => ?_⟩
            refine kR _ (.ref pz) (dF (nf (r6 % 25 - 12) (1 + r6 / 25 % 6))) (r6 / 25 / 6) Hz ⟨_, rfl⟩ (fun b o nb h => sz b o (by rw [upd_ne nb, upd_ne nb]; exact h)) (sz _ _ upd_same) (Rep.mono (fun b o h => ?_) _ rep) ⟨_, rfl, dr.sm, dr.low⟩
            obtain ⟨h1, h2⟩ := newH_of h
            have bl : b ≠ l := fun q => by rw [q, upd_same] at h1; cases h1
            rw [upd_ne bl, upd_ne bl] at h1
            rw [newH_at h1]
            exact h2
          · intro D H6 r6 ys ds hD b6 hl6 hds hpf hys hrep
            obtain ⟨ps, rfl, hps⟩ := all_dF hpf
            have Dl : D ≠ l := (ne_of_none hl hD).symm
            have DO : O ≠ D := ne_of_none hO hD
            have hO6 := b6 _ _ Ol hO
            have up : Same S (grow S H5 H6) := grow_same sm
            have sO' : grow S H5 H6 O = none := by rw [grow_old hO]; exact sO
            refine ⟨O, xs, .ref D, rfl, rfl, hO6, small1000 (by (clear sO' up hO6 DO Dl hrep hpf hds hps hys hl6 b6 hD ook rx rg hO hl sO sl sm Ol nO sm0 sl0 vS repg gok hl4 but4 ec cc hc0 hl3 hl0 nn hn0 nl s1 k hS hr C__law_times C__law_is_grid C__law_is_flat C__law_answer C__law_grid_by C__law_low C__law_digit C__law_big F T; omega)), grow S H5 H6, same_put (growB_in sm sl b6) sO', by rw [grow_old hl]; exact sl, sO', r6, by rw [upd_ne Ol.symm]; exact hl6, o ++ [ps], _, upd_same, Rep.mono up _ rg, ?_, by simp [ol], fun row hrow => ?_⟩
            · rw [List.map_append]
              refine (Reps.mono up _ rx).append ⟨_, _, rfl, ⟨D, ys, rfl, by rw [grow_at hD]; exact hys, Reps.mono (fun b z h => ?_) _ hrep⟩, rfl⟩
              obtain ⟨h0, h1, h2⟩ := cutH_of h
              rw [grow_at h1]
              exact h2
            · rcases List.mem_append.mp hrow with h | h
              · exact ook row h
              · rw [List.mem_singleton.mp h]
                exact ⟨by simpa using hds, hps⟩
        · rintro σ H5 ⟨S, r, o, xs, e6, rfl, sm, sl, sO, hl, hO, rg, rx, ol, ook⟩
          have inn : In2 g o n c := ⟨gl, n12, gok, ol, by (clear ook ol rx rg hO hl sO sl sm Ol nO sm0 sl0 vS repg gok gl hl4 but4 cc hl3 n12 hl0 nn hn0 nl s1 k hS hr C__law_times C__law_is_grid C__law_is_flat C__law_answer C__law_grid_by C__law_low C__law_digit C__law_big F T; omega), by (clear ook ol rx rg hO hl sO sl sm Ol nO sm0 sl0 vS repg gok gl hl4 but4 cc hl3 n12 hl0 nn hn0 nl s1 k hS hr C__law_times C__law_is_grid C__law_is_flat C__law_answer C__law_grid_by C__law_low C__law_digit C__law_big F T; omega), ook⟩
          obtain ⟨fl1, fl2⟩ := inn.flat
          obtain ⟨pg, xg, rfl, hpg, hxg⟩ := id rg
          have rg5 := Rep.mono sm _ rg
          have rO5 : Rep H5 (.ref O) (.lst (o.map dRow)) := ⟨O, xs, rfl, hO, Reps.mono sm _ rx⟩
          walk_at "rd"
          refine ⟨⟨xg, .inl (.inl (sm _ _ hpg))⟩, comp_copy (sm _ _ hpg) (Reps.mono sm _ hxg) (by (clear rO5 rg5 hxg hpg rg vS repg fl2 fl1 inn ook rx hO hl sO sl sm Ol nO sm0 sl0 gok hl4 but4 ec cc hc0 hl3 hl0 nn hn0 nl s1 k hS hr C__law_times C__law_is_grid C__law_is_flat C__law_answer C__law_grid_by C__law_low C__law_digit C__law_big F T; omega)) rfl rfl ⟨_, rfl⟩ fun D1 H6 nD1 s6 rep1 => ⟨⟨xs, .inl (.inl (s6 _ _ hO))⟩, comp_copy (s6 _ _ hO) (Reps.mono (sm.trans s6) _ rx) (by (clear rep1 s6 nD1 rO5 rg5 hxg hpg rg vS repg fl2 fl1 inn ook rx hO hl sO sl sm Ol nO sm0 sl0 gok hl4 but4 ec cc hc0 hl3 hl0 nn hn0 nl s1 k hS hr C__law_times C__law_is_grid C__law_is_flat C__law_answer C__law_grid_by C__law_low C__law_digit C__law_big F T; omega)) rfl rfl ⟨_, rfl⟩ fun D2 H7 nD2 s7 rep2 => ⟨by decide, fun hd nhd => ?_⟩⟩⟩
          have s8 : Same H7 (upd H7 hd (HO.tup [.ref D1, .ref D2])) := Same.new nhd
          have hhd := upd_same (H := H7) (a := hd) (o := HO.tup [.ref D1, .ref D2])
          have repH : Rep (upd H7 hd (HO.tup [.ref D1, .ref D2])) (.ref hd) (.tup [.lst (g.map dRow), .lst (o.map dRow)]) := ⟨hd, _, rfl, hhd, _, _, rfl, Rep.mono (s7.trans s8) _ rep1, _, _, rfl, Rep.mono s8 _ rep2, rfl⟩
          generalize upd H7 hd (HO.tup [.ref D1, .ref D2]) = H8 at *
          have s58 := (s6.trans s7).trans s8
          have dpt : dep (.tup [.lst (g.map dRow), .lst (o.map dRow)]) ≤ 60 := by
            have a := dep_grid g
            have b := dep_grid o
            simp only [dep, deps] at a b ⊢
            (clear s58 repH hhd s8 nhd rep2 s7 nD2 rep1 s6 nD1 rO5 rg5 hxg hpg rg vS repg fl2 fl1 inn ook ol rx hO hl sO sl sm Ol nO sm0 sl0 gok gl hl4 but4 ec cc hc0 hl3 n12 hl0 nn hn0 nl s1 k hS hr C__law_times C__law_is_grid C__law_is_flat C__law_answer C__law_grid_by C__law_low C__law_digit C__law_big F T; omega)
          refine ⟨.ref D1, .ref D2, g, o, n, c, rfl, Rep.mono (s7.trans s8) _ rep1, Rep.mono s8 _ rep2, inn.in, ?_⟩
          by_cases hc : 0 < n ∧ D n (ma (nums g)) = 0
          · refine .inr ⟨hc.1, hc.2, fun z H9 s9 hz => ?_⟩
            refine ⟨z, rfl, [.non, .bl true], .inl (.inl hz), rfl, _, _, rfl, _, _, rfl, rfl, true, rfl, ?_⟩
            rw [if_neg (by decide)]
            refine ⟨by decide, fun t nt => ?_⟩
            have s10 := Same.new nt (o := HO.tup [V.ref pg, V.ref O])
            have s50 := (s58.trans s9).trans s10
            refine ⟨hd, t, .tup [.lst (g.map dRow), .lst (o.map dRow)], .tup [.lst (g.map dRow), .lst (o.map dRow)], true, rfl, rfl, Rep.mono (s9.trans s10) _ repH, ⟨t, _, rfl, upd_same, _, _, rfl, Rep.mono s50 _ rg5, _, _, rfl, Rep.mono s50 _ rO5, rfl⟩, deq_refl _, dpt, _, rfl, ?_⟩
            rw [if_neg (by decide)]
            try walk_at "rd"
            refine ⟨_, g, n, 1044, ma (nums g), _, rfl, Rep.mono s50 _ rg5, n12, by (clear s50 s10 nt hz s9 hc dpt s58 repH hhd s8 nhd rep2 s7 nD2 rep1 s6 nD1 rO5 rg5 hxg hpg rg vS repg fl2 fl1 inn ook ol rx hO hl sO sl sm Ol nO sm0 sl0 gok gl hl4 but4 ec cc hc0 hl3 n12 hl0 nn hn0 nl s1 k hS hr C__law_times C__law_is_grid C__law_is_flat C__law_answer C__law_grid_by C__law_low C__law_digit C__law_big F T; omega), fl1, fl2, fun H11 s11 => ?_⟩
            rw [decide_eq_true hc.2]
            exact k _
          · have hd0 : 0 < n → D n (ma (nums g)) ≠ 0 := fun h z => hc ⟨h, z⟩
            have nz : ¬ D n (ma (nums g)) = 0 := fun z => by
              by_cases h : 0 < n
              · exact hd0 h z
              · obtain rfl : n = 0 := by (clear z hd0 hc dpt s58 repH hhd s8 nhd rep2 s7 nD2 rep1 s6 nD1 rO5 rg5 hxg hpg rg vS repg fl2 fl1 inn ook rx hO hl sO sl sm Ol nO sm0 sl0 gok hl4 but4 ec cc hc0 hl3 hl0 nn hn0 nl s1 k hS hr C__law_times C__law_is_grid C__law_is_flat C__law_answer C__law_grid_by C__law_low C__law_digit C__law_big F T; omega)
                exact absurd z (by show ¬ (1 : Int) = 0; decide)
            refine .inl ⟨hd0, fun z x H9 s9 hz repx fin => ?_⟩
            obtain ⟨pr, xok⟩ := inn.sol hd0 fin
            obtain ⟨px, xx, rfl, hpx, hxx⟩ := id repx
            refine ⟨z, rfl, [.ref px, .bl true], .inl (.inl hz), rfl, _, _, rfl, _, _, rfl, rfl, true, rfl, ?_⟩
            rw [if_neg (by decide)]
            refine ⟨by decide, fun t nt => ?_⟩
            have s10 := Same.new nt (o := HO.tup [V.ref pg, V.ref O])
            have s50 := (s58.trans s9).trans s10
            refine ⟨hd, t, .tup [.lst (g.map dRow), .lst (o.map dRow)], .tup [.lst (g.map dRow), .lst (o.map dRow)], true, rfl, rfl, Rep.mono (s9.trans s10) _ repH, ⟨t, _, rfl, upd_same, _, _, rfl, Rep.mono s50 _ rg5, _, _, rfl, Rep.mono s50 _ rO5, rfl⟩, deq_refl _, dpt, _, rfl, ?_⟩
            rw [if_neg (by decide)]
            try walk_at "rd"
            refine ⟨_, solP g o, n, c, rfl, Rep.mono s10 _ repx, pr.xl, xok, fun H11 s11 => ⟨_, rfl, ?_⟩⟩
            rw [if_pos rfl]
            have s51 := s50.trans s11
            refine ⟨_, _, g, solP g o, o, n, c, _, _, _, _, _, _, rfl, Rep.mono s51 _ rg5, Rep.mono (s10.trans s11) _ repx, pr, fun y H12 s12 repy => ?_⟩
            obtain ⟨py, yy, rfl, hpy, hyy⟩ := id repy
            have s52 := s51.trans s12
            refine ⟨py, O, .lst (o.map dRow), .lst (o.map dRow), true, rfl, rfl, repy, Rep.mono s52 _ rO5, deq_refl _, by have := dep_grid o; (clear s52 hyy hpy repy s12 s51 s11 s50 s10 nt hxx hpx repx hz xok pr fin s9 nz hd0 hc dpt s58 repH hhd s8 nhd rep2 s7 nD2 rep1 s6 nD1 rO5 rg5 hxg hpg rg vS repg fl2 fl1 inn ook ol rx hO hl sO sl sm Ol nO sm0 sl0 gok gl hl4 but4 ec cc hc0 hl3 n12 hl0 nn hn0 nl s1 k hS hr C__law_times C__law_is_grid C__law_is_flat C__law_answer C__law_grid_by C__law_low C__law_digit C__law_big F T; omega), _, rfl, ?_⟩
            rw [if_pos rfl]
            refine ⟨_, g, n, 1044, ma (nums g), _, rfl, Rep.mono s52 _ rg5, n12, by (clear s52 hyy hpy repy s12 s51 s11 s50 s10 nt hxx hpx repx hz xok pr fin s9 nz hd0 hc dpt s58 repH hhd s8 nhd rep2 s7 nD2 rep1 s6 nD1 rO5 rg5 hxg hpg rg vS repg fl2 fl1 inn ook ol rx hO hl sO sl sm Ol nO sm0 sl0 gok gl hl4 but4 ec cc hc0 hl3 n12 hl0 nn hn0 nl s1 k hS hr C__law_times C__law_is_grid C__law_is_flat C__law_answer C__law_grid_by C__law_low C__law_digit C__law_big F T; omega), fl1, fl2, fun H13 s13 => ⟨_, rfl, ?_⟩⟩
            rw [decide_eq_false nz]
            exact k _
end Rim5
set_option Elab.async false
set_option linter.all false
set_option maxRecDepth 100000
set_option maxHeartbeats 4000000
namespace Rim5
open PySem PySem.Spec PyProof.Rows L2 RimM RimD
variable {CR CA CN CP CW : Addr}
theorem cl_of {K : PySem.W.Frag} {C : Addr} (h : PySem.W.hasDictIn K C = true) : (PySem.W.clsIn K C).isSome = true := by
  unfold PySem.W.hasDictIn at h
  cases e : PySem.W.clsIn K C with
  | none => rw [e] at h; cases h
  | some c => rfl
theorem all_mk {l : PySem.W.OpenLaw} {w : World} {K : PySem.W.Frag} {mg : Str → Option Value} {fa : Addr} (hfa : mg "law" = some (.ref fa)) (T : Txt K mg) (EX : Exs K mg CR CA CN CP CW) (F_greatest_divisor : Fn0 K mg "greatest_divisor" s_greatest_divisor) (F_fraction : Fn0 K mg "fraction" s_fraction) (F_common_bottom : Fn0 K mg "common_bottom" s_common_bottom) (F_columns_of : Fn0 K mg "columns_of" s_columns_of) (F_cleared : Fn0 K mg "cleared" s_cleared) (F_with_pivot : Fn0 K mg "with_pivot" s_with_pivot) (F_lessened : Fn0 K mg "lessened" s_lessened) (F_swept : Fn0 K mg "swept" s_swept) (F_cleared_together : Fn0 K mg "cleared_together" s_cleared_together) (F_solved : Fn0 K mg "solved" s_solved) (F__law_cell_at : Fn0 K mg "_law_cell_at" s__law_cell_at) (F__law_big : Fn0 K mg "_law_big" s__law_big) (F__law_low : Fn0 K mg "_law_low" s__law_low) (F__law_add : Fn0 K mg "_law_add" s__law_add) (F__law_mul : Fn0 K mg "_law_mul" s__law_mul) (F__law_less : Fn0 K mg "_law_less" s__law_less) (F__law_whole : Fn0 K mg "_law_whole" s__law_whole) (F__law_digit : Fn0 K mg "_law_digit" s__law_digit) (F__law_is_fraction : Fn0 K mg "_law_is_fraction" s__law_is_fraction) (F__law_is_grid : Fn0 K mg "_law_is_grid" s__law_is_grid) (F__law_times : Fn0 K mg "_law_times" s__law_times) (F__law_is_flat : Fn0 K mg "_law_is_flat" s__law_is_flat) (F__law_grid_by : Fn0 K mg "_law_grid_by" s__law_grid_by) (F__law_answer : Fn0 K mg "_law_answer" s__law_answer) (F_law : Fn0 K mg "law" s_law) :
    ∃ fd : FuncData, (∀ (s : Shared) (v : Value), BindsTo s fd ⟨[v], []⟩ [("_law_script", v)]) ∧ ∀ base : Heap, K.In base → base.Ns mainGlobals mg → FnOk l.prog w K mg base CX0 7 fa fd ["_law_script"] (sp_law K) := by
  obtain ⟨f, fd, FL, m⟩ := F_law
  have e := hfa.symm.trans m
  cases e
  refine ⟨fd, ?_, fun base _ _ => ?_⟩
  · obtain ⟨oc, od, kV, doc, pm, an, cdv, ct, osl, rfl, lk, hcd⟩ := FL.ex
    exact fun s v => .of_eq rfl
  · have c1 := ok_greatest_divisor (P := l.prog) (w := w) (base := base) T F_greatest_divisor
    have c2 := ok_fraction T F_fraction c1
    have c3 := ok_common_bottom T F_common_bottom c1
    have c4 := ok_cleared T F_cleared c3
    have c5 := ok_with_pivot (P := l.prog) (w := w) (base := base) T F_with_pivot
    have c6 := ok_lessened (P := l.prog) (w := w) (base := base) T F_lessened
    have c7 := ok_swept T F_swept c5 c6
    have c8 := ok_columns_of (P := l.prog) (w := w) (base := base) T F_columns_of
    have c9 := ok_cleared_together T F_cleared_together c4
    have c10 := ok_solved T F_solved c8 c4 c9 c7 c2
    have r10 := rok_solved T EX F_solved c8 c4 c9 c7
    have d1 := ok__law_cell_at (P := l.prog) (w := w) (base := base) T F__law_cell_at
    have d2 := ok__law_big T F__law_big d1
    have d3 := ok__law_low (P := l.prog) (w := w) (base := base) T F__law_low
    have d4 := ok__law_digit (P := l.prog) (w := w) (base := base) T F__law_digit
    have d5 := ok__law_add T F__law_add d3
    have d6 := ok__law_mul T F__law_mul d3
    have d7 := ok__law_less T F__law_less d3
    have d8 := ok__law_whole (P := l.prog) (w := w) (base := base) T F__law_whole
    have d9 := ok__law_is_fraction T F__law_is_fraction d8 d3
    have d10 := ok__law_is_grid T F__law_is_grid d9
    have d11 := ok__law_times T F__law_times d5 d6
    have d12 := ok__law_is_flat T F__law_is_flat d7 d6
    have d13 := ok__law_grid_by T F__law_grid_by d4 d3 d5
    have d14 := ok__law_answer T EX F__law_answer c10 r10
    exact ok_law T FL d2 d4 d3 d13 d14 d12 d10 d11
theorem walk {l : PySem.W.OpenLaw} {q : Program} {loose : List Str} {XP : (Str → Option Value) → Heap → Prop} {YP : World → Heap → Prop} {d : DefRec} {K : Params → PySem.W.Frag} (hn : l.most = some 63) (hdf : d.params.defaults = [])
    (hY : ∀ (w : World) (h : Heap), YP w h → (K w.params).In h)
    (F : ∀ (w : World) (mg : Str → Option Value) (fa : Addr) (h : Heap), (K w.params).In h → h.Ns mainGlobals mg → mg d.name = some (.ref fa) →
      ∃ fd : FuncData, (∀ (s : Shared) (u : Value), BindsTo s fd ⟨[u], []⟩ [("_law_script", u)]) ∧ ∀ base : Heap, (K w.params).In base → base.Ns mainGlobals mg → FnOk l.prog w (K w.params) mg base CX0 7 fa fd ["_law_script"] (sp_law (K w.params))) :
    PySem.W.WalkO q loose XP YP l.row.toRowW d [] (fun f vs => PySem.call f vs) :=
  L2.walk_of (n := 63) (k := 7) (x := "_law_script") (CX := fun _ => CX0) (sp := fun w => sp_law (K w.params)) hn (by decide) hdf ⟨rfl, by decide, by decide⟩ hY F (fun _ _ a ns hl _ hS => ⟨a, ns, rfl, hS, fun _ => rfl⟩) fun _ _ _ _ _ z => z
end Rim5
open PySem PySem.W PyProof.Rows
set_option maxRecDepth 100000 in
set_option maxHeartbeats 0 in
theorem PySem.Challenge.cw_rimread_k05_solved_holds : PySem.Challenge.rw_rimread_k05_solved.Holds := by
  w_on; o_law; k_head; (case hw => w_witness2)
  k_fill
  refine Rim5.walk (l := PySem.Challenge.rw_rimread_k05_solved) rfl rfl (fun w h Y => PySem.W.kIn_of Y) ?F
  case F =>
    intro w mg fa h KX G hmg
    refine' Rim5.all_mk (CR := ?CR) (CA := ?CA) (CN := ?CN) (CP := ?CP) (CW := ?CW) hmg ⟨?n_max, ?n_min, ?n_abs, ?n_len, ?n_range, ?n_list, ?n_zip, ?n_isinstance, ?n_int, ?n_bool, ?n_tuple, ?n_ValueError, ?c1⟩ ⟨?m1, ?m2, ?m3, ?m4, ?m5, L2.exC_of ?x1, ⟨?x2, Rim5.cl_of ?x3, ?x4⟩, ?x5, ⟨Rim5.cl_of ?y1, ?y2, ?y3, ?y4, ?y5, ?y6, ?y7, ?y8⟩, ?x6, ?x7, ?x8⟩ ?f_greatest_divisor ?f_fraction ?f_common_bottom ?f_columns_of ?f_cleared ?f_with_pivot ?f_lessened ?f_swept ?f_cleared_together ?f_solved ?f__law_cell_at ?f__law_big ?f__law_low ?f__law_add ?f__law_mul ?f__law_less ?f__law_whole ?f__law_digit ?f__law_is_fraction ?f__law_is_grid ?f__law_times ?f__law_is_flat ?f__law_grid_by ?f__law_answer ?f_law
    case c1 => refine' L2.mg_int KX G ?a; (case a => k_is)
    case m1 => refine' PySem.W.mg_of KX G ?a; (case a => k_is)
    case m2 => refine' PySem.W.mg_of KX G ?a; (case a => k_is)
    case m3 => refine' PySem.W.mg_of KX G ?a; (case a => k_is)
    case m4 => refine' PySem.W.mg_of KX G ?a; (case a => k_is)
    case m5 => refine' PySem.W.mg_of KX G ?a; (case a => k_is)
    case x1 => k_exc
    case x2 => k_is
    case x3 => k_is
    case x4 => k_is
    case x5 => k_is
    case y1 => k_is
    case y2 => k_is
    case y3 => k_is
    case y4 => k_is
    case y5 => k_is
    case y6 => k_is
    case y7 => k_is
    case y8 => k_is
    case x6 => kit_is
    case x7 => kit_is
    case x8 => kit_is
    case n_max => refine' PySem.W.mg_none_of KX G ?a; (case a => k_is)
    case n_min => refine' PySem.W.mg_none_of KX G ?a; (case a => k_is)
    case n_abs => refine' PySem.W.mg_none_of KX G ?a; (case a => k_is)
    case n_len => refine' PySem.W.mg_none_of KX G ?a; (case a => k_is)
    case n_range => refine' PySem.W.mg_none_of KX G ?a; (case a => k_is)
    case n_list => refine' PySem.W.mg_none_of KX G ?a; (case a => k_is)
    case n_zip => refine' PySem.W.mg_none_of KX G ?a; (case a => k_is)
    case n_isinstance => refine' PySem.W.mg_none_of KX G ?a; (case a => k_is)
    case n_int => refine' PySem.W.mg_none_of KX G ?a; (case a => k_is)
    case n_bool => refine' PySem.W.mg_none_of KX G ?a; (case a => k_is)
    case n_tuple => refine' PySem.W.mg_none_of KX G ?a; (case a => k_is)
    case n_ValueError => refine' PySem.W.mg_none_of KX G ?a; (case a => k_is)
    case f_greatest_divisor => refine' L2.fn0_mk KX G ?a ?l ?c ?k; (case a => k_is); (case l => k_is); (case c => k_is); (case k => k_is)
    case f_fraction => refine' L2.fn0_mk KX G ?a ?l ?c ?k; (case a => k_is); (case l => k_is); (case c => k_is); (case k => k_is)
    case f_common_bottom => refine' L2.fn0_mk KX G ?a ?l ?c ?k; (case a => k_is); (case l => k_is); (case c => k_is); (case k => k_is)
    case f_columns_of => refine' L2.fn0_mk KX G ?a ?l ?c ?k; (case a => k_is); (case l => k_is); (case c => k_is); (case k => k_is)
    case f_cleared => refine' L2.fn0_mk KX G ?a ?l ?c ?k; (case a => k_is); (case l => k_is); (case c => k_is); (case k => k_is)
    case f_with_pivot => refine' L2.fn0_mk KX G ?a ?l ?c ?k; (case a => k_is); (case l => k_is); (case c => k_is); (case k => k_is)
    case f_lessened => refine' L2.fn0_mk KX G ?a ?l ?c ?k; (case a => k_is); (case l => k_is); (case c => k_is); (case k => k_is)
    case f_swept => refine' L2.fn0_mk KX G ?a ?l ?c ?k; (case a => k_is); (case l => k_is); (case c => k_is); (case k => k_is)
    case f_cleared_together => refine' L2.fn0_mk KX G ?a ?l ?c ?k; (case a => k_is); (case l => k_is); (case c => k_is); (case k => k_is)
    case f_solved => refine' L2.fn0_mk KX G ?a ?l ?c ?k; (case a => k_is); (case l => k_is); (case c => k_is); (case k => k_is)
    case f__law_cell_at => refine' L2.fn0_mk KX G ?a ?l ?c ?k; (case a => k_is); (case l => k_is); (case c => k_is); (case k => k_is)
    case f__law_big => refine' L2.fn0_mk KX G ?a ?l ?c ?k; (case a => k_is); (case l => k_is); (case c => k_is); (case k => k_is)
    case f__law_low => refine' L2.fn0_mk KX G ?a ?l ?c ?k; (case a => k_is); (case l => k_is); (case c => k_is); (case k => k_is)
    case f__law_add => refine' L2.fn0_mk KX G ?a ?l ?c ?k; (case a => k_is); (case l => k_is); (case c => k_is); (case k => k_is)
    case f__law_mul => refine' L2.fn0_mk KX G ?a ?l ?c ?k; (case a => k_is); (case l => k_is); (case c => k_is); (case k => k_is)
    case f__law_less => refine' L2.fn0_mk KX G ?a ?l ?c ?k; (case a => k_is); (case l => k_is); (case c => k_is); (case k => k_is)
    case f__law_whole => refine' L2.fn0_mk KX G ?a ?l ?c ?k; (case a => k_is); (case l => k_is); (case c => k_is); (case k => k_is)
    case f__law_digit => refine' L2.fn0_mk KX G ?a ?l ?c ?k; (case a => k_is); (case l => k_is); (case c => k_is); (case k => k_is)
    case f__law_is_fraction => refine' L2.fn0_mk KX G ?a ?l ?c ?k; (case a => k_is); (case l => k_is); (case c => k_is); (case k => k_is)
    case f__law_is_grid => refine' L2.fn0_mk KX G ?a ?l ?c ?k; (case a => k_is); (case l => k_is); (case c => k_is); (case k => k_is)
    case f__law_times => refine' L2.fn0_mk KX G ?a ?l ?c ?k; (case a => k_is); (case l => k_is); (case c => k_is); (case k => k_is)
    case f__law_is_flat => refine' L2.fn0_mk KX G ?a ?l ?c ?k; (case a => k_is); (case l => k_is); (case c => k_is); (case k => k_is)
    case f__law_grid_by => refine' L2.fn0_mk KX G ?a ?l ?c ?k; (case a => k_is); (case l => k_is); (case c => k_is); (case k => k_is)
    case f__law_answer => refine' L2.fn0_mk KX G ?a ?l ?c ?k; (case a => k_is); (case l => k_is); (case c => k_is); (case k => k_is)
    case f_law => refine' L2.fn0_mk KX G ?a ?l ?c ?k; (case a => k_is); (case l => k_is); (case c => k_is); (case k => k_is)
