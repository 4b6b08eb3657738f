import PyProof.Rows.All
import Wide.All
import OpenK.AllK
import Wide.FinOn
import Lean
import PyProof.EqAt
import PyProof.EqKinds
import PyProof.TupleCall
import PySem.Challenge.RW_rimread_k75_texts_judged
set_option Elab.async false
set_option linter.all false
set_option maxRecDepth 100000
set_option maxHeartbeats 4000000
namespace L2
open PySem PySem.Spec PyProof.Rows
abbrev Key := Sum Int Str
def keyIs : Key → Value → Bool
 | .inl k, v => Value.isInt k v
 | .inr x, v => Value.isStrOf x v
def keyH (w : World) : Key → Int
 | .inl k => hashInt k
 | .inr x => hashStr w x
theorem bb_ : ∀ {k : Key} {v : Value}, keyIs k v = true → (∃ i t, k = Sum.inl i ∧ v = Value.int i t) ∨ (∃ x t, k = Sum.inr x ∧ v = Value.str x t)
 | .inl i, v, h => by
  obtain ⟨t, e⟩ := Value.isInt_shape (k := i) (v := v) h
  exact .inl ⟨i, t, rfl, e⟩
 | .inr x, v, h => by
  obtain ⟨t, e⟩ := Value.isStrOf_shape (x := x) (v := v) h
  exact .inr ⟨x, t, rfl, e⟩
theorem ll_ (i : Int) (t : Tok) : keyIs (.inl i) (.int i t) = true := by simp [keyIs, Value.isInt]
theorem lm_ (x : Str) (t : Tok) : keyIs (.inr x) (.str x t) = true := by simp [keyIs, Value.isStrOf]
theorem oJ_ (a b : Int) : decide ((Sum.inl a : Key) = Sum.inl b) = (a == b) := by
 by_cases e : a = b
 ·subst e; simp
 ·have h : ¬ (Sum.inl a : Key) = Sum.inl b := fun q => e (Sum.inl.inj q)
  rw [decide_eq_false h]
  exact (beq_eq_false_iff_ne.mpr e).symm
theorem oK_ (a b : Str) : decide ((Sum.inr a : Key) = Sum.inr b) = decide (a = b) := by
 by_cases e : a = b
 ·subst e; simp
 ·have h : ¬ (Sum.inr a : Key) = Sum.inr b := fun q => e (Sum.inr.inj q)
  rw [decide_eq_false h, decide_eq_false e]
theorem oL_ (a : Int) (b : Str) : decide ((Sum.inl a : Key) = Sum.inr b) = false := decide_eq_false (fun q => nomatch q)
theorem oM_ (a : Str) (b : Int) : decide ((Sum.inr a : Key) = Sum.inl b) = false := decide_eq_false (fun q => nomatch q)
def mixKind (prog : Program) (w : World) : PySem.KeyKind prog w Key where
 is := keyIs
 hash := keyH w
 inj := fun v a b ha hb => by
  rcases bb_ ha with ⟨i, t, rfl, rfl⟩ | ⟨x, t, rfl, rfl⟩
  ·rcases bb_ hb with ⟨j, u, rfl, e⟩ | ⟨y, u, rfl, e⟩
   ·injection e with e1 _; rw [e1]
   ·exact nomatch e
  ·rcases bb_ hb with ⟨j, u, rfl, e⟩ | ⟨y, u, rfl, e⟩
   ·exact nomatch e
   ·injection e with e1 _; rw [e1]
 byValue := fun k v h => by
  rcases bb_ h with ⟨i, t, rfl, rfl⟩ | ⟨x, t, rfl, rfl⟩ <;> rfl
 pyHash := fun hv h => by
  rcases bb_ hv with ⟨i, t, rfl, rfl⟩ | ⟨x, t, rfl, rfl⟩
  ·exact wpAny_pyHash_int h
  ·exact wpAny_pyHash_str h
 eqBool := fun hu hv h => by
  rcases bb_ hu with ⟨i, t, rfl, rfl⟩ | ⟨x, t, rfl, rfl⟩
  ·rcases bb_ hv with ⟨j, u, rfl, rfl⟩ | ⟨y, u, rfl, rfl⟩
   ·rw [oJ_] at h; exact wpAny_eqBool_int h
   ·rw [oL_] at h; exact SeqAt.EqAt.int_str i t y u _ _ _ _ h
  ·rcases bb_ hv with ⟨j, u, rfl, rfl⟩ | ⟨y, u, rfl, rfl⟩
   ·rw [oM_] at h; exact SeqAt.EqAt.str_int x t j u _ _ _ _ h
   ·rw [oK_] at h; exact wpAny_eqBool_str h
 «strs» := fun k x t v h => by
  rcases bb_ h with ⟨i, u, rfl, e⟩ | ⟨y, u, rfl, e⟩
  ·exact nomatch e
  ·injection e with e1 _
   subst e1
   cases v <;> rfl
theorem jt_ (prog : Program) (w : World) (i : Int) (t : Tok) : (mixKind prog w).is (.inl i) (.int i t) = true := ll_ i t
theorem ju_ (prog : Program) (w : World) (x : Str) (t : Tok) : (mixKind prog w).is (.inr x) (.str x t) = true := lm_ x t
end L2
namespace L2
open PySem PySem.Spec PyProof.Rows
inductive V where
 | non | bl (b : Bool) | int (i : Int) | str (x : Str) | byt (b : Array UInt8) | flt (b : UInt64) | ref (a : Addr) | ty (n : String)
 deriving DecidableEq
def RelV : V → Value → Prop
 | .non, u => u = Value.none
 | .bl b, u => u = Value.bool b
 | .int i, u => ∃ t, u = Value.int i t
 | .str x, u => ∃ t, u = Value.str x t
 | .byt b, u => ∃ t, u = Value.bytes b t
 | .flt b, u => ∃ t, u = Value.float b t
 | .ref a, u => u = Value.ref a
 | .ty n, u => u = Value.type n
abbrev Vals : List V → List Value → Prop := Paired RelV
theorem Vals.length {xs : List V} {us : List Value} (r : Vals xs us) : xs.length = us.length := Paired.length r
theorem Vals.get : ∀ {xs : List V} {us : List Value} {i : Nat} {x : V}, Vals xs us → xs[i]? = some x → ∃ u, us[i]? = some u ∧ RelV x u
 | _, _, _, _, .nil, e => by simp at e
 | _, _, 0, _, .cons r _, e => by simp at e; subst e; exact ⟨_, rfl, r⟩
 | _, _, i + 1, x, .cons _ t, e => by
  obtain ⟨u, h1, h2⟩ := Vals.get (i := i) (x := x) t (by simpa using e)
  exact ⟨u, by simpa using h1, h2⟩
theorem Vals.set {x : V} {u : Value} (r : RelV x u) : ∀ {xs : List V} {us : List Value} (i : Nat), Vals xs us → Vals (xs.set i x) (us.set i u)
 | _, _, _, .nil => .nil
 | _, _, 0, .cons _ t => .cons r t
 | _, _, i + 1, .cons q t => .cons q (Vals.set r i t)
theorem Vals.append : ∀ {xs ys : List V} {us ws : List Value}, Vals xs us → Vals ys ws → Vals (xs ++ ys) (us ++ ws)
 | _, _, _, _, .nil, s => s
 | _, _, _, _, .cons r t, s => .cons r (Vals.append t s)
theorem Vals.take : ∀ {xs : List V} {us : List Value} (n : Nat), Vals xs us → Vals (xs.take n) (us.take n)
 | _, _, 0, _ => .nil
 | _, _, _ + 1, .nil => .nil
 | _, _, n + 1, .cons r t => .cons r (Vals.take n t)
theorem Vals.drop : ∀ {xs : List V} {us : List Value} (n : Nat), Vals xs us → Vals (xs.drop n) (us.drop n)
 | _, _, 0, r => r
 | _, _, _ + 1, .nil => .nil
 | _, _, n + 1, .cons _ t => Vals.drop n t
def RelO : Option V → Option Value → Prop
 | some v, some u => RelV v u
 | none, none => True
 | _, _ => False
def KV {κ : Type} : List (κ × V) → List (κ × Value) → Prop := Paired fun (p : κ × V) (q : κ × Value) => p.1 = q.1 ∧ RelV p.2 q.2
def kV : Key → V
 | .inl i => .int i
 | .inr x => .str x
inductive HO where
 | lst (xs : List V)
 | tup (xs : List V)
 | dK (kvs : List (Key × V)) | dT (kvs : List (List Key × V))
 | set (S : Int → Bool) (n : Nat)
 | ins (C dx : Addr) (fs : List (Str × V))
 | own (x : Addr)
 | xd (fs : List (Str × V))
 | met (f x : Addr)
 | rng (lo hi : Int)
 | frz (o : Obj) (u : HO)
 | tbl (ps : Array Value)
 | ext (φ : Heap → Prop)
abbrev Hp := Addr → Option HO
def upd (H : Hp) (a : Addr) (o : HO) : Hp := fun b => if b = a then some o else H b
theorem ad_ {H : Hp} {a : Addr} {o : HO} : upd H a o a = some o := by unfold upd; rw [if_pos rfl]
theorem ai_ {H : Hp} {a b : Addr} {o : HO} (h : b ≠ a) : upd H a o b = H b := by unfold upd; rw [if_neg h]
theorem nY_ {H : Hp} {a : Addr} {o u : HO} : upd (upd H a o) a u = upd H a u := by
 funext b; unfold upd; split <;> rfl
theorem ne_of {H : Hp} {a b : Addr} {o u : HO} (h : H a = some o) (h' : H b = some u) (d : o ≠ u) : a ≠ b := by
 intro e; subst e; rw [h] at h'; exact d (Option.some.inj h')
theorem ag_ {H : Hp} {a b : Addr} {o : HO} (h : H a = some o) (h' : H b = none) : a ≠ b := by
 intro e; subst e; rw [h] at h'; cases h'
section
variable (P : Program) (w : World)
def ObjOk (H : Hp) (h : Heap) (a : Addr) : HO → Prop
 | .lst xs => xs.length ≤ sizeLine ∧ ∃ (its : List Value) (n : Nat), Vals xs its ∧ h.get? a = some { cls := .type "list", data := .seq its.toArray n }
 | .tup xs => xs.length ≤ sizeLine ∧ ∃ its : List Value, Vals xs its ∧ IsTup h a its.toArray
 | .dK kvs => kvs.length ≤ sizeLine ∧ (a == sysModules) = false ∧ ∃ vs, KV kvs vs ∧ h.DictOf (mixKind P w) a vs
 | .dT kvs => kvs.length ≤ sizeLine ∧ (a == sysModules) = false ∧ ∃ xs : List (List Key × Addr × Value),
   Paired (fun (p : List Key × V) (q : List Key × Addr × Value) => p.1 = q.1 ∧ H q.2.1 = some (.tup (p.1.map kV)) ∧ RelV p.2 q.2.2) kvs xs ∧
   ∃ o es ep, h.get? a = some o ∧ o.ExactDict ∧ o.data = .dict es ep ∧ es.toList = xs.map (entryOfKey (tupleKind (mixKind P w))) ∧ (xs.map (·.1)).Nodup
 | .set S n => h.SetOf (intKind P w) a S n
 | .ins C dx fs => H dx = some (.own a) ∧ fs.length ≤ 1000 ∧ dx ≠ a ∧ h.get? a = some (PySem.W.instObj C dx) ∧
   ∃ mA, h.Ns1 dx mA ∧ (∀ f, RelO (fs.lookup f) (mA f)) ∧ PySem.Within mA (fs.map (·.1))
 | .own _ => ∃ o, h.get? a = some o
 | .xd fs => ∃ mA, h.Ns1 a mA ∧ ∀ f, RelO (fs.lookup f) (mA f)
 | .rng lo hi => ∃ t u v, h.get? a = some { cls := .type "range", data := .fields #[.int lo t, .int hi u, .int 1 v] }
 | .frz o u => h.get? a = some o ∧ ObjOk H h a u
 | .tbl ps => h.get? a = some { cls := .none, data := .fields ps }
 | .met f x => h.get? a = some (PySem.W.methodObj (.ref f) (.ref x))
 | .ext φ => φ h ∧ (∃ o, h.get? a = some o) ∧ ∀ h1 h2 : Heap, φ h1 → (∀ o, h1.get? a = some o → h2.get? a = some o) → φ h2
def HOk (H : Hp) (h : Heap) : Prop := ∀ a o, H a = some o → ObjOk P w H h a o
end
section
variable {P : Program} {w : World} {H H' : Hp} {h h' : Heap} {a : Addr} {o : HO}
theorem ObjOk.lt (x : ObjOk P w H h a o) : a < h.objs.size := by
 cases o with
 | lst xs => obtain ⟨_, _, _, _, e⟩ := x; exact Heap.lt_size e
 | tup xs => obtain ⟨_, _, _, p⟩ := x; exact p.lt
 | dK kvs => obtain ⟨_, _, _, _, o, _, _, e, _⟩ := x; exact Heap.lt_size e
 | dT kvs => obtain ⟨_, _, _, _, o, _, _, e, _⟩ := x; exact Heap.lt_size e
 | set S n => obtain ⟨o, _, _, _, e, _⟩ := x; exact Heap.lt_size e
 | ins C dx fs => obtain ⟨_, _, _, e, _⟩ := x; exact Heap.lt_size e
 | own y => obtain ⟨_, e⟩ := x; exact Heap.lt_size e
 | xd fs => obtain ⟨_, ⟨_, _, _, e, _⟩, _⟩ := x; exact Heap.lt_size e
 | rng lo hi => obtain ⟨_, _, _, e⟩ := x; exact Heap.lt_size e
 | frz ob u => obtain ⟨e, _⟩ := x; exact Heap.lt_size e
 | tbl ps => exact Heap.lt_size (show h.get? a = some _ from x)
 | met f y => exact Heap.lt_size (show h.get? a = some _ from x)
 | ext φ => obtain ⟨_, ⟨_, e⟩, _⟩ := x; exact Heap.lt_size e
theorem Paired.mapP {α β : Type} {F G : α → β → Prop} : ∀ {l₁ : List α} {l₂ : List β}, Paired F l₁ l₂ → (∀ a b, F a b → G a b) → Paired G l₁ l₂
 | _, _, .nil, _ => .nil
 | _, _, .cons r t, f => .cons (f _ _ r) (Paired.mapP t f)
theorem ObjOk.stay (x : ObjOk P w H h a o) (k : ∀ b u, (b = a ∨ H b = some (.own a)) → h.get? b = some u → h'.get? b = some u)
  (ho : ∀ b, H b = some (.own a) → H' b = some (.own a)) (ht : ∀ b xs, H b = some (.tup xs) → H' b = some (.tup xs)) : ObjOk P w H' h' a o := by
 induction o with
 | lst xs => obtain ⟨z, its, n, r, e⟩ := x; exact ⟨z, its, n, r, k _ _ (.inl rfl) e⟩
 | tup xs => obtain ⟨z, its, r, ob, e, c⟩ := x; exact ⟨z, its, r, ob, k _ _ (.inl rfl) e, c⟩
 | dK kvs => obtain ⟨z, y, vs, r, ob, es, ep, e, c⟩ := x; exact ⟨z, y, vs, r, ob, es, ep, k _ _ (.inl rfl) e, c⟩
 | dT kvs =>
  obtain ⟨z, y, xs, r, ob, es, ep, e, c⟩ := x
  exact ⟨z, y, xs, Paired.mapP r fun p q z => ⟨z.1, ht _ _ z.2.1, z.2.2⟩, ob, es, ep, k _ _ (.inl rfl) e, c⟩
 | set S n => obtain ⟨ob, es, ep, t, e, c⟩ := x; exact ⟨ob, es, ep, t, k _ _ (.inl rfl) e, c⟩
 | ins C dx fs =>
  obtain ⟨d, z, ne, e, mA, ⟨od, es, ep, e2, c⟩, r⟩ := x
  exact ⟨ho _ d, z, ne, k _ _ (.inl rfl) e, mA, ⟨od, es, ep, k _ _ (.inr d) e2, c⟩, r⟩
 | own y => obtain ⟨ob, e⟩ := x; exact ⟨ob, k _ _ (.inl rfl) e⟩
 | xd fs => obtain ⟨mA, ⟨od, es, ep, e, c⟩, r⟩ := x; exact ⟨mA, ⟨od, es, ep, k _ _ (.inl rfl) e, c⟩, r⟩
 | rng lo hi => obtain ⟨t, u, v, e⟩ := x; exact ⟨t, u, v, k _ _ (.inl rfl) e⟩
 | frz ob u ih => obtain ⟨e, q⟩ := x; exact ⟨k _ _ (.inl rfl) e, ih q⟩
 | tbl ps =>
  have e : h.get? a = some { cls := .none, data := .fields ps } := x
  show h'.get? a = some { cls := .none, data := .fields ps }
  exact k a _ (.inl rfl) e
 | met f y =>
  have e : h.get? a = some (PySem.W.methodObj (.ref f) (.ref y)) := x
  show h'.get? a = some (PySem.W.methodObj (.ref f) (.ref y))
  exact k a _ (.inl rfl) e
 | ext φ => obtain ⟨p, ⟨o, e⟩, st⟩ := x; exact ⟨st _ _ p fun o q => k _ _ (.inl rfl) q, ⟨o, k _ _ (.inl rfl) e⟩, st⟩
theorem HOk.lt (x : HOk P w H h) (e : H a = some o) : a < h.objs.size := (x a o e).lt
theorem HOk.fresh (x : HOk P w H h) (e : h.objs.size ≤ a) : H a = none := by
 cases q : H a with
 | none => rfl
 | some u => exact absurd (Nat.lt_of_lt_of_le (x.lt q) e) (Nat.lt_irrefl _)
theorem HOk.kept (x : HOk P w H h) (k : ∀ b u, h.get? b = some u → h'.get? b = some u) : HOk P w H h' := fun a o e =>
 (x a o e).stay (fun b u _ q => k b u q) (fun _ q => q) fun _ _ q => q
theorem HOk.laid (x : HOk P w H h) (k : ∀ b u, h.get? b = some u → h'.get? b = some u) (hp : h.objs.size ≤ a) (new : ObjOk P w (upd H a o) h' a o) : HOk P w (upd H a o) h' := fun b u e => by
 have hn := x.fresh hp
 by_cases hb : b = a
 ·subst hb; rw [ad_] at e; cases e; exact new
 ·rw [ai_ hb] at e
  exact (x b u e).stay (fun c v _ q => k c v q) (fun c q => by rw [ai_ (ag_ q hn)]; exact q) fun c xs q => by rw [ai_ (ag_ q hn)]; exact q
end
def Rd (H : Hp) (a : Addr) (u : HO) : Prop := H a = some u ∨ ∃ o, H a = some (.frz o u)
theorem Rd.of {H : Hp} {a : Addr} {u : HO} (h : H a = some u) : Rd H a u := .inl h
theorem Rd.ok {P : Program} {w : World} {H : Hp} {h : Heap} {a : Addr} {u : HO} (r : Rd H a u) (x : HOk P w H h) : ObjOk P w H h a u := by
 rcases r with r | ⟨o, r⟩
 ·exact x a u r
 ·obtain ⟨_, q⟩ := x a _ r
  exact q
def Mut : Option HO → Prop
 | some (.lst _) => True
 | some (.dK _) => True
 | some (.dT _) => True
 | some (.set _ _) => True
 | some (.ins _ _ _) => True
 | some (.ext _) => True
 | _ => False
section
variable {P : Program} {w : World} {H : Hp} {h h' : Heap} {x e : Addr} {o' : HO}
theorem HOk.write (ok : HOk P w H h) (mu : Mut (H x)) (he : e = x ∨ H e = some (.own x)) (k : ∀ b u, b ≠ e → h.get? b = some u → h'.get? b = some u) (heo : ∃ u, h'.get? e = some u)
  (new : ObjOk P w (upd H x o') h' x o') : HOk P w (upd H x o') h' := fun b u q => by
 have nown : ∀ c y, H c = some (.own y) → c ≠ x := fun c y r z => by subst z; rw [r] at mu; exact mu
 have ntup : ∀ c xs, H c = some (.tup xs) → c ≠ x := fun c xs r z => by subst z; rw [r] at mu; exact mu
 by_cases hb : b = x
 ·subst hb; rw [ad_] at q; cases q; exact new
 ·rw [ai_ hb] at q
  by_cases hbe : b = e
  ·have q' : H b = some (.own x) := by
    rcases he with z | z
    ·exact absurd (hbe.trans z) hb
    ·rw [hbe]; exact z
   rw [q] at q'; cases q'
   obtain ⟨v, hv⟩ := heo
   exact ⟨v, by rw [hbe]; exact hv⟩
  ·refine (ok b u q).stay (fun c v hc r => k c v ?_ r) (fun c r => by rw [ai_ (nown c b r)]; exact r) fun c xs r => by rw [ai_ (ntup c xs r)]; exact r
   rcases hc with rfl | hc
   ·exact hbe
   ·rintro rfl
    rcases he with z | z
    ·exact nown c b hc z
    ·rw [hc] at z; cases z; exact hb rfl
end
structure Un (fs ex : List Addr) (H H' : Hp) (h h' : Heap) : Prop where
 keep : ∀ b o, h.get? b = some o → H b = none → b ∉ fs → b ∉ ex → h'.get? b = some o
 slot : ∀ b o, h.get? b = some o → H b = none → b ∈ fs → b ∉ ex → ∃ sl, h'.get? b = some { o with slots := sl }
 free : ∀ b o, h.get? b = some o → H b = none → b ∉ ex → H' b = none
 there : ∀ b o, h.get? b = some o → b ∉ ex → ∃ o', h'.get? b = some o'
 tups : ∀ b xs, H b = some (.tup xs) → H' b = some (.tup xs)
 frzs : ∀ b o u, H b = some (.frz o u) → H' b = some (.frz o u)
 tbls : ∀ b ps, H b = some (.tbl ps) → ∃ more, H' b = some (.tbl (ps ++ more))
section
variable {fs fs' ex ex' : List Addr} {H H1 H2 : Hp} {h h1 h2 h' : Heap} {a x e : Addr} {o : HO}
theorem Un.any (u : Un fs ex H H1 h h1) {b : Addr} {ob : Obj} (q : h.get? b = some ob) (n : H b = none) (hx : b ∉ ex) : ∃ sl, h1.get? b = some { ob with slots := sl } := by
 by_cases hb : b ∈ fs
 ·exact u.slot b ob q n hb hx
 ·exact ⟨ob.slots, u.keep b ob q n hb hx⟩
theorem Un.trans (a : Un fs ex H H1 h h1) (b : Un fs ex H1 H2 h1 h2) : Un fs ex H H2 h h2 where
 keep := fun c ob q n hc hx => b.keep c ob (a.keep c ob q n hc hx) (a.free c ob q n hx) hc hx
 slot := fun c ob q n hc hx => by
  obtain ⟨sl, e1⟩ := a.slot c ob q n hc hx
  obtain ⟨sl', e2⟩ := b.slot c _ e1 (a.free c ob q n hx) hc hx
  exact ⟨sl', e2⟩
 free := fun c ob q n hx => by
  obtain ⟨o', e1⟩ := a.there c ob q hx
  exact b.free c o' e1 (a.free c ob q n hx) hx
 there := fun c ob q hx => by
  obtain ⟨o', e1⟩ := a.there c ob q hx
  exact b.there c o' e1 hx
 tups := fun c xs q => b.tups c xs (a.tups c xs q)
 frzs := fun c ob xs q => b.frzs c ob xs (a.frzs c ob xs q)
 tbls := fun c ps q => by
  obtain ⟨m1, e1⟩ := a.tbls c ps q
  obtain ⟨m2, e2⟩ := b.tbls c _ e1
  exact ⟨m1 ++ m2, by rw [e2, Array.append_assoc]⟩
theorem Un.kept (k : ∀ b u, h.get? b = some u → h'.get? b = some u) : Un fs ex H H h h' :=
 ⟨fun b ob q _ _ _ => k b ob q, fun b ob q _ _ _ => ⟨ob.slots, k b ob q⟩, fun _ _ _ n _ => n, fun b ob q _ => ⟨ob, k b ob q⟩, fun _ _ q => q, fun _ _ _ q => q, fun _ ps q => ⟨#[], by rw [q]; simp⟩⟩
theorem Un.refl : Un fs ex H H h h := Un.kept fun _ _ q => q
theorem Un.laid (k : ∀ b u, h.get? b = some u → h'.get? b = some u) (hp : h.objs.size ≤ a) (hn : H a = none) : Un fs ex H (upd H a o) h h' where
 keep := fun b u q _ _ _ => k b u q
 slot := fun b u q _ _ _ => ⟨u.slots, k b u q⟩
 free := fun b u q n _ => by rw [ai_ (Nat.ne_of_lt (Nat.lt_of_lt_of_le (Heap.lt_size q) hp))]; exact n
 there := fun b u q _ => ⟨u, k b u q⟩
 tups := fun b xs q => by rw [ai_ (ag_ q hn)]; exact q
 frzs := fun b u xs q => by rw [ai_ (ag_ q hn)]; exact q
 tbls := fun b ps q => ⟨#[], by rw [ai_ (ag_ q hn), q]; simp⟩
theorem Un.write (mu : Mut (H x)) (he : e = x ∨ H e = some (.own x)) (k : ∀ b u, b ≠ e → h.get? b = some u → h'.get? b = some u) (heo : ∃ u, h'.get? e = some u) : Un fs ex H (upd H x o) h h' := by
 have hx : ∀ b, H b = none → b ≠ x := fun b n z => by subst z; rw [n] at mu; exact mu
 have hb : ∀ b, H b = none → b ≠ e := fun b n z => by
  subst z
  rcases he with r | r
  ·exact hx b n r
  ·rw [n] at r; cases r
 have hm : ∀ b u, H b = some u → ¬ Mut (some u) → b ≠ x := fun b u q nm z => by subst z; rw [q] at mu; exact nm mu
 refine ⟨fun b u q n _ _ => k b u (hb b n) q, fun b u q n _ _ => ⟨u.slots, k b u (hb b n) q⟩, fun b u q n _ => by rw [ai_ (hx b n)]; exact n, fun b u q _ => ?_,
  fun b xs q => by rw [ai_ (hm b _ q fun z => z)]; exact q, fun b u xs q => by rw [ai_ (hm b _ q fun z => z)]; exact q, fun b ps q => ⟨#[], by rw [ai_ (hm b _ q fun z => z), q]; simp⟩⟩
 by_cases hbe : b = e
 ·subst hbe; exact heo
 ·exact ⟨u, k b u hbe q⟩
theorem Un.mono (u : Un fs ex H H1 h h1) (hs : ∀ b ∈ fs, b ∈ fs') (hx : ∀ b ∈ ex, b ∈ ex') : Un fs' ex' H H1 h h1 :=
 ⟨fun b ob q n hb he => u.keep b ob q n (fun z => hb (hs b z)) fun z => he (hx b z), fun _ _ q n _ he => u.any q n fun z => he (hx _ z), fun b ob q n he => u.free b ob q n fun z => he (hx b z), fun b ob q he => u.there b ob q fun z => he (hx b z), u.tups, u.frzs, u.tbls⟩
end
def trk (h : Heap) (H : Hp) : List Addr := (List.range h.objs.size).filter fun a => (H a).isSome
def hidT (h : Heap) (H : Hp) : Heap := PySem.W.hideAll h (trk h H)
theorem ln_ (h : Heap) (H : Hp) : (hidT h H).objs.size = h.objs.size := PySem.W.hideAll_size _ _
theorem mL_ {h : Heap} {H : Hp} {b : Addr} {o : Obj} (e : h.get? b = some o) (n : H b = none) : (hidT h H).get? b = some o :=
 PySem.W.hideAll_get _ e fun hm => by
  have q : (H b).isSome = true := (List.mem_filter.mp hm).2
  rw [n] at q; simp at q
theorem nZ_ {h : Heap} {H : Hp} {b : Addr} {o : Obj} (e : (hidT h H).get? b = some o) : h.get? b = some o ∧ H b = none := by
 have e' : h.get? b = some o := PySem.W.of_hideAll (trk h H) e
 refine ⟨e', ?_⟩
 cases q : H b with
 | none => rfl
 | some x =>
  have hm : b ∈ trk h H := List.mem_filter.mpr ⟨List.mem_range.mpr (Heap.lt_size e'), by simp [q]⟩
  have z : (hidT h H).get? b = none := PySem.W.hideAll_none (trk h H) hm
  rw [z] at e; cases e
def allNews (g h : Heap) (L : Addr) : List (Addr × Obj) := (List.range h.objs.size).filterMap fun a => if a = L ∨ (g.get? a).isSome = true then none else (h.get? a).map fun o => (a, o)
theorem dx_ {g h : Heap} {L a : Addr} {o : Obj} (h1 : a ≠ L) (h2 : g.get? a = none) (h3 : h.get? a = some o) : (a, o) ∈ allNews g h L :=
 List.mem_filterMap.mpr ⟨a, List.mem_range.mpr (Heap.lt_size h3), by simp [h1, h2, h3]⟩
theorem hu_ {g h : Heap} {L : Addr} {p : Addr × Obj} (hp : p ∈ allNews g h L) : p.1 ≠ L ∧ g.get? p.1 = none ∧ h.get? p.1 = some p.2 := by
 obtain ⟨b, _, e⟩ := List.mem_filterMap.mp hp
 split at e
 ·cases e
 ·rename_i hn
  cases q : h.get? b with
  | none => rw [q] at e; simp at e
  | some u =>
   rw [q] at e
   simp only [Option.map_some, Option.some.injEq] at e
   subst e
   refine ⟨fun z => hn (.inl z), ?_, q⟩
   show g.get? b = none
   cases r : g.get? b with
   | none => rfl
   | some v => exact (hn (.inr (by simp [r]))).elim
def rest (g h : Heap) (L d : Addr) : List (Addr × Obj) := (allNews g h L).filter fun p => decide (p.1 ≠ d)
theorem gq_ {g h : Heap} {L : Addr} : News g L h (allNews g h L) := fun p hp => let ⟨a, b, c⟩ := hu_ hp; ⟨c, a, b⟩
end L2
namespace L2
open PySem PySem.Spec PyProof.Rows
structure Mod (K : PySem.W.Frag) (mg : Str → Option Value) (base : Heap) : Prop where
 kin : K.In base
 glob : base.Ns mainGlobals mg
 blt : ∃ mb, base.Ns builtinsNs mb ∧ ∀ x : Str, x ≠ "__name__" → mb x = bootBuiltins x
 nolimit : base.NoLimit
structure Cx where
 prog : Program
 w : World
 K : PySem.W.Frag
 mg : Str → Option Value
 base : Heap
 A : Around
 N : List Str
 s₀ : Shared
 H₀ : Hp
 env : Env
 outer : List Env
 stack : List Env
 ex : List Addr
 fn : Str → Bool
 calm : Bool
 pn : List (Addr × Obj)
 xe : Value → Shared → Prop
def frs (l : List Env) : List Addr := l.filterMap (·.frame)
abbrev Cx.fs (X : Cx) : List Addr := frs X.outer
def Vis (sc : Scope) (x : Str) : Prop := sc.names.lookup x = some .local ∨ sc.names.lookup x = some .cell ∨ sc.names.lookup x = some .free
def Loc (sc : Scope) (x : Str) : Prop := sc.names.lookup x = some .local ∨ sc.names.lookup x = some .cell
def Look (env : Env) (h : Heap) (m : Str → Option Value) (x : Str) (u : Value) : Prop :=
 (env.kindOf x = some .local ∧ m x = some u) ∨ ((env.kindOf x = some .cell ∨ env.kindOf x = some .free) ∧ ∃ c, env.cells.lookup x = some c ∧ h.IsCell c (some u))
structure Cx.Ok (X : Cx) : Prop where
 mod : Mod X.K X.mg X.base
 kind : X.env.scope.kind = .function
 glob : X.env.globals = mainGlobals
 blt : X.env.builtins = builtinsNs
 above : X.s₀.heap.objs.size ≤ X.env.locals
 inj : ∀ x y c, X.env.cells.lookup x = some c → X.env.cells.lookup y = some c → x = y
 has : ∀ x, (X.env.kindOf x = some .cell ∨ X.env.kindOf x = some .free) → ∃ c, X.env.cells.lookup x = some c
 cab : ∀ x c, X.fn x = true → X.env.cells.lookup x = some c → X.s₀.heap.objs.size ≤ c
 hd : X.calm = true → X.A.handled = none
 frames : X.A.frames = some X.stack
 stk : X.stack = X.outer ∨ (X.stack = X.env :: X.outer ∧ X.env.frame = some X.env.locals)
 exf : ∀ b ∈ X.ex, b ≠ X.env.locals ∧ ∀ x c, X.env.cells.lookup x = some c → c ≠ b
 bs : ∀ b o, X.base.get? b = some o → X.s₀.heap.get? b = some o ∧ X.H₀ b = none
 bsz : X.base.objs.size ≤ X.s₀.heap.objs.size
 noex : ∀ b o, X.base.get? b = some o → b ∉ X.ex
 exfs : ∀ b ∈ X.ex, b ∉ X.fs
 funs : X.s₀.heap.FunFrames X.base X.outer
 frf : ∀ b ∈ X.fs, X.H₀ b = none
structure Inv (X : Cx) (pins : List (Addr × Obj)) (σ : List (Option V)) (H : Hp) (s : Shared) : Prop where
 ok : X.Ok
 os : s.os = X.s₀.os
 bare : AllBare s.gens
 base : Un X.fs X.ex X.H₀ H X.s₀.heap s.heap
 loc : ∃ m, s.heap.Ns X.env.locals m ∧ ∀ (i : Nat) (x : Str) (v : V), X.N[i]? = some x → σ[i]? = some (some v) → Vis X.env.scope x → ∃ u, RelV v u ∧ Look X.env s.heap m x u
 cell : ∀ x c, X.env.cells.lookup x = some c → ∃ v, s.heap.IsCell c v
 free : H X.env.locals = none
 freeC : ∀ x c, X.env.cells.lookup x = some c → H c = none
 pin : ∀ p ∈ X.pn ++ pins, s.heap.get? p.1 = some p.2 ∧ H p.1 = none ∧ p.1 ≠ X.env.locals ∧ p.1 ∉ X.fs ∧ ∀ v, p.2.data ≠ .cell v
 hok : HOk X.prog X.w H s.heap
 len : σ.length = X.N.length
section
variable {X : Cx} {pins : List (Addr × Obj)} {σ : List (Option V)} {H H' : Hp} {s : Shared} {h' : Heap}
theorem Cx.Ok.nofr (ok : X.Ok) {b : Addr} {o : Obj} (e : X.base.get? b = some o) : b ∉ X.fs := fun hb => by
 have := (ok.funs.mem hb).1
 rw [e] at this; cases this
theorem Inv.bs (I : Inv X pins σ H s) : ∀ b o, X.base.get? b = some o → s.heap.get? b = some o ∧ H b = none := fun b o e =>
 ⟨I.base.keep b o (I.ok.bs b o e).1 (I.ok.bs b o e).2 (I.ok.nofr e) (I.ok.noex b o e), I.base.free b o (I.ok.bs b o e).1 (I.ok.bs b o e).2 (I.ok.noex b o e)⟩
theorem Inv.bk (I : Inv X pins σ H s) : ∀ b o, X.base.get? b = some o → s.heap.get? b = some o := fun b o e => (I.bs b o e).1
theorem Inv.mod (I : Inv X pins σ H s) : Mod X.K X.mg X.base := I.ok.mod
theorem Inv.kIn (I : Inv X pins σ H s) : X.K.In s.heap := I.ok.mod.kin.keeps I.bk
theorem Inv.nolimit (I : Inv X pins σ H s) : s.heap.NoLimit := I.ok.mod.nolimit.keeps I.bk
theorem Inv.fr (I : Inv X pins σ H s) : ∃ m, Fr X.base X.env.locals s.heap m :=
 let ⟨m, hn, _⟩ := I.loc
 ⟨m, hn, I.bk, Nat.le_trans I.ok.bsz I.ok.above⟩
theorem Inv.lt (I : Inv X pins σ H s) : X.env.locals < s.heap.objs.size := let ⟨_, hn, _⟩ := I.loc; hn.lt
theorem Inv.sz (I : Inv X pins σ H s) : X.s₀.heap.objs.size ≤ s.heap.objs.size := Nat.le_trans I.ok.above (Nat.le_of_lt I.lt)
theorem Inv.nofs (I : Inv X pins σ H s) {a : Addr} (h : s.heap.objs.size ≤ a) : a ∉ X.fs := fun hb => by
 obtain ⟨_, o, ho, _⟩ := I.ok.funs.mem hb
 exact absurd (Nat.lt_of_lt_of_le (Heap.lt_size ho) (Nat.le_trans I.sz h)) (Nat.lt_irrefl _)
theorem Inv.cne (I : Inv X pins σ H s) : ∀ x c, X.env.cells.lookup x = some c → c ≠ X.env.locals := fun x c e z => by
 obtain ⟨v, o, ho, hd⟩ := I.cell x c e
 obtain ⟨m, ⟨o', es, ep, ho', hd', _⟩, _⟩ := I.loc
 rw [z, ho'] at ho; cases ho; rw [hd'] at hd; cases hd
theorem Inv.funs (I : Inv X pins σ H s) : s.heap.FunFrames X.base X.outer := by
 have all : ∀ (l : List Env), (∀ b ∈ frs l, b ∈ X.fs) → X.s₀.heap.FunFrames X.base l → s.heap.FunFrames X.base l := by
  intro l
  induction l with
  | nil => intro _ _; trivial
  | cons env r ih =>
   intro hs hl
   obtain ⟨hk, ⟨L, o, hf, hn, ho, hd⟩, hr⟩ := hl
   have hL : L ∈ X.fs := hs L (by unfold frs; rw [List.filterMap_cons, hf]; exact List.mem_cons_self)
   obtain ⟨sl, e⟩ := I.base.slot L o ho (I.ok.frf L hL) hL fun z => I.ok.exfs L z hL
   exact ⟨hk, ⟨L, _, hf, hn, e, hd⟩, ih (fun b hb => hs b (by unfold frs; rw [List.filterMap_cons, hf]; exact List.mem_cons_of_mem _ hb)) hr⟩
 exact all X.outer (fun _ hb => hb) I.ok.funs
theorem Inv.stack (I : Inv X pins σ H s) : s.heap.FunFrames X.base X.stack := by
 rcases I.ok.stk with e | ⟨e, hf⟩
 ·rw [e]; exact I.funs
 ·rw [e]
  obtain ⟨m, hn, _⟩ := I.loc
  refine .cons (by rw [I.ok.kind]; decide) hf hn ?_ I.funs
  exact Heap.get?_none_of_le (Nat.le_trans I.ok.bsz I.ok.above)
theorem Inv.stkSub (I : Inv X pins σ H s) : ∀ b ∈ frs X.stack, b ∈ X.env.locals :: X.fs := fun b hb => by
 rcases I.ok.stk with e | ⟨e, hf⟩
 ·rw [e] at hb; exact List.mem_cons_of_mem _ hb
 ·rw [e] at hb
  unfold frs at hb
  rw [List.filterMap_cons, hf] at hb
  exact hb
theorem Inv.stkFree (I : Inv X pins σ H s) : ∀ b ∈ frs X.stack, H b = none := fun b hb => by
 rcases List.mem_cons.mp (I.stkSub b hb) with e | hb
 ·rw [e]; exact I.free
 ·obtain ⟨_, o, ho, _⟩ := I.ok.funs.mem hb
  exact I.base.free b o ho (I.ok.frf b hb) fun z => I.ok.exfs b z hb
theorem Inv.step {g' : Array GenState} {t' : Nat} {d' : Drawn} {ch : List Addr} (I : Inv X pins σ H s)
  (hch : ∀ b ∈ ch, (b ∈ X.ex ∨ X.s₀.heap.objs.size ≤ b) ∧ b ≠ X.env.locals ∧ (∀ x c, X.env.cells.lookup x = some c → c ≠ b) ∧ ∀ p ∈ X.pn ++ pins, p.1 ≠ b)
  (keep : ∀ b o, b ≠ X.env.locals → b ∉ X.fs → b ∉ ch → s.heap.get? b = some o → H b = none → h'.get? b = some o)
  (slot : ∀ b o, b ≠ X.env.locals → b ∈ X.fs → b ∉ ch → s.heap.get? b = some o → H b = none → ∃ sl, h'.get? b = some { o with slots := sl }) (free : ∀ b o, b ∉ ch → s.heap.get? b = some o → H b = none → H' b = none)
  (there : ∀ b o, b ∉ ch → s.heap.get? b = some o → ∃ o', h'.get? b = some o')
  (tups : ∀ b xs, H b = some (.tup xs) → H' b = some (.tup xs)) (frzs : ∀ b o u, H b = some (.frz o u) → H' b = some (.frz o u)) (tbls : ∀ b ps, H b = some (.tbl ps) → ∃ more, H' b = some (.tbl (ps ++ more)))
  (ns : ∀ m, s.heap.Ns X.env.locals m → h'.Ns X.env.locals m) (hok : HOk X.prog X.w H' h') (hg : AllBare g') :
  Inv X pins σ H' { s with heap := h', gens := g', drawn := d', toks := t' } := by
 have neL : ∀ b o, X.s₀.heap.get? b = some o → b ≠ X.env.locals := fun b o e => Nat.ne_of_lt (Nat.lt_of_lt_of_le (Heap.lt_size e) I.ok.above)
 have neC : ∀ b o, X.s₀.heap.get? b = some o → b ∉ X.ex → b ∉ ch := fun b o e hx hb => by
  rcases (hch b hb).1 with z | z
  ·exact hx z
  ·exact absurd (Nat.lt_of_lt_of_le (Heap.lt_size e) z) (Nat.lt_irrefl _)
 have cellK : ∀ x c, X.env.cells.lookup x = some c → ∀ v, s.heap.IsCell c v → h'.IsCell c v := fun x c e v ⟨o, ho, hd⟩ => by
  have nch : c ∉ ch := fun z => (hch c z).2.2.1 x c e rfl
  by_cases hc : c ∈ X.fs
  ·obtain ⟨sl, q⟩ := slot c o (I.cne x c e) hc nch ho (I.freeC x c e)
   exact ⟨_, q, hd⟩
  ·exact ⟨o, keep c o (I.cne x c e) hc nch ho (I.freeC x c e), hd⟩
 refine ⟨I.ok, I.os, hg, ⟨fun b o e n hb hx => ?_, fun b o e n hb hx => ?_, fun b o e n hx => ?_, fun b o e hx => ?_, fun b xs e => tups b xs (I.base.tups b xs e), fun b o xs e => frzs b o xs (I.base.frzs b o xs e), fun b ps e => ?_⟩, ?_, fun x c e => ?_, ?_, fun x c e => ?_, fun p hp => ?_, hok, I.len⟩
 ·exact keep b o (neL b o e) hb (neC b o e hx) (I.base.keep b o e n hb hx) (I.base.free b o e n hx)
 ·obtain ⟨sl, e1⟩ := I.base.slot b o e n hb hx
  obtain ⟨sl', e2⟩ := slot b _ (neL b o e) hb (neC b o e hx) e1 (I.base.free b o e n hx)
  exact ⟨sl', e2⟩
 ·obtain ⟨o', e1⟩ := I.base.there b o e hx
  exact free b o' (neC b o e hx) e1 (I.base.free b o e n hx)
 ·obtain ⟨o', e1⟩ := I.base.there b o e hx
  exact there b o' (neC b o e hx) e1
 ·obtain ⟨m1, e1⟩ := I.base.tbls b ps e
  obtain ⟨m2, e2⟩ := tbls b _ e1
  exact ⟨m1 ++ m2, by rw [e2, Array.append_assoc]⟩
 ·obtain ⟨m, hn, hl⟩ := I.loc
  refine ⟨m, ns m hn, fun i x v e1 e2 e3 => ?_⟩
  obtain ⟨u, r, l⟩ := hl i x v e1 e2 e3
  refine ⟨u, r, ?_⟩
  rcases l with l | ⟨k, c, e, z⟩
  ·exact .inl l
  ·exact .inr ⟨k, c, e, cellK x c e _ z⟩
 ·obtain ⟨v, z⟩ := I.cell x c e
  exact ⟨v, cellK x c e v z⟩
 ·obtain ⟨m, ⟨o, _, _, ho, _⟩, _⟩ := I.loc
  exact free _ o (fun z => (hch _ z).2.1 rfl) ho I.free
 ·obtain ⟨v, o, ho, hd⟩ := I.cell x c e
  exact free c o (fun z => (hch c z).2.2.1 x c e rfl) ho (I.freeC x c e)
 ·obtain ⟨e, n, ne, nf, d⟩ := I.pin p hp
  have nch : p.1 ∉ ch := fun z => (hch p.1 z).2.2.2 p hp rfl
  exact ⟨keep p.1 p.2 ne nf nch e n, free p.1 p.2 nch e n, ne, nf, d⟩
theorem Inv.un {t' : Nat} (I : Inv X pins σ H s) (u : Un X.fs [] H H' s.heap h') (hok : HOk X.prog X.w H' h') : Inv X pins σ H' { s with heap := h', toks := t' } := by
 obtain ⟨m, ⟨o, es, ep, ho, r⟩, _⟩ := id I.loc
 obtain ⟨sl, hL⟩ := u.any ho I.free (by simp)
 exact I.step (g' := s.gens) (d' := s.drawn) (ch := []) (fun _ z => nomatch z) (fun b o _ hb _ e n => u.keep b o e n hb (by simp)) (fun b o _ hb _ e n => u.slot b o e n hb (by simp)) (fun b o _ e n => u.free b o e n (by simp)) (fun b o _ e => u.there b o e (by simp)) u.tups u.frzs u.tbls (fun m' hm => by
  obtain ⟨o', es', ep', ho', r'⟩ := hm
  rw [ho] at ho'; cases ho'
  exact ⟨_, es', ep', hL, r'⟩) hok I.bare
theorem Inv.call {g' : Array GenState} {t' : Nat} {d' : Drawn} {ch : List Addr} (I : Inv X pins σ H s) (u : Un (frs X.stack) ch H H' s.heap h') (hok : HOk X.prog X.w H' h') (hg : AllBare g')
  (hch : ∀ b ∈ ch, (b ∈ X.ex ∨ X.s₀.heap.objs.size ≤ b) ∧ b ≠ X.env.locals ∧ (∀ x c, X.env.cells.lookup x = some c → c ≠ b) ∧ ∀ p ∈ X.pn ++ pins, p.1 ≠ b) :
  Inv X pins σ H' { s with heap := h', gens := g', drawn := d', toks := t' } := by
 obtain ⟨m, ⟨o, es, ep, ho, r⟩, _⟩ := id I.loc
 obtain ⟨sl, hL⟩ := u.any ho I.free fun z => (hch _ z).2.1 rfl
 exact I.step (ch := ch) hch (fun b o hL hb hc e n => u.keep b o e n (fun z => (List.mem_cons.mp (I.stkSub b z)).elim hL hb) hc) (fun b o _ _ hc e n => u.any e n hc) (fun b o hc e n => u.free b o e n hc) (fun b o hc e => u.there b o e hc) u.tups u.frzs u.tbls (fun m' hm => by
  obtain ⟨o', es', ep', ho', r'⟩ := hm
  rw [ho] at ho'; cases ho'
  exact ⟨_, es', ep', hL, r'⟩) hok hg
theorem Inv.turned {t' : Nat} {it : Addr} (I : Inv X pins σ H s) (k : ∀ b o, b ≠ it → s.heap.get? b = some o → h'.get? b = some o) (hn : H it = none) (hL : it ≠ X.env.locals)
  (h1 : it ∈ X.ex ∨ X.s₀.heap.objs.size ≤ it) (h2 : ∀ x c, X.env.cells.lookup x = some c → c ≠ it) (h3 : ∀ p ∈ X.pn ++ pins, p.1 ≠ it) : Inv X pins σ H { s with heap := h', toks := t' } := by
 have nit : ∀ b u, H b = some u → b ≠ it := fun b u e z => by rw [z, hn] at e; cases e
 refine I.step (g' := s.gens) (d' := s.drawn) (ch := [it]) (fun b hb => ?_) (fun b o _ _ hc e _ => k b o (fun z => hc (by simp [z])) e) (fun b o _ _ hc e _ => ⟨o.slots, k b o (fun z => hc (by simp [z])) e⟩) (fun _ _ _ _ n => n)
  (fun b o hc e => ⟨o, k b o (fun z => hc (by simp [z])) e⟩) (fun _ _ e => e) (fun _ _ _ e => e) (fun b ps e => ⟨#[], by rw [e]; simp⟩) (fun m hm => ?_) (fun b u e => ?_) I.bare
 ·have e : b = it := by simpa using hb
  subst e
  exact ⟨h1, hL, h2, h3⟩
 ·obtain ⟨o, es, ep, ho, r⟩ := hm
  exact ⟨o, es, ep, k _ o (Ne.symm hL) ho, r⟩
 ·refine (I.hok b u e).stay (fun c v hc q => k c v ?_ q) (fun _ q => q) fun _ _ q => q
  rcases hc with z | z
  ·rw [z]; exact nit b u e
  ·exact nit c _ z
theorem Inv.tok (I : Inv X pins σ H s) (t : Nat) : Inv X pins σ H { s with toks := t } := I.un (h' := s.heap) (t' := t) Un.refl I.hok
theorem Inv.kept {t' : Nat} (I : Inv X pins σ H s) (k : ∀ b u, s.heap.get? b = some u → h'.get? b = some u) : Inv X pins σ H { s with heap := h', toks := t' } := I.un (Un.kept k) (I.hok.kept k)
theorem Inv.laid {a : Addr} {o : HO} {t' : Nat} (I : Inv X pins σ H s) (k : ∀ b u, s.heap.get? b = some u → h'.get? b = some u) (hp : s.heap.objs.size ≤ a) (new : ObjOk X.prog X.w (upd H a o) h' a o) :
  Inv X pins σ (upd H a o) { s with heap := h', toks := t' } := I.un (Un.laid k hp (I.hok.fresh hp)) (I.hok.laid k hp new)
theorem Inv.write {x e : Addr} {o : HO} {t' : Nat} (I : Inv X pins σ H s) (mu : Mut (H x)) (he : e = x ∨ H e = some (.own x)) (k : ∀ b u, b ≠ e → s.heap.get? b = some u → h'.get? b = some u) (heo : ∃ u, h'.get? e = some u)
  (new : ObjOk X.prog X.w (upd H x o) h' x o) : Inv X pins σ (upd H x o) { s with heap := h', toks := t' } := I.un (Un.write mu he k heo) (I.hok.write mu he k heo new)
theorem Inv.pins_of {pins' : List (Addr × Obj)} (I : Inv X pins σ H s) (h : ∀ p ∈ pins', s.heap.get? p.1 = some p.2 ∧ H p.1 = none ∧ p.1 ≠ X.env.locals ∧ p.1 ∉ X.fs ∧ ∀ v, p.2.data ≠ .cell v) : Inv X pins' σ H s :=
 ⟨I.ok, I.os, I.bare, I.base, I.loc, I.cell, I.free, I.freeC, fun p hp => (List.mem_append.mp hp).elim (fun z => I.pin p (List.mem_append_left _ z)) (h p), I.hok, I.len⟩
theorem hS_ {N : List Str} (hN : N.Nodup) {i j : Nat} {x : Str} (a : N[i]? = some x) (b : N[j]? = some x) : i = j := by
 obtain ⟨h1, e1⟩ := List.getElem?_eq_some_iff.mp a
 obtain ⟨h2, e2⟩ := List.getElem?_eq_some_iff.mp b
 exact (List.getElem_inj hN).mp (e1.trans e2.symm)
theorem iA_ {M : Model} {A : Around} {E : Value → Shared → Prop} {i : Nat} {x : Str} {v : V} {u : Value} {Q : Unit → Shared → Prop} (I : Inv X pins σ H s) (hN : X.N.Nodup) (hi : X.N[i]? = some x) (hx : Loc X.env.scope x) (r : RelV v u)
  (h : ∀ s', Inv X pins (σ.set i (some v)) H s' → (∃ a, Heap.SameBut a s.heap s'.heap ∧ (a = X.env.locals ∨ X.env.cells.lookup x = some a)) → Q () s') (hf : X.fn x = true ∨ X.env.scope.names.lookup x = some .local := by first | exact .inl rfl | exact .inr rfl | assumption) : wpAny M A (storeName X.env x u) Q E s := by
 obtain ⟨m, hn, hl⟩ := id I.loc
 have hcls : (X.env.scope.kind == .class || (X.env.scope.kind == .module && X.env.locals != X.env.globals)) = false := by rw [I.ok.kind]; rfl
 have hiσ : i < σ.length := by rw [I.len]; exact (List.getElem?_eq_some_iff.mp hi).1
 have cne := I.cne
 have tracked : ∀ {a : Addr} {h' : Heap}, (∃ o, s.heap.get? a = some o ∧ H a = none) → Heap.SameBut a s.heap h' → HOk X.prog X.w H h' := fun {a h'} ha hs b ob e => by
  obtain ⟨_, _, hfree⟩ := ha
  refine (I.hok b ob e).stay (fun c w' hc q => (hs.2 c ?_).trans q) (fun _ q => q) fun _ _ q => q
  rintro rfl
  rcases hc with rfl | hc
  ·rw [hfree] at e; cases e
  ·rw [hfree] at hc; cases hc
 rcases hx with hk | hk
 ·refine wpAny_storeName_local hk hn (fun h' hn' hs => ?_) hcls
  obtain ⟨oL, _, _, hoL, _⟩ := id hn
  refine h _ ⟨I.ok, I.os, I.bare, ⟨fun b o e n hb hx => ?_, fun b o e n hb hx => ?_, I.base.free, fun b o e hx => ?_, I.base.tups, I.base.frzs, I.base.tbls⟩, ⟨_, hn', fun j y v' e1 e2 e3 => ?_⟩, fun y c e => ?_, I.free, I.freeC, fun p hp => ?_, tracked ⟨oL, hoL, I.free⟩ hs, by simpa using I.len⟩ ⟨_, hs, .inl rfl⟩
  ·exact (hs.2 b (Nat.ne_of_lt (Nat.lt_of_lt_of_le (Heap.lt_size e) I.ok.above))).trans (I.base.keep b o e n hb hx)
  ·obtain ⟨sl, e1⟩ := I.base.slot b o e n hb hx
   exact ⟨sl, (hs.2 b (Nat.ne_of_lt (Nat.lt_of_lt_of_le (Heap.lt_size e) I.ok.above))).trans e1⟩
  ·obtain ⟨o', e1⟩ := I.base.there b o e hx
   exact ⟨o', (hs.2 b (Nat.ne_of_lt (Nat.lt_of_lt_of_le (Heap.lt_size e) I.ok.above))).trans e1⟩
  ·by_cases hj : j = i
   ·subst hj
    rw [hi] at e1; cases e1
    rw [List.getElem?_set_self hiσ] at e2
    cases e2
    exact ⟨u, r, .inl ⟨hk, by simp⟩⟩
   ·rw [List.getElem?_set_ne (Ne.symm hj)] at e2
    obtain ⟨u', r', q⟩ := hl j y v' e1 e2 e3
    refine ⟨u', r', ?_⟩
    rcases q with ⟨k, e⟩ | ⟨k, c, e, z⟩
    ·refine .inl ⟨k, ?_⟩
     have : y ≠ x := fun e => hj (hS_ hN e1 (e ▸ hi))
     simp [this, e]
    ·exact .inr ⟨k, c, e, z.sameBut hs (cne y c e)⟩
  ·obtain ⟨w', z⟩ := I.cell y c e
   exact ⟨w', z.sameBut hs (cne y c e)⟩
  ·obtain ⟨e, n, ne, nf, d⟩ := I.pin p hp
   exact ⟨(hs.2 p.1 ne).trans e, n, ne, nf, d⟩
 ·have hfn : X.fn x = true := by
   rcases hf with z | z
   ·exact z
   ·rw [z] at hk; cases hk
  obtain ⟨c, hc⟩ := I.ok.has x (.inl hk)
  obtain ⟨w', z⟩ := I.cell x c hc
  refine wpAny_storeName_cell I.ok.kind hk hc z (fun h' hc' hs => ?_)
  obtain ⟨oc, hoc, hocd⟩ := id z
  refine h { s with heap := h' } ⟨I.ok, I.os, I.bare, ⟨fun b o e n hb hx => ?_, fun b o e n hb hx => ?_, I.base.free, fun b o e hx => ?_, I.base.tups, I.base.frzs, I.base.tbls⟩, ⟨m, hn.sameBut hs (Ne.symm (cne x c hc)), fun j y v' e1 e2 e3 => ?_⟩, fun y c' e => ?_, I.free, I.freeC, fun p hp => ?_, tracked ⟨oc, hoc, I.freeC x c hc⟩ hs, by simpa using I.len⟩ ⟨c, hs, .inr hc⟩
  ·exact (hs.2 b (Nat.ne_of_lt (Nat.lt_of_lt_of_le (Heap.lt_size e) (I.ok.cab x c hfn hc)))).trans (I.base.keep b o e n hb hx)
  ·obtain ⟨sl, e1⟩ := I.base.slot b o e n hb hx
   exact ⟨sl, (hs.2 b (Nat.ne_of_lt (Nat.lt_of_lt_of_le (Heap.lt_size e) (I.ok.cab x c hfn hc)))).trans e1⟩
  ·obtain ⟨o', e1⟩ := I.base.there b o e hx
   exact ⟨o', (hs.2 b (Nat.ne_of_lt (Nat.lt_of_lt_of_le (Heap.lt_size e) (I.ok.cab x c hfn hc)))).trans e1⟩
  ·by_cases hj : j = i
   ·subst hj
    rw [hi] at e1; cases e1
    rw [List.getElem?_set_self hiσ] at e2
    cases e2
    exact ⟨u, r, .inr ⟨.inl hk, c, hc, hc'⟩⟩
   ·rw [List.getElem?_set_ne (Ne.symm hj)] at e2
    obtain ⟨u', r', q⟩ := hl j y v' e1 e2 e3
    refine ⟨u', r', ?_⟩
    rcases q with q | ⟨k, c', e, z'⟩
    ·exact .inl q
    ·refine .inr ⟨k, c', e, z'.sameBut hs ?_⟩
     rintro rfl
     exact hj (hS_ hN e1 (I.ok.inj _ _ _ e hc ▸ hi))
  ·by_cases hcc : c' = c
   ·subst hcc; exact ⟨_, hc'⟩
   ·obtain ⟨w2, z2⟩ := I.cell y c' e
    exact ⟨w2, z2.sameBut hs hcc⟩
  ·obtain ⟨e, n, ne, nf, d⟩ := I.pin p hp
   refine ⟨(hs.2 p.1 ?_).trans e, n, ne, nf, d⟩
   intro q
   rw [q, hoc] at e
   have q' : oc = p.2 := Option.some.inj e
   exact d w' (by rw [← q']; exact hocd)
theorem fb_ {M : Model} {A : Around} {E : Value → Shared → Prop} {i : Nat} {x : Str} {v : V} {u : Value} {Q : Unit → Shared → Prop} (I : Inv X pins σ H s) (hN : X.N.Nodup) (hi : X.N[i]? = some x) (hx : Loc X.env.scope x) (r : RelV v u)
  (h : ∀ s', Inv X pins (σ.set i (some v)) H s' → Q () s') (hf : X.fn x = true ∨ X.env.scope.names.lookup x = some .local := by first | exact .inl rfl | exact .inr rfl | assumption) : wpAny M A (storeName X.env x u) Q E s :=
 iA_ I hN hi hx r (fun s' I' _ => h s' I') hf
theorem Inv.call' {s' : Shared} {ch : List Addr} (I : Inv X pins σ H s) (ho : s'.os = s.os) (u : Un (frs X.stack) ch H H' s.heap s'.heap) (hok : HOk X.prog X.w H' s'.heap) (hg : AllBare s'.gens)
  (hch : ∀ b ∈ ch, (b ∈ X.ex ∨ X.s₀.heap.objs.size ≤ b) ∧ b ≠ X.env.locals ∧ (∀ x c, X.env.cells.lookup x = some c → c ≠ b) ∧ ∀ p ∈ X.pn ++ pins, p.1 ≠ b) : Inv X pins σ H' s' := by
 obtain ⟨h', g', d', t', o'⟩ := s'
 have e : o' = s.os := ho
 subst e
 exact I.call (g' := g') (t' := t') (d' := d') u hok hg hch
end
abbrev XK := Value → Option Addr → Hp → Prop
abbrev St := List (Option V)
abbrev VK := V → Hp → Prop
abbrev TE := St → Hp → VK → Prop
abbrev TT := St → Hp → (Bool → Hp → Prop) → Prop
abbrev TA := St → Hp → (List V → Hp → Prop) → Prop
structure Ends where
 nx : St → Hp → Prop
 rt : VK
 bk : St → Hp → Prop := fun _ _ => False
 ct : St → Hp → Prop := fun _ _ => False
abbrev TS := Ends → St → Hp → Prop
def EP (X : Cx) (pins : List (Addr × Obj)) (σ : St) (Q : VK) (u : Value) (s' : Shared) : Prop := ∃ v H', Inv X pins σ H' s' ∧ RelV v u ∧ Q v H'
def TP (X : Cx) (pins : List (Addr × Obj)) (σ : St) (Q : Bool → Hp → Prop) (b : Bool) (s' : Shared) : Prop := ∃ H', Inv X pins σ H' s' ∧ Q b H'
def AP (X : Cx) (pins : List (Addr × Obj)) (σ : St) (Q : List V → Hp → Prop) (us : List Value) (s' : Shared) : Prop := ∃ vs H', Inv X pins σ H' s' ∧ Vals vs us ∧ Q vs H'
def SP (X : Cx) (pins : List (Addr × Obj)) (D : Ends) (f : Flow) (s' : Shared) : Prop :=
 match f with
 | .next => ∃ σ' H', Inv X pins σ' H' s' ∧ D.nx σ' H'
 | .brk => ∃ σ' H', Inv X pins σ' H' s' ∧ D.bk σ' H'
 | .cont => ∃ σ' H', Inv X pins σ' H' s' ∧ D.ct σ' H'
 | .ret u => ∃ v σ' H', Inv X pins σ' H' s' ∧ RelV v u ∧ D.rt v H'
def PE (X : Cx) (e : Expr) (t : TE) : Prop :=
 ∀ (pins : List (Addr × Obj)) (s : Shared) (σ : St) (H : Hp) (Q : VK), Inv X pins σ H s → t σ H Q → wpAny (model X.prog X.w) X.A (eval e X.env) (EP X pins σ Q) X.xe s
def PT (X : Cx) (e : Expr) (t : TT) : Prop :=
 ∀ (pins : List (Addr × Obj)) (s : Shared) (σ : St) (H : Hp) (Q : Bool → Hp → Prop), Inv X pins σ H s → t σ H Q → wpAny (model X.prog X.w) X.A (isTrue e X.env (eval e X.env)) (TP X pins σ Q) X.xe s
def PW (X : Cx) (e : Expr) (t : TT) : Prop :=
 ∀ (whole : Sem Value) (pins : List (Addr × Obj)) (s : Shared) (σ : St) (H : Hp) (Q : Bool → Hp → Prop), Inv X pins σ H s → t σ H Q → wpAny (model X.prog X.w) X.A (isTrue e X.env whole) (TP X pins σ Q) X.xe s
theorem PW.pt {X : Cx} {e : Expr} {t : TT} (h : PW X e t) : PT X e t := h _
def PA (X : Cx) (es : List Expr) (t : TA) : Prop :=
 ∀ (pos : Pos) (pins : List (Addr × Obj)) (s : Shared) (σ : St) (H : Hp) (Q : List V → Hp → Prop), Inv X pins σ H s → t σ H Q → wpAny (model X.prog X.w) X.A (spliced (backTo pos (starEach es X.env))) (AP X pins σ Q) X.xe s
def PS (X : Cx) (st : Stmt) (t : TS) : Prop :=
 ∀ (pins : List (Addr × Obj)) (s : Shared) (σ : St) (H : Hp) (D : Ends), Inv X pins σ H s → t D σ H → wpAny (model X.prog X.w) X.A (exec st X.env) (SP X pins D) X.xe s
def PSs (X : Cx) (st : List Stmt) (t : TS) : Prop :=
 ∀ (pins : List (Addr × Obj)) (s : Shared) (σ : St) (H : Hp) (D : Ends), Inv X pins σ H s → t D σ H → wpAny (model X.prog X.w) X.A (execs st X.env) (SP X pins D) X.xe s
theorem thn {α : Type} {t : Sem α} {Q Q' : α → Shared → Prop} {M : Model} {A : Around} {E : Value → Shared → Prop} {s : Shared} (h : wpAny M A t Q E s) (hQ : ∀ a s, Q a s → Q' a s) : wpAny M A t Q' E s := wpAny_mono h hQ fun _ _ x => x
end L2
namespace L2
open PySem PySem.Spec PyProof.Rows
section
variable {X : Cx}
def tVar (i : Nat) : TE := fun σ H Q => ∃ v, σ[i]? = some (some v) ∧ Q v H
def tC (v : V) : TE := fun _ H Q => Q v H
theorem nq_ {i : Nat} {x : Str} {pos : Pos} (hN : X.N[i]? = some x) (hv : Vis X.env.scope x) (hd : (x == ("__debug__" : Str)) = false := by decide) (hcd : (x == ("__classdict__" : Str)) = false := by decide) : PE X (.Name x pos) (tVar i) := by
 intro pins s σ H Q I h
 obtain ⟨v, e, h⟩ := h
 obtain ⟨m, hn, hl⟩ := I.loc
 obtain ⟨u, r, l⟩ := hl i x v hN e hv
 have fin : EP X pins σ Q u s := ⟨v, H, I, r, h⟩
 rcases l with ⟨hk, hm⟩ | ⟨hk, c, hc, hcell⟩
 ·exact wpAny_Name (wpAny_loadName_local I.ok.kind hk hn hm fin) hd
 ·rcases hk with hk | hk
  ·exact wpAny_Name (wpAny_loadName_cell I.ok.kind hk hc hcell fin) hd
  ·exact wpAny_Name (wpAny_loadName_free I.ok.kind hk hc hcell fin hcd) hd
theorem ac_ {i j pos} : PE X (.Constant (.int i) j pos) (tC (.int i)) := fun _ _ _ H _ I h => wpAny_Constant_int ⟨.int i, H, I.tok _, ⟨_, rfl⟩, h⟩
theorem pe_bl {b j pos} : PE X (.Constant (.bool b) j pos) (tC (.bl b)) := fun _ _ _ H _ I h => Constant_bool ⟨.bl b, H, I, rfl, h⟩
theorem eN_ {j pos} : PE X (.Constant .none j pos) (tC .non) := fun _ _ _ H _ I h => Constant_none ⟨.non, H, I, rfl, h⟩
theorem aF_ {x j pos} : PE X (.Constant (.str x) j pos) (tC (.str x)) := fun _ _ _ H _ I h => Calls.Constant_str ⟨.str x, H, I.tok _, ⟨_, rfl⟩, h⟩
def Gl (X : Cx) (x : Str) : Prop := X.env.kindOf x = some .globalImplicit
theorem gH_ {E : Value → Shared → Prop} {pins : List (Addr × Obj)} {s : Shared} {σ : St} {H : Hp} {x : Str} {u : Value} {pos : Pos} {Q : Value → Shared → Prop} (I : Inv X pins σ H s) (hg : Gl X x) (hm : X.mg x = some u) (h : Q u s)
  (hd : (x == ("__debug__" : Str)) = false := by decide) : wpAny (model X.prog X.w) X.A (eval (.Name x pos) X.env) Q E s :=
 Calls.Name_function_global I.ok.kind hg (Calls.loadGlobal_global (by rw [I.ok.glob]; exact I.mod.glob.keeps I.bk) hm h) hd
theorem d8_ {E : Value → Shared → Prop} {pins : List (Addr × Obj)} {s : Shared} {σ : St} {H : Hp} {x : Str} {u : Value} {pos : Pos} {Q : Value → Shared → Prop} (I : Inv X pins σ H s) (hg : Gl X x) (hm : X.mg x = none) (hv : bootBuiltins x = some u) (h : Q u s)
  (hn : x ≠ "__name__" := by decide) (hd : (x == ("__debug__" : Str)) = false := by decide) : wpAny (model X.prog X.w) X.A (eval (.Name x pos) X.env) Q E s := by
 obtain ⟨mb, h1, h2⟩ := I.mod.blt
 exact Calls.Name_function_global I.ok.kind hg (Calls.loadGlobal_builtin (by rw [I.ok.glob]; exact I.mod.glob.keeps I.bk) hm (by rw [I.ok.blt]; exact h1.keeps I.bk) ((h2 x hn).trans hv) h) hd
theorem jv_ {x : Str} {v : V} {u : Value} {pos : Pos} (hg : Gl X x) (hm : X.mg x = some u) (r : RelV v u) (hd : (x == ("__debug__" : Str)) = false := by decide) : PE X (.Name x pos) (tC v) :=
 fun _ _ _ H _ I h => gH_ I hg hm ⟨v, H, I, r, h⟩ hd
theorem n0_ {x : Str} {v : V} {u : Value} {pos : Pos} (hg : Gl X x) (hm : X.mg x = none) (hv : bootBuiltins x = some u) (r : RelV v u) (hn : x ≠ "__name__" := by decide) (hd : (x == ("__debug__" : Str)) = false := by decide) : PE X (.Name x pos) (tC v) :=
 fun _ _ _ H _ I h => d8_ I hg hm hv ⟨v, H, I, r, h⟩ hn hd
variable {a b : Expr} {ta tb : TE} {pos : Pos}
def PC (X : Cx) (op : CmpOp) (a b : Expr) (t : TE) : Prop :=
 ∀ (pins : List (Addr × Obj)) (s : Shared) (σ : St) (H : Hp) (Q : VK), Inv X pins σ H s → t σ H Q →
  wpAny (model X.prog X.w) X.A (eval a X.env) (fun v s₁ => wpAny (model X.prog X.w) X.A (eval b X.env) (fun u s₂ => wpAny (model X.prog X.w) X.A (compareOp op v u) (EP X pins σ Q) X.xe s₂) X.xe s₁) X.xe s
theorem nobehind (b : Expr) {op : CmpOp} (h : op ≠ .In) (h2 : op ≠ .NotIn) : behindInMarks op b = false := by
 have e1 : (op == CmpOp.In) = false := by cases op <;> first | rfl | exact absurd rfl h
 have e2 : (op == CmpOp.NotIn) = false := by cases op <;> first | rfl | exact absurd rfl h2
 cases b <;> simp [behindInMarks, e1, e2]
def tIsN (ta : TE) : TE := fun σ H Q => ta σ H fun x H1 => Q (.bl (decide (x = .non))) H1
def tNotN (ta : TE) : TE := fun σ H Q => ta σ H fun x H1 => Q (.bl (!decide (x = .non))) H1
theorem RelV.none_iff {x : V} {v : Value} (r : RelV x v) : (v == Value.none) = decide (x = .non) := by
 cases x with
 | non => cases r; rfl
 | bl _ => cases r; rfl
 | int _ => obtain ⟨t, rfl⟩ := r; rfl
 | str _ => obtain ⟨t, rfl⟩ := r; rfl
 | byt _ => obtain ⟨t, rfl⟩ := r; rfl
 | flt _ => obtain ⟨t, rfl⟩ := r; rfl
 | ref _ => cases r; rfl
 | ty _ => cases r; rfl
theorem lo_ {j pos'} (ha : PE X a ta) : PC X .Is a (.Constant .none j pos') (tIsN ta) := by
 intro pins s σ H Q I h
 refine thn (ha pins s σ H _ I h) fun v s1 ⟨x, H1, I1, r1, q1⟩ => ?_
 exact Constant_none (is_none_gen ⟨.bl _, H1, I1, by rw [r1.none_iff]; rfl, q1⟩)
theorem lp_ {j pos'} (ha : PE X a ta) : PC X .IsNot a (.Constant .none j pos') (tNotN ta) := by
 intro pins s σ H Q I h
 refine thn (ha pins s σ H _ I h) fun v s1 ⟨x, H1, I1, r1, q1⟩ => ?_
 exact Constant_none (isnot_none_gen ⟨.bl _, H1, I1, by rw [r1.none_iff]; rfl, q1⟩)
def tB (t : TE) : TT := fun σ H Q => t σ H fun x H1 => ∃ c, x = .bl c ∧ Q c H1
theorem hH_ {op : CmpOp} {t : TE} (h : PC X op a b t) (h1 : behindInMarks op b = false := by first | exact nobehind _ (by decide) (by decide) | rfl) : PT X (.Compare a [op] [b] pos) (tB t) := by
 intro pins s σ H Q I hw
 refine wpAny_isTrue_Compare1 (thn (h pins s σ H _ I hw) fun v s1 h1 => thn h1 fun u s2 h2 => thn h2 fun c s3 ⟨x, H1, I1, r1, q1⟩ => ?_) h1
 obtain ⟨d, rfl, q⟩ := q1
 cases r1
 exact wpAny_truthy_bool ⟨H1, I1, q⟩
theorem cX_ {e : Expr} {t : TE} (h : PE X e t) (he : ∀ whole, isTrue e X.env whole = (do let v ← whole; standAt e.pos; holding [v] (truthy v)) := by intro _; rfl) : PT X e (tB t) := by
 intro pins s σ H Q I hw
 refine isTrue_plain (thn (h pins s σ H _ I hw) fun v s1 ⟨x, H1, I1, r1, q1⟩ => ?_) (he _)
 obtain ⟨d, rfl, q⟩ := q1
 cases r1
 exact wpAny_truthy_bool ⟨H1, I1, q⟩
variable {tA tB' : TT} {rest : List Expr}
def tAnd (t u : TT) : TT := fun σ H Q => t σ H fun c H1 => if c = true then u σ H1 Q else Q false H1
def tOr (t u : TT) : TT := fun σ H Q => t σ H fun c H1 => if c = true then Q true H1 else u σ H1 Q
def tNot (t : TT) : TT := fun σ H Q => t σ H fun c H1 => Q (!c) H1
theorem eS_ (ha : PT X a tA) : PW X (.BoolOp .And [a] pos) tA := by
 intro wh pins s σ H Q I h
 refine isTrue_and (thn (ha pins s σ H Q I h) fun c s1 e => ?_)
 cases c with
 | true => exact isTrue_and_nil e
 | false => exact e
theorem fc_ (ha : PT X a tA) : PW X (.BoolOp .Or [a] pos) tA := by
 intro wh pins s σ H Q I h
 refine isTrue_or (thn (ha pins s σ H Q I h) fun c s1 e => ?_)
 cases c with
 | false => exact isTrue_or_nil e
 | true => exact e
theorem eO_ (ha : PT X a tA) (hb : PW X (.BoolOp .And (b :: rest) pos) tB') : PW X (.BoolOp .And (a :: b :: rest) pos) (tAnd tA tB') := by
 intro wh pins s σ H Q I h
 refine isTrue_and (thn (ha pins s σ H _ I h) fun c s1 ⟨H1, I1, q1⟩ => ?_)
 cases c with
 | true => exact hb wh pins s1 σ H1 Q I1 q1
 | false => exact ⟨H1, I1, q1⟩
theorem pw_or (ha : PT X a tA) (hb : PW X (.BoolOp .Or (b :: rest) pos) tB') : PW X (.BoolOp .Or (a :: b :: rest) pos) (tOr tA tB') := by
 intro wh pins s σ H Q I h
 refine isTrue_or (thn (ha pins s σ H _ I h) fun c s1 ⟨H1, I1, q1⟩ => ?_)
 cases c with
 | true => exact ⟨H1, I1, q1⟩
 | false => exact hb wh pins s1 σ H1 Q I1 q1
theorem d9_ (ha : PT X a tA) : PT X (.UnaryOp .Not a pos) (tNot tA) := by
 intro pins s σ H Q I h
 exact isTrue_not (ha pins s σ H (fun c H1 => Q (!c) H1) I h)
def tAndV (ta tb : TE) : TE := fun σ H Q => ta σ H fun x H1 => ∃ c, x = .bl c ∧ if c = true then tb σ H1 Q else Q (.bl false) H1
def tOrV (ta tb : TE) : TE := fun σ H Q => ta σ H fun x H1 => ∃ c, x = .bl c ∧ if c = true then Q (.bl true) H1 else tb σ H1 Q
def tNotV (ta : TE) : TE := fun σ H Q => ta σ H fun x H1 => ∃ c, x = .bl c ∧ Q (.bl (!c)) H1
theorem kg_ {op} {t : TE} (h : PE X a t) : PE X (.BoolOp op [a] pos) t := fun pins s σ H Q I hw => BoolOp_one (h pins s σ H Q I hw)
theorem kh_ (ha : PE X a ta) (hb : PE X (.BoolOp .And (b :: rest) pos) tb) : PE X (.BoolOp .And (a :: b :: rest) pos) (tAndV ta tb) := by
 intro pins s σ H Q I h
 refine BoolOp_and (thn (ha pins s σ H _ I h) fun v s1 ⟨x, H1, I1, r1, q1⟩ => ?_)
 obtain ⟨c, rfl, q1⟩ := q1
 cases r1
 refine wpAny_truthy_bool ?_
 cases c with
 | true => exact hb pins s1 σ H1 Q I1 q1
 | false => exact ⟨.bl false, H1, I1, rfl, q1⟩
theorem pe_or (ha : PE X a ta) (hb : PE X (.BoolOp .Or (b :: rest) pos) tb) : PE X (.BoolOp .Or (a :: b :: rest) pos) (tOrV ta tb) := by
 intro pins s σ H Q I h
 refine BoolOp_or (thn (ha pins s σ H _ I h) fun v s1 ⟨x, H1, I1, r1, q1⟩ => ?_)
 obtain ⟨c, rfl, q1⟩ := q1
 cases r1
 refine wpAny_truthy_bool ?_
 cases c with
 | false => exact hb pins s1 σ H1 Q I1 q1
 | true => exact ⟨.bl true, H1, I1, rfl, q1⟩
theorem oN_ (ha : PE X a ta) : PE X (.UnaryOp .Not a pos) (tNotV ta) := by
 intro pins s σ H Q I h
 refine UnaryOp_ (thn (ha pins s σ H _ I h) fun v s1 ⟨x, H1, I1, r1, q1⟩ => ?_)
 obtain ⟨c, rfl, q1⟩ := q1
 cases r1
 exact not_of (wpAny_truthy_bool ⟨.bl (!c), H1, I1, rfl, q1⟩)
def tIf (t : TT) (ta tb : TE) : TE := fun σ H Q => t σ H fun c H1 => if c = true then ta σ H1 Q else tb σ H1 Q
theorem gr_ {c : Expr} (hc : PT X c tA) (ha : PE X a ta) (hb : PE X b tb) : PE X (.IfExp c a b pos) (tIf tA ta tb) := by
 intro pins s σ H Q I h
 refine wpAny_IfExp (thn (hc pins s σ H _ I h) fun d s1 ⟨H1, I1, q1⟩ => ?_)
 cases d with
 | true => exact ha pins s1 σ H1 Q I1 q1
 | false => exact hb pins s1 σ H1 Q I1 q1
end
end L2
namespace L2
open PySem PySem.Spec PyProof.Rows
def SqL (K : PySem.W.Frag) (H : Hp) (a : Addr) (xs : List V) : Prop :=
 Rd H a (.lst xs) ∨
  ∃ (o : Obj) (its : Array Value) (n : Nat), K.lookup a = some o ∧ o.cls = .type "list" ∧ o.dict = none ∧ o.data = .seq its n ∧ its.size ≤ sizeLine ∧ Vals xs its.toList
def SqT (K : PySem.W.Frag) (H : Hp) (a : Addr) (xs : List V) : Prop :=
 Rd H a (.tup xs) ∨
  ∃ (o : Obj) (its : Array Value) (n : Nat), K.lookup a = some o ∧ o.cls = .type "tuple" ∧ o.data = .seq its n ∧ its.size ≤ sizeLine ∧ Vals xs its.toList
def absV : Value → Option V
 | .none => some .non
 | .bool b => some (.bl b)
 | .int i _ => some (.int i)
 | .str x _ => some (.str x)
 | .bytes b _ => some (.byt b)
 | .float b _ => some (.flt b)
 | .ref a => some (.ref a)
 | .type n => some (.ty n)
 | _ => none
theorem RelV.abs {x : V} {u : Value} (r : RelV x u) : absV u = some x := by
 cases x with
 | non => cases r; rfl
 | bl _ => cases r; rfl
 | int _ => obtain ⟨t, rfl⟩ := r; rfl
 | str _ => obtain ⟨t, rfl⟩ := r; rfl
 | byt _ => obtain ⟨t, rfl⟩ := r; rfl
 | flt _ => obtain ⟨t, rfl⟩ := r; rfl
 | ref _ => cases r; rfl
 | ty _ => cases r; rfl
theorem RelV.inj {x y : V} {u : Value} (r : RelV x u) (q : RelV y u) : x = y := Option.some.inj (r.abs.symm.trans q.abs)
theorem Vals.inj : ∀ {xs ys : List V} {us : List Value}, Vals xs us → Vals ys us → xs = ys
 | _, _, _, .nil, .nil => rfl
 | _, _, _, .cons r t, .cons r' t' => by rw [r.inj r', Vals.inj t t']
section
variable {X : Cx} {pins : List (Addr × Obj)} {σ : St} {H : Hp} {s : Shared} {a : Addr} {xs ys : List V}
theorem SqL.of {K : PySem.W.Frag} (h : H a = some (.lst xs)) : SqL K H a xs := .inl (.inl h)
theorem SqT.of {K : PySem.W.Frag} (h : H a = some (.tup xs)) : SqT K H a xs := .inl (.inl h)
theorem Inv.list (I : Inv X pins σ H s) (h : SqL X.K H a xs) : ∃ its : List Value, Vals xs its ∧ PlainL s.heap a its.toArray ∧ xs.length ≤ sizeLine := by
 rcases h with h | ⟨o, its, n, hk, hc, hd, hs, hz, r⟩
 ·obtain ⟨z, its, n, r, e⟩ := h.ok I.hok
  exact ⟨its, r, ⟨_, n, e, rfl, rfl, rfl⟩, z⟩
 ·refine ⟨its.toList, r, ⟨o, n, I.kIn a o hk, hc, hd, by simpa using hs⟩, ?_⟩
  have e := r.length
  simp only [Array.length_toList] at e
  omega
theorem Inv.tuple (I : Inv X pins σ H s) (h : SqT X.K H a xs) : ∃ its : List Value, Vals xs its ∧ IsTup s.heap a its.toArray ∧ xs.length ≤ sizeLine := by
 rcases h with h | ⟨o, its, n, hk, hc, hs, hz, r⟩
 ·obtain ⟨z, its, r, p⟩ := h.ok I.hok
  exact ⟨its, r, p, z⟩
 ·refine ⟨its.toList, r, ⟨o, I.kIn a o hk, hc, n, by simpa using hs⟩, ?_⟩
  have e := r.length
  simp only [Array.length_toList] at e
  omega
theorem Inv.list_inj (I : Inv X pins σ H s) (h : SqL X.K H a xs) (h' : SqL X.K H a ys) : xs = ys := by
 obtain ⟨its, r, ⟨o, n, e, _, _, d⟩, _⟩ := I.list h
 obtain ⟨its', r', ⟨o', n', e', _, _, d'⟩, _⟩ := I.list h'
 rw [e] at e'; cases e'
 rw [d] at d'
 injection d' with d1 _
 have : its = its' := by simpa using congrArg Array.toList d1
 subst this
 exact r.inj r'
end
abbrev Cx.wish (X : Cx) (E : Value → Shared → Prop) : Cx := { X with xe := E }
abbrev Cx.nox (X : Cx) : Cx := X.wish fun _ _ => False
theorem Cx.Ok.wish {X : Cx} (ok : X.Ok) (E : Value → Shared → Prop) : (X.wish E).Ok :=
 ⟨ok.mod, ok.kind, ok.glob, ok.blt, ok.above, ok.inj, ok.has, ok.cab, ok.hd, ok.frames, ok.stk, ok.exf, ok.bs, ok.bsz, ok.noex, ok.exfs, ok.funs, ok.frf⟩
theorem Cx.Ok.unwish {X : Cx} {E : Value → Shared → Prop} (ok : (X.wish E).Ok) : X.Ok :=
 ⟨ok.mod, ok.kind, ok.glob, ok.blt, ok.above, ok.inj, ok.has, ok.cab, ok.hd, ok.frames, ok.stk, ok.exf, ok.bs, ok.bsz, ok.noex, ok.exfs, ok.funs, ok.frf⟩
section
variable {X : Cx} {pins : List (Addr × Obj)} {σ : St} {H : Hp} {s : Shared} {E : Value → Shared → Prop}
theorem Inv.wish (I : Inv X pins σ H s) (E : Value → Shared → Prop) : Inv (X.wish E) pins σ H s := ⟨I.ok.wish E, I.os, I.bare, I.base, I.loc, I.cell, I.free, I.freeC, I.pin, I.hok, I.len⟩
theorem Inv.unwish (I : Inv (X.wish E) pins σ H s) : Inv X pins σ H s := ⟨I.ok.unwish, I.os, I.bare, I.base, I.loc, I.cell, I.free, I.freeC, I.pin, I.hok, I.len⟩
theorem SP.unwish {D : Ends} {f : Flow} {s' : Shared} (h : SP (X.wish E) pins D f s') : SP X pins D f s' := by
 cases f with
 | next => obtain ⟨σ', H', I, q⟩ := h; exact ⟨σ', H', I.unwish, q⟩
 | brk => obtain ⟨σ', H', I, q⟩ := h; exact ⟨σ', H', I.unwish, q⟩
 | cont => obtain ⟨σ', H', I, q⟩ := h; exact ⟨σ', H', I.unwish, q⟩
 | ret u => obtain ⟨v, σ', H', I, r, q⟩ := h; exact ⟨v, σ', H', I.unwish, r, q⟩
theorem PE.nox {e : Expr} {t : TE} (h : PE X.nox e t) : PE X e t := fun pins s σ H Q I hw =>
 wpAny_mono (h pins s σ H Q (I.wish _) hw) (fun _ _ ⟨v, H', I', r, q⟩ => ⟨v, H', I'.unwish, r, q⟩) fun _ _ z => False.elim z
theorem PT.nox {e : Expr} {t : TT} (h : PT X.nox e t) : PT X e t := fun pins s σ H Q I hw =>
 wpAny_mono (h pins s σ H Q (I.wish _) hw) (fun _ _ ⟨H', I', q⟩ => ⟨H', I'.unwish, q⟩) fun _ _ z => False.elim z
theorem PSs.nox {st : List Stmt} {t : TS} (h : PSs X.nox st t) : PSs X st t := fun pins s σ H D I hw =>
 wpAny_mono (h pins s σ H D (I.wish _) hw) (fun _ _ q => q.unwish) fun _ _ z => False.elim z
end
section
variable {X : Cx} {st : Stmt} {rest : List Stmt} {t u : TS} {e : Expr} {te : TE} {pos : Pos}
def tNext : TS := fun D σ H => D.nx σ H
def tSeq (t u : TS) : TS := fun D σ H => t { D with nx := u D } σ H
theorem ar_ : PSs X [] tNext := fun _ _ σ H _ I h => wpAny_execs_nil ⟨σ, H, I, h⟩
theorem aa_ (h1 : PS X st t) (h2 : PSs X rest u) : PSs X (st :: rest) (tSeq t u) := by
 intro pins s σ H D I h
 refine wpAny_execs_cons (thn (h1 pins s σ H { D with nx := u D } I h) fun f s1 q => ?_)
 cases f with
 | next =>
  obtain ⟨σ', H', I', q⟩ := q
  exact h2 pins s1 σ' H' D I' q
 | ret v => exact q
 | brk => exact q
 | cont => exact q
theorem ae_ (h1 : PS X st t) : PSs X [st] t := by
 intro pins s σ H D I h
 refine wpAny_execs_cons (thn (h1 pins s σ H D I h) fun f s1 q => ?_)
 cases f with
 | next => exact wpAny_execs_nil q
 | ret v => exact q
 | brk => exact q
 | cont => exact q
theorem Inv.quiet {pins : List (Addr × Obj)} {σ : St} {H : Hp} {s : Shared} (I : Inv X pins σ H s) : interactive X.env = false := by simp [interactive, I.ok.kind]
def tDrop (te : TE) : TS := fun D σ H => te σ H fun _ H1 => D.nx σ H1
theorem n1_ (he : PE X e te) (hs : swapsWith e none pos.line X.env = pure false := by rfl) : PS X (.Expr e pos) (tDrop te) := by
 intro pins s σ H D I h
 exact wpAny_Expr_any (thn (he pins s σ H _ I h) fun v s1 ⟨x, H1, I1, r1, q1⟩ => ⟨σ, H1, I1, q1⟩) I.quiet hs
def tRet (te : TE) : TS := fun D σ H => te σ H D.rt
theorem ao_ (he : PE X e te) : PS X (.Return (some e) pos) (tRet te) := by
 intro pins s σ H D I h
 exact wpAny_Return_some (thn (he pins s σ H _ I h) fun v s1 ⟨x, H1, I1, r1, q1⟩ => ⟨x, σ, H1, I1, r1, q1⟩)
def tRetN : TS := fun D _ H => D.rt .non H
def tIfS (c : TT) (t u : TS) : TS := fun D σ H => c σ H fun b H1 => if b = true then t D σ H1 else u D σ H1
theorem ps_if {c : Expr} {a b : List Stmt} {tc : TT} (hc : PT X c tc) (ha : PSs X a t) (hb : PSs X b u) : PS X (.If c a b pos) (tIfS tc t u) := by
 intro pins s σ H D I h
 refine wpAny_If (thn (hc pins s σ H _ I h) fun d s1 ⟨H1, I1, q1⟩ => ?_)
 cases d with
 | true => exact ha pins s1 σ H1 D I1 q1
 | false => exact hb pins s1 σ H1 D I1 q1
def tNever : TS := fun _ _ _ => False
theorem mM_ : PS X st tNever := fun _ _ _ _ _ _ h => h.elim
theorem gI_ {sts : List Stmt} : PSs X sts tNever := fun _ _ _ _ _ _ h => h.elim
end
abbrev TG := V → St → Hp → (St → Hp → Prop) → Prop
abbrev TGs := List V → St → Hp → (St → Hp → Prop) → Prop
def PG (X : Cx) (target : Expr) (t : TG) : Prop :=
 ∀ (pins : List (Addr × Obj)) (s : Shared) (σ : St) (H : Hp) (v : V) (u : Value) (Q : St → Hp → Prop), Inv X pins σ H s → RelV v u → t v σ H Q →
  wpAny (model X.prog X.w) X.A (assign target X.env u) (fun _ s' => ∃ σ' H', Inv X pins σ' H' s' ∧ Q σ' H') X.xe s
def PGs (X : Cx) (ts : List Expr) (t : TGs) : Prop :=
 ∀ (pins : List (Addr × Obj)) (s : Shared) (σ : St) (H : Hp) (vs : List V) (us : List Value) (Q : St → Hp → Prop), Inv X pins σ H s → Vals vs us → t vs σ H Q →
  wpAny (model X.prog X.w) X.A (assignInOrder ((assignEach ts X.env).map (·.2)) us) (fun _ s' => ∃ σ' H', Inv X pins σ' H' s' ∧ Q σ' H') X.xe s
abbrev TSet := V → V → V → Hp → (Hp → Prop) → Prop
def PSet (X : Cx) (t : TSet) : Prop :=
 ∀ (pins : List (Addr × Obj)) (s : Shared) (σ : St) (H : Hp) (o i v : V) (ov iv u : Value) (Q : Hp → Prop), Inv X pins σ H s → RelV o ov → RelV i iv → RelV v u → t o i v H Q →
  wpAny (model X.prog X.w) X.A (setItem ov iv u) (fun _ s' => ∃ H', Inv X pins σ H' s' ∧ Q H') X.xe s
section
variable {X : Cx} {pos : Pos}
def gName (i : Nat) : TG := fun v σ H Q => Q (σ.set i (some v)) H
theorem lq_ {i : Nat} {x : Str} (hN : X.N.Nodup) (hi : X.N[i]? = some x) (hx : Loc X.env.scope x) (hf : X.fn x = true ∨ X.env.scope.names.lookup x = some .local := by first | exact .inl rfl | exact .inr rfl | assumption) : PG X (.Name x pos) (gName i) := by
 intro pins s σ H v u Q I r h
 exact wpAny_assign_Name (fb_ I hN hi hx r (fun s' I' => ⟨_, H, I', h⟩) hf)
def gNil : TGs := fun vs σ H Q => vs = [] ∧ Q σ H
def gCons (t : TG) (u : TGs) : TGs := fun vs σ H Q => ∃ v r, vs = v :: r ∧ t v σ H fun σ' H' => u r σ' H' Q
theorem bQ_ : PGs X [] gNil := by
 intro pins s σ H vs us Q I r h
 obtain ⟨e, h⟩ := h
 subst e
 cases r
 exact assignInOrder_nil ⟨σ, H, I, h⟩
theorem aB_ {e : Expr} {es : List Expr} {t : TG} {u : TGs} (h1 : PG X e t) (h2 : PGs X es u)
  (hs : (assignEach (e :: es) X.env).map (·.2) = assign e X.env :: (assignEach es X.env).map (·.2) := by rfl) : PGs X (e :: es) (gCons t u) := by
 intro pins s σ H vs us Q I r h
 obtain ⟨v, vr, e1, h⟩ := h
 subst e1
 cases r with
 | cons r rr =>
  rw [hs]
  refine assignInOrder_cons (thn (h1 pins s σ H _ _ _ I r h) fun _ s1 ⟨σ1, H1, I1, q1⟩ => ?_)
  exact h2 pins s1 σ1 H1 _ _ Q I1 rr q1
def gTup (K : PySem.W.Frag) (n : Nat) (t : TGs) : TG := fun v σ H Q => ∃ a xs, v = .ref a ∧ SqT K H a xs ∧ xs.length = n ∧ t xs σ H Q
theorem oO_ {es : List Expr} {k : Nat} {t : TGs} {n : Nat} (hc : X.calm = true) (h : PGs X es t)
  (hn : (assignEach es X.env).length = n := by rfl) (hst : (assignEach es X.env).findIdx? (·.1) = none := by rfl) : PG X (.Tuple es k pos) (gTup X.K n t) := by
 intro pins s σ H v u Q I r hw
 obtain ⟨a, xs, e1, hq, hl, hw⟩ := hw
 subst e1
 cases r
 obtain ⟨its, rv, ht, hz⟩ := I.tuple hq
 refine assign_Tuple_tuple (I.ok.hd hc) ht (by simp [hn, ← hl, rv.length]) hst fun h' hx => ?_
 have I1 : Inv X pins σ H { s with heap := h' } := I.kept (t' := s.toks) fun b o e => hx b o (Nat.ne_of_lt (Heap.lt_size e)) e
 exact h pins _ σ H xs _ Q I1 (by simpa using rv) hw
def gSub (to ti : TE) (t : TSet) : TG := fun v σ H Q => to σ H fun o H1 => ti σ H1 fun i H2 => t o i v H2 fun H3 => Q σ H3
theorem ki_ {o i : Expr} {to ti : TE} {t : TSet} (ho : PE X o to) (hi : PE X i ti) (hs : PSet X t)
  (ha : ∀ v, assign (.Subscript o i pos) X.env v = (do
   let ov ← holding [v] (eval o X.env)
   let iv ← holding [v, ov] (eval i X.env)
   standAt pos
   holding [v, ov, iv] (setItem ov iv v)
   release [v, ov, iv] []) := by intro _; rfl) : PG X (.Subscript o i pos) (gSub to ti t) := by
 intro pins s σ H v u Q I r h
 rw [ha]
 refine wpAny_bind (wpAny_holding (thn (ho pins s σ H _ I h) fun ov s1 ⟨x, H1, I1, r1, q1⟩ => ?_))
 refine wpAny_bind (wpAny_holding (thn (hi pins s1 σ H1 _ I1 q1) fun iv s2 ⟨y, H2, I2, r2, q2⟩ => ?_))
 refine wpAny_bind (wpAny_standAt (wpAny_bind (wpAny_holding (thn (hs pins s2 σ H2 x y v ov iv u _ I2 r1 r2 r q2) fun _ s3 ⟨H3, I3, q3⟩ => ?_))))
 exact wpAny_release ⟨σ, H3, I3, q3⟩
def tAsg (te : TE) (g : TG) : TS := fun D σ H => te σ H fun x H1 => g x σ H1 D.nx
theorem fd_ {tg e : Expr} {te : TE} {g : TG} (he : PE X e te) (hg : PG X tg g) (hs : swapsWithSole [tg] e pos.line X.env = pure false := by rfl) (hw : swappedStores [tg] e X.env = pure none := by rfl)
  (h1 : (assignEach [tg] X.env).map (·.2) = [assign tg X.env] := by rfl) : PS X (.Assign [tg] e pos) (tAsg te g) := by
 intro pins s σ H D I h
 refine wpAny_Assign_stores (thn (he pins s σ H _ I h) fun v s1 ⟨x, H1, I1, r1, q1⟩ => ?_) hs hw
 rw [h1]
 exact thn (hg pins s1 σ H1 x v _ I1 r1 q1) fun _ s2 q => q
theorem nr_ {i : Nat} {x : Str} {e : Expr} {te : TE} {pos' : Pos} (hN : X.N.Nodup) (hi : X.N[i]? = some x) (hx : Loc X.env.scope x) (he : PE X e te) (hs : swapsWith e (some (.Name x pos')) pos.line X.env = pure false := by rfl) (hf : X.fn x = true ∨ X.env.scope.names.lookup x = some .local := by first | exact .inl rfl | exact .inr rfl | assumption) :
  PS X (.Assign [.Name x pos'] e pos) (tAsg te (gName i)) := by
 intro pins s σ H D I h
 refine wpAny_Assign_Name (thn (he pins s σ H _ I h) fun v s1 ⟨y, H1, I1, r1, q1⟩ => ?_) hs
 exact fb_ I1 hN hi hx r1 (fun s2 I2 => ⟨_, H1, I2, q1⟩) hf
def tPar (i j : Nat) (ta : TA) : TS := fun D σ H => ta σ H fun vs H1 => ∃ v w, vs = [v, w] ∧ D.nx ((σ.set i (some v)).set j (some w)) H1
theorem ns_ {i j : Nat} {x y : Str} {a b : Expr} {ta : TA} {px py pt : Pos} {kt k2 pt2} (hc : X.calm = true) (hN : X.N.Nodup) (hi : X.N[i]? = some x) (hj : X.N[j]? = some y) (hij : i ≠ j)
  (hx : X.env.scope.names.lookup x = some .local) (hy : X.env.scope.names.lookup y = some .local) (ha : PA X [a, b] ta)
  (hw : swappedStores [.Tuple [.Name x px, .Name y py] kt pt] (.Tuple [a, b] k2 pt2) X.env = pure (some [x, y]))
  (hs : swapsWithSole [.Tuple [.Name x px, .Name y py] kt pt] (.Tuple [a, b] k2 pt2) pos.line X.env = pure false := by rfl) :
  PS X (.Assign [.Tuple [.Name x px, .Name y py] kt pt] (.Tuple [a, b] k2 pt2) pos) (tPar i j ta) := by
 intro pins s σ H D I h
 rw [exec_Assign_arm]
 refine wpAny_bind (wpAny_standAt ?_)
 rw [hs]
 refine wpAny_bind (wpAny_pure ?_)
 rw [if_neg (by decide)]
 refine wpAny_bind (Tuple_ (thn (ha _ pins s σ H _ I h) fun us s1 ⟨vs, H1, I1, r1, q1⟩ => ?_))
 obtain ⟨v, w, e1, q1⟩ := q1
 subst e1
 obtain ⟨u1, u2, rfl, rv, rw'⟩ : ∃ u1 u2, us = [u1, u2] ∧ RelV v u1 ∧ RelV w u2 := by
  cases r1 with
  | cons p q =>
   cases q with
   | cons p' q' =>
    cases q'
    exact ⟨_, _, rfl, p, p'⟩
 refine wpAny_newObj_type ?_ (by show 2 ≤ sizeLine; decide)
 have I2 : Inv X pins σ H1 { s1 with heap := s1.heap.push { cls := .type "tuple", data := .seq [u1, u2].toArray } } := I1.kept (t' := s1.toks) fun b o e => Heap.get?_push_of_some _ e
 rw [hw]
 refine wpAny_bind (wpAny_pure ?_)
 show wpAny (model X.prog X.w) X.A (do rule "assign.swapped-stores"; let items ← unpackItems (.ref s1.heap.objs.size) 2 none; assignInOrder [fun v => bindName X.env y v, fun v => bindName X.env x v] items.reverse; pure Flow.next) _ _ _
 refine wpAny_bind (wpAny_rule (wpAny_bind (unpackItems_tuple (items := #[u1, u2]) (I.ok.hd hc) (IsTup.new s1.heap _) fun h' hx' => ?_)))
 have I3 := I2.kept (h' := h') (t' := s1.toks) fun b o e => hx' b o (Nat.ne_of_lt (Heap.lt_size e)) e
 show wpAny _ _ (assignInOrder [fun v => bindName X.env y v, fun v => bindName X.env x v] [u2, u1] >>= fun _ => pure Flow.next) _ _ _
 refine wpAny_bind (assignInOrder_cons (wpAny_bindName (fb_ I3 hN hj (.inl hy) rw' (fun s2 I4 => ?_) (.inr hy))))
 refine assignInOrder_cons (wpAny_bindName (fb_ I4 hN hi (.inl hx) rv (fun s3 I5 => assignInOrder_nil (wpAny_pure ?_)) (.inr hx)))
 rw [List.set_comm _ _ (Ne.symm hij)] at I5
 exact ⟨_, H1, I5, q1⟩
end
section
variable {X : Cx} {pos : Pos}
def tWhile (c : TT) (tb : TS) : TS := fun D σ H => ∃ W : Nat → St → Hp → Prop, (∃ m, W m σ H) ∧ ∀ m σ H, W m σ H →
 c σ H fun b H1 => if b = true then ∃ N : St → Hp → Prop, (∀ σ' H', N σ' H' → ∃ m', m' < m ∧ W m' σ' H') ∧ tb { D with nx := N, ct := N, bk := D.nx } σ H1 else D.nx σ H1
theorem ew_ {c : Expr} {body : List Stmt} {tc : TT} {tb : TS} (hp : PassesOwn (model X.prog X.w) X.A X.env X.xe) (hc : PT X c tc) (hb : PSs X body tb) : PS X (.While c body [] pos) (tWhile tc tb) := by
 intro pins s σ H D I h
 obtain ⟨W, ⟨m0, w0⟩, turn⟩ := h
 refine wpAny_While (codeAny_whileLoop (fun n s' => ∃ σ' H', Inv X pins σ' H' s' ∧ W n σ' H') ?_ m0 ⟨σ, H, I, w0⟩)
 rintro n s1 ⟨σ1, H1, I1, w1⟩
 refine wpAny_passesOwn hp (thn (hc pins s1 σ1 H1 _ I1 (turn n σ1 H1 w1)) fun b s2 ⟨H2, I2, q2⟩ => ?_)
 cases b with
 | true =>
  obtain ⟨N, hN, q2⟩ := q2
  rw [if_pos rfl]
  refine wpAny_passesOwn hp (thn (hb pins s2 σ1 H2 _ I2 q2) fun f s3 q3 => ?_)
  cases f with
  | next =>
   obtain ⟨σ3, H3, I3, n3⟩ := q3
   obtain ⟨m', hm, w3⟩ := hN σ3 H3 n3
   exact ⟨m', hm, σ3, H3, I3, w3⟩
  | cont =>
   obtain ⟨σ3, H3, I3, n3⟩ := q3
   obtain ⟨m', hm, w3⟩ := hN σ3 H3 n3
   exact ⟨m', hm, σ3, H3, I3, w3⟩
  | brk => exact q3
  | ret v => exact q3
 | false =>
  rw [if_neg Bool.false_ne_true]
  exact wpAny_execs_nil ⟨σ1, H2, I2, q2⟩
end
structure It where
 go : Nat → Hp → Prop
 yld : Nat → Hp → V → Hp → Prop
 stop : Nat → Hp → Prop
def FpOk (X : Cx) (pins : List (Addr × Obj)) (H : Hp) (b : Addr) : Prop :=
 H b = none ∧ b ≠ X.env.locals ∧ b ∉ X.fs ∧ (b ∈ X.ex ∨ X.s₀.heap.objs.size ≤ b) ∧ (∀ x c, X.env.cells.lookup x = some c → c ≠ b) ∧ ∀ p ∈ X.pn ++ pins, p.1 ≠ b
theorem Inv.fpOk {X : Cx} {pins : List (Addr × Obj)} {σ : St} {H H' : Hp} {s : Shared} {b : Addr} (I : Inv X pins σ H s) (hb : s.heap.objs.size ≤ b) (hn : H' b = none) : FpOk X pins H' b := by
 refine ⟨hn, Nat.ne_of_gt (Nat.lt_of_lt_of_le I.lt hb), I.nofs hb, .inr (Nat.le_trans I.sz hb), fun x c e z => ?_, fun p hp z => ?_⟩
 ·obtain ⟨v, q⟩ := I.cell x c e
  exact absurd (Nat.lt_of_lt_of_le q.lt (by rw [z]; exact hb)) (Nat.lt_irrefl _)
 ·exact absurd (Nat.lt_of_lt_of_le (Heap.lt_size (I.pin p hp).1) (by rw [z]; exact hb)) (Nat.lt_irrefl _)
structure Turn (P : Program) (w : World) (K : PySem.W.Frag) (tg : Expr) (J : It) (fp : List Addr) (it : Addr) (tn : Nat → Heap → Prop) : Prop where
 mem : it ∈ fp
 obj : ∀ i h, tn i h → ∀ b ∈ fp, ∃ o, h.get? b = some o ∧ ∀ v, o.data ≠ .cell v
 keep : ∀ i h h', tn i h → (∀ b ∈ fp, ∀ o, h.get? b = some o → h'.get? b = some o) → tn i h'
 item : ∀ (X : Cx), X.prog = P → X.w = w → X.K = K → X.calm = true → ∀ (i : Nat) (pins : List (Addr × Obj)) (s : Shared) (σ : St) (H : Hp) (E : Value → Shared → Prop), Inv X pins σ H s → (∀ b ∈ fp, FpOk X pins H b) → tn i s.heap → J.go i H →
  wpAny (model P w) X.A (pyNext (.ref it)) (fun r s1 => ∃ u, r = some u ∧
   wpAny (model P w) X.A (letOwnedTupleGo tg (.ref it) u) (fun _ s2 => ∃ x H', Inv X pins σ H' s2 ∧ RelV x u ∧ J.yld i H x H' ∧ tn (i + 1) s2.heap ∧ ∀ b ∈ fp, H' b = none) E s1) E s
 done : ∀ (X : Cx), X.prog = P → X.w = w → X.K = K → X.calm = true → ∀ (i : Nat) (pins : List (Addr × Obj)) (s : Shared) (σ : St) (H : Hp) (E : Value → Shared → Prop), Inv X pins σ H s → (∀ b ∈ fp, FpOk X pins H b) → tn i s.heap → J.stop i H →
  wpAny (model P w) X.A (pyNext (.ref it)) (fun r s1 => r = none ∧ Inv X pins σ H s1) E s
 self : ∀ (A : Around) (i : Nat) (s : Shared) (Q : Value → Shared → Prop) (E : Value → Shared → Prop), tn i s.heap → Q (.ref it) s → wpAny (model P w) A (pyIter (.ref it)) Q E s
abbrev TI := St → Hp → (It → Hp → Prop) → Prop
def PIE (X : Cx) (pins : List (Addr × Obj)) (σ : St) (tg : Expr) (R : It → Hp → Prop) (itv : Value) (s2 : Shared) : Prop :=
 ∃ (it : Addr) (fp : List Addr) (tn : Nat → Heap → Prop) (J : It) (H' : Hp), itv = .ref it ∧ Inv X pins σ H' s2 ∧ Turn X.prog X.w X.K tg J fp it tn ∧ tn 0 s2.heap ∧ (∀ b ∈ fp, FpOk X pins H' b) ∧ R J H'
def PI (X : Cx) (tg iter : Expr) (wi : TI) : Prop :=
 ∀ (pins : List (Addr × Obj)) (s : Shared) (σ : St) (H : Hp) (R : It → Hp → Prop), Inv X pins σ H s → wi σ H R →
  wpAny (model X.prog X.w) X.A (eval iter X.env) (fun v s1 => wpAny (model X.prog X.w) X.A (pyIter v) (PIE X pins σ tg R) X.xe s1) X.xe s
theorem go_of {M : Model} {A : Around} {E : Value → Shared → Prop} {s : Shared} {tg : Expr} {it : Addr} {u : Value} {o : Obj} {n : String} {vs : Array Value} {Q : Unit → Shared → Prop} (ho : s.heap.get? it = some o) (hc : o.cls = .type n) (hd : o.data = .fields vs)
    (hn : ["enumerate", "zip", "dict_itemiterator", "dict_reverseitemiterator", "odict_iterator", "itertools.zip_longest", "itertools.pairwise"].contains n = false) (hQ : Q () s) : wpAny M A (letOwnedTupleGo tg (.ref it) u) Q E s := by
  unfold letOwnedTupleGo
  cases tg <;> first
    | exact wpAny_pure hQ
    | (cases u <;> first
        | exact wpAny_pure hQ
        | (refine wpAny_bind (wpAny_load ho ?_)
           rw [hc, hd]
           show wpAny M A (if (["enumerate", "zip", "dict_itemiterator", "dict_reverseitemiterator", "odict_iterator", "itertools.zip_longest", "itertools.pairwise"].contains n && vs[0]? == some (rawInt _)) = true then _ else _) Q E s
           rw [if_neg (by intro h; rw [hn, Bool.false_and] at h; cases h)]
           exact wpAny_pure hQ))
def Itl (K : PySem.W.Frag) (a : Addr) : It :=
 ⟨fun i H => ∃ xs x, SqL K H a xs ∧ xs[i]? = some x, fun i H x H' => H' = H ∧ ∀ xs, SqL K H a xs → xs[i]? = some x, fun i H => ∃ xs, SqL K H a xs ∧ xs.length ≤ i⟩
def Itr (lo : Int) (n : Nat) : It := ⟨fun i _ => i < n, fun i H x H' => H' = H ∧ x = .int (lo + i), fun i _ => n ≤ i⟩
theorem lr_ {P : Program} {w : World} {K : PySem.W.Frag} {tg : Expr} (a it : Addr) : Turn P w K tg (Itl K a) [it] it (fun i h => h.IsListIter it a i) where
 mem := by simp
 obj := fun i h st b hb => by
  have e : b = it := by simpa using hb
  subst e
  obtain ⟨o, e, c, d⟩ := st
  exact ⟨o, e, fun v z => by rw [d] at z; cases z⟩
 keep := fun i h h' st k => st.at fun o e => k it (by simp) o e
 item := by
  intro X hP hw hK hc i pins s σ H E I hf st hg
  subst hP hw hK
  obtain ⟨xs, x, hq, hx⟩ := hg
  obtain ⟨its, rv, p, hz⟩ := I.list hq
  obtain ⟨u, hu, ru⟩ := rv.get hx
  obtain ⟨f0, f1, f2, f3, f4, f5⟩ := hf it (by simp)
  refine wpAny_pyNext_list_item st p.isList (x := u) (by simpa using hu) fun h' st' sb => ?_
  have I1 : Inv X pins σ H { s with heap := h' } := I.turned (t' := s.toks) (fun b o hb e => (sb.2 b hb).trans e) f0 f1 f3 f4 f5
  obtain ⟨o, e, c, d⟩ := id st'
  exact ⟨u, rfl, go_of (s := { s with heap := h' }) e c d (by decide) ⟨x, H, I1, ru, ⟨rfl, fun ys hy => by rw [I.list_inj hy hq]; exact hx⟩, st', fun b hb => (hf b hb).1⟩⟩
 done := by
  intro X hP hw hK hc i pins s σ H E I hf st hg
  subst hP hw hK
  obtain ⟨xs, hq, hx⟩ := hg
  obtain ⟨its, rv, p, hz⟩ := I.list hq
  obtain ⟨f0, f1, f2, f3, f4, f5⟩ := hf it (by simp)
  have hl := rv.length
  exact wpAny_pyNext_list_end (I.ok.hd hc) st p.isList (by simp; omega) fun h' eb => ⟨rfl, I.turned (t' := s.toks) (fun b o hb e => eb b o hb e) f0 f1 f3 f4 f5⟩
 self := fun _ _ _ _ _ st h => wpAny_pyIter_listiter st h
theorem kS_ {P : Program} {w : World} {K : PySem.W.Frag} {tg : Expr} (it : Addr) (lo : Int) (n : Nat) : Turn P w K tg (Itr lo n) [it] it (fun i h => IsRangeIter h it (lo + (i : Nat) * 1) ((n : Int) - (i : Nat)) 1) where
 mem := by simp
 obj := fun i h st b hb => by
  have e : b = it := by simpa using hb
  subst e
  exact ⟨_, st, fun v z => by
   have z' : Data.fields _ = Data.cell v := z
   cases z'⟩
 keep := fun i h h' st k => k it (by simp) _ st
 item := by
  intro X hP hw hK hc i pins s σ H E I hf st hg
  subst hP hw hK
  obtain ⟨f0, f1, f2, f3, f4, f5⟩ := hf it (by simp)
  have W := Walks.range (prog := X.prog) (w := X.w) (I.ok.hd hc) it lo 1 n
  refine W.item i s _ _ hg st fun v h' tk hv st' kk => ?_
  obtain ⟨t, rfl⟩ := hv
  have I1 : Inv X pins σ H { s with heap := h', toks := tk } := I.turned (fun b o hb e => kk b o (by simpa using hb) e) f0 f1 f3 f4 f5
  refine ⟨_, rfl, go_of (s := { s with heap := h', toks := tk }) (n := "range_iterator") st' rfl rfl (by decide) ⟨.int (lo + i), H, I1, ⟨t, ?_⟩, ⟨rfl, rfl⟩, st', fun b hb => (hf b hb).1⟩⟩
  rw [Int.mul_one]
 done := by
  intro X hP hw hK hc i pins s σ H E I hf st hg
  subst hP hw hK
  obtain ⟨f0, f1, f2, f3, f4, f5⟩ := hf it (by simp)
  exact wpAny_pyNext_range_end (I.ok.hd hc) st (by have : n ≤ i := hg; omega) fun h' eb => ⟨rfl, I.turned (t' := s.toks) (fun b o hb e => eb b o hb e) f0 f1 f3 f4 f5⟩
 self := fun _ _ _ _ _ st h => wpAny_pyIter_rangeiter st h
end L2
namespace L2
open PySem PySem.Spec PyProof.Rows
section
variable {X : Cx} {tg : Expr}
def iList (K : PySem.W.Frag) (tl : TE) : TI := fun σ H R => tl σ H fun x H1 => ∃ a, x = .ref a ∧ (∃ xs, SqL K H1 a xs) ∧ R (Itl K a) H1
theorem n2_ {l : Expr} {tl : TE} (hl : PE X l tl) : PI X tg l (iList X.K tl) := by
 intro pins s σ H R I h
 refine thn (hl pins s σ H _ I h) fun v s1 ⟨x, H1, I1, r1, q1⟩ => ?_
 obtain ⟨a, e, ⟨xs, hq⟩, q⟩ := q1
 subst e
 cases r1
 obtain ⟨its, rv, p, hz⟩ := I1.list hq
 refine wpAny_pyIter_list p.isList ?_
 refine ⟨s1.heap.objs.size, [s1.heap.objs.size], _, _, H1, rfl, I1.kept (t' := s1.toks) fun b o e => Heap.get?_push_of_some _ e, lr_ a _, ⟨_, Heap.get?_push_size _ rfl, rfl, rfl⟩, fun b hb => ?_, q⟩
 have e : b = s1.heap.objs.size := by simpa using hb
 subst e
 exact I1.fpOk (Nat.le_refl _) (I1.hok.fresh (Nat.le_refl _))
theorem kj_ {pins : List (Addr × Obj)} {σ : St} {H : Hp} {s : Shared} {R : It → Hp → Prop} {E : Value → Shared → Prop} {lo hi : Int} {t u v : Tok} {tk : Nat} (I : Inv X pins σ H s) (h1 : -(2 ^ 62) ≤ lo) (h2 : lo < 2 ^ 62) (h3 : -(2 ^ 62) ≤ hi) (h4 : hi < 2 ^ 62)
  (q : R (Itr lo (hi - lo).toNat) H) : wpAny (model X.prog X.w) X.A (pyIter (.ref s.heap.objs.size)) (PIE X pins σ tg R) E { s with heap := s.heap.push { cls := .type "range", data := .fields #[.int lo t, .int hi u, .int 1 v] }, toks := tk } := by
 refine wpAny_pyIter_range (IsRange.new ..) (small_one h1 h2 h3 h4) ?_
 have I1 : Inv X pins σ H { s with heap := s.heap.push { cls := .type "range", data := .fields #[.int lo t, .int hi u, .int 1 v] }, toks := tk } := I.kept fun b o e => Heap.get?_push_of_some _ e
 refine ⟨(s.heap.push { cls := .type "range", data := .fields #[.int lo t, .int hi u, .int 1 v] }).objs.size, [(s.heap.push { cls := .type "range", data := .fields #[.int lo t, .int hi u, .int 1 v] }).objs.size], _, _, H, rfl,
  I1.kept (t' := tk) fun b o e => Heap.get?_push_of_some _ e, kS_ _ lo (hi - lo).toNat, ?_, fun b hb => ?_, q⟩
 ·have e1 : lo + ((0 : Nat) : Int) * 1 = lo := by simp
  have e2 : (((hi - lo).toNat : Nat) : Int) - ((0 : Nat) : Int) = Builtin.Range.rangeSize lo hi 1 := by rw [rangeSize_one]; split <;> omega
  show IsRangeIter _ _ (lo + ((0 : Nat) : Int) * 1) ((((hi - lo).toNat : Nat) : Int) - ((0 : Nat) : Int)) 1
  rw [e1, e2]
  exact Heap.get?_push_size _ rfl
 ·have e : b = (s.heap.push { cls := .type "range", data := .fields #[.int lo t, .int hi u, .int 1 v] }).objs.size := by simpa using hb
  subst e
  exact I1.fpOk (Nat.le_refl _) (I1.hok.fresh (Nat.le_refl _))
def iRng1 (ta : TA) : TI := fun σ H R => ta σ H fun vs H1 => ∃ j : Int, vs = [.int j] ∧ -(2 ^ 62) ≤ j ∧ j < 2 ^ 62 ∧ R (Itr 0 j.toNat) H1
def iRng2 (ta : TA) : TI := fun σ H R => ta σ H fun vs H1 => ∃ i j : Int, vs = [.int i, .int j] ∧ (-(2 ^ 62) ≤ i ∧ i < 2 ^ 62 ∧ -(2 ^ 62) ≤ j ∧ j < 2 ^ 62) ∧ R (Itr i (j - i).toNat) H1
theorem bg_ {a : Expr} {ta : TA} {p pos : Pos} (hg : Gl X "range") (hm : X.mg "range" = none) (ha : PA X [a] ta) (hs : starEach [a] X.env = [(false, eval a X.env)] := by rfl) : PI X tg (.Call (.Name "range" p) [a] [] pos) (iRng1 ta) := by
 intro pins s σ H R I h
 refine Call_ (d8_ I hg hm boot_range (PyProof.Rows.callWith_type1 (thn (ha pos pins s σ H _ I h) fun us s1 ⟨vs, H1, I1, r1, q1⟩ => ?_) hs rfl))
 obtain ⟨j, e, q1, q2, q⟩ := q1
 subst e
 cases r1 with
 | cons r rr =>
  cases rr
  obtain ⟨t, rfl⟩ := r
  exact call_range_1 (kj_ I1 (by omega) (by omega) q1 q2 (by simpa using q))
theorem ls_ {a b : Expr} {ta : TA} {p pos : Pos} (hg : Gl X "range") (hm : X.mg "range" = none) (ha : PA X [a, b] ta) (hs : starEach [a, b] X.env = [(false, eval a X.env), (false, eval b X.env)] := by rfl) (hs2 : starEach [b] X.env = [(false, eval b X.env)] := by rfl) :
  PI X tg (.Call (.Name "range" p) [a, b] [] pos) (iRng2 ta) := by
 intro pins s σ H R I h
 refine Call_ (d8_ I hg hm boot_range (PyProof.Rows.callWith_type1 (thn (ha pos pins s σ H _ I h) fun us s1 ⟨vs, H1, I1, r1, q1⟩ => ?_) (by rw [hs, hs2]) (by rw [hs2]; rfl)))
 obtain ⟨i, j, e, ⟨q1, q2, q3, q4⟩, q⟩ := q1
 subst e
 cases r1 with
 | cons r rr =>
  cases rr with
  | cons r' rr =>
   cases rr
   obtain ⟨t, rfl⟩ := r
   obtain ⟨t', rfl⟩ := r'
   exact call_range_2 (kj_ I1 q1 q2 q3 q4 q)
def tFor (wi : TI) (g : TG) (tb : TS) : TS := fun D σ H => wi σ H fun J H1 => ∃ W : Nat → Nat → St → Hp → Prop, (∃ m, W 0 m σ H1) ∧ ∀ i m σ H, W i m σ H →
 (J.stop i H ∧ D.nx σ H) ∨ (J.go i H ∧ ∃ N : St → Hp → Prop, (∀ σ' H', N σ' H' → ∃ m', m' < m ∧ W (i + 1) m' σ' H') ∧ ∀ x H', J.yld i H x H' → g x σ H' fun σ2 H2 => tb { D with nx := N, ct := N, bk := D.nx } σ2 H2)
def pinsAt (fp : List Addr) (h : Heap) : List (Addr × Obj) := fp.filterMap fun b => (h.get? b).map fun o => (b, o)
theorem ex_ {fp : List Addr} {h : Heap} {b : Addr} {o : Obj} (hb : b ∈ fp) (e : h.get? b = some o) : (b, o) ∈ pinsAt fp h := List.mem_filterMap.mpr ⟨b, hb, by rw [e]; rfl⟩
theorem lt_ {fp : List Addr} {h : Heap} {p : Addr × Obj} (hp : p ∈ pinsAt fp h) : p.1 ∈ fp ∧ h.get? p.1 = some p.2 := by
 obtain ⟨b, hb, e⟩ := List.mem_filterMap.mp hp
 cases q : h.get? b with
 | none => rw [q] at e; cases e
 | some o =>
  rw [q] at e
  have e' : (b, o) = p := Option.some.inj e
  subst e'
  exact ⟨hb, q⟩
theorem Inv.pinned {pins : List (Addr × Obj)} {σ : St} {H : Hp} {s : Shared} {fp : List Addr} (I : Inv X pins σ H s) (hf : ∀ b ∈ fp, FpOk X pins H b) (ho : ∀ b ∈ fp, ∃ o, s.heap.get? b = some o ∧ ∀ v, o.data ≠ .cell v) : Inv X (pins ++ pinsAt fp s.heap) σ H s :=
 I.pins_of fun p hp => (List.mem_append.mp hp).elim (fun z => I.pin p (List.mem_append_right _ z)) fun z => by
  obtain ⟨hb, e⟩ := lt_ z
  obtain ⟨f0, f1, f2, _⟩ := hf p.1 hb
  obtain ⟨o, e', d⟩ := ho p.1 hb
  rw [e] at e'; cases e'
  exact ⟨e, f0, f1, f2, d⟩
theorem Inv.unpinned {pins pl : List (Addr × Obj)} {σ : St} {H : Hp} {s : Shared} (I : Inv X (pins ++ pl) σ H s) : Inv X pins σ H s := I.pins_of fun p hp => I.pin p (List.mem_append_right _ (List.mem_append_left _ hp))
theorem cB_ {iter : Expr} {body : List Stmt} {wi : TI} {g : TG} {tb : TS} {pos : Pos} (hp : PassesOwn (model X.prog X.w) X.A X.env X.xe) (hc : X.calm = true) (hi : PI X tg iter wi) (hg : PG X tg g) (hb : PSs X body tb)
  (hs : ∀ x, foldedSetIterable iter X.env x = pure x := by intro _; rfl) : PS X (.For tg iter body [] pos) (tFor wi g tb) := by
 intro pins s σ H D I h
 refine wpAny_For (thn (hi pins s σ H _ I h) fun v s1 h1 => thn h1 fun itv s2 h2 => ?_) hs
 obtain ⟨it, fp, tn, J, H2, e, I2, T, st2, f2, W, ⟨m0, w0⟩, turn⟩ := h2
 subst e
 -- what stays true of the iterator's objects through the loop
 have stat : ∀ {H' : Hp}, (∀ b ∈ fp, H' b = none) → ∀ b ∈ fp, FpOk X pins H' b := fun hn b hb => ⟨hn b hb, (f2 b hb).2⟩
 refine codeAny_forLoop_any (fun n s' => ∃ i σ' H', Inv X pins σ' H' s' ∧ tn i s'.heap ∧ (∀ b ∈ fp, H' b = none) ∧ W i n σ' H') ?_ m0 ⟨0, σ, H2, I2, st2, fun b hb => (f2 b hb).1, w0⟩
 rintro n s3 ⟨i, σ3, H3, I3, st3, fr3, w3⟩
 rcases turn i n σ3 H3 w3 with ⟨stop, qn⟩ | ⟨go, N, hN, step⟩
 ·refine wpAny_passesOwn hp (thn (T.done X rfl rfl rfl hc i pins s3 σ3 H3 X.xe I3 (stat fr3) st3 stop) fun r s4 ⟨hr, I4⟩ => ?_)
  subst hr
  exact wpAny_execs_nil ⟨σ3, H3, I4, qn⟩
 ·refine wpAny_passesOwn hp (thn (T.item X rfl rfl rfl hc i pins s3 σ3 H3 X.xe I3 (stat fr3) st3 go) fun r s4 ⟨u, hr, h4⟩ => ?_)
  subst hr
  refine wpAny_passesOwn hp (thn h4 fun _ s5 ⟨x, H5, I5, r5, y5, st5, fr5⟩ => ?_)
  have I5' := I5.pinned (stat fr5) (T.obj _ _ st5)
  refine wpAny_passesOwn hp (thn (hg _ s5 σ3 H5 x u _ I5' r5 (step x H5 y5)) fun _ s6 ⟨σ6, H6, I6, q6⟩ => ?_)
  refine wpAny_passesOwn hp (thn (hb _ s6 σ6 H6 _ I6 q6) fun f s7 q7 => ?_)
  have again : ∀ {σ7 : St} {H7 : Hp}, Inv X (pins ++ pinsAt fp s5.heap) σ7 H7 s7 → N σ7 H7 → ∃ m, m < n ∧ ∃ i σ' H', Inv X pins σ' H' s7 ∧ tn i s7.heap ∧ (∀ b ∈ fp, H' b = none) ∧ W i m σ' H' := fun {σ7 H7} I7 n7 => by
   obtain ⟨m', hm, w7⟩ := hN σ7 H7 n7
   refine ⟨m', hm, i + 1, σ7, H7, I7.unpinned, T.keep _ _ _ st5 fun b hb o e => (I7.pin (b, o) (List.mem_append_right _ (List.mem_append_right _ (ex_ hb e)))).1, fun b hb => ?_, w7⟩
   obtain ⟨o, e, d⟩ := T.obj _ _ st5 b hb
   exact (I7.pin (b, o) (List.mem_append_right _ (List.mem_append_right _ (ex_ hb e)))).2.1
  cases f with
  | next => obtain ⟨σ7, H7, I7, n7⟩ := q7; exact again I7 n7
  | cont => obtain ⟨σ7, H7, I7, n7⟩ := q7; exact again I7 n7
  | brk => obtain ⟨σ7, H7, I7, q7⟩ := q7; exact ⟨σ7, H7, I7.unpinned, q7⟩
  | ret v => obtain ⟨x7, σ7, H7, I7, r7, q7⟩ := q7; exact ⟨x7, σ7, H7, I7.unpinned, r7, q7⟩
end
theorem mN_ {K : PySem.W.Frag} {a : Addr} {xs : List V} {g : TG} {tb : TS} {D : Ends} {σ : St} {H : Hp} (Pv : Nat → St → Hp → Prop) (h0 : Pv 0 σ H) (hl : ∀ i σ H, i ≤ xs.length → Pv i σ H → SqL K H a xs)
  (hs : ∀ i x σ H, xs[i]? = some x → Pv i σ H → g x σ H fun σ2 H2 => tb { D with nx := Pv (i + 1), ct := Pv (i + 1), bk := D.nx } σ2 H2) (hd : ∀ σ H, Pv xs.length σ H → D.nx σ H) :
  ∃ W : Nat → Nat → St → Hp → Prop, (∃ m, W 0 m σ H) ∧ ∀ i m σ H, W i m σ H →
   ((Itl K a).stop i H ∧ D.nx σ H) ∨ ((Itl K a).go i H ∧ ∃ N : St → Hp → Prop, (∀ σ' H', N σ' H' → ∃ m', m' < m ∧ W (i + 1) m' σ' H') ∧ ∀ x H', (Itl K a).yld i H x H' → g x σ H' fun σ2 H2 => tb { D with nx := N, ct := N, bk := D.nx } σ2 H2) := by
 refine ⟨fun i m σ H => m = xs.length - i ∧ i ≤ xs.length ∧ Pv i σ H, ⟨xs.length, by simp, Nat.zero_le _, h0⟩, ?_⟩
 rintro i m σ H ⟨rfl, hi, p⟩
 have q := hl i σ H hi p
 by_cases hlt : i < xs.length
 ·refine .inr ⟨⟨xs, xs[i], q, by simp [hlt]⟩, Pv (i + 1), fun σ' H' p' => ⟨xs.length - (i + 1), by omega, rfl, hlt, p'⟩, fun x H' y => ?_⟩
  obtain ⟨e, y⟩ := y
  subst e
  exact hs i x σ _ (y xs q) p
 ·have e : i = xs.length := by omega
  subst e
  exact .inl ⟨⟨xs, q, Nat.le_refl _⟩, hd σ H p⟩
theorem lu_ {lo : Int} {n : Nat} {g : TG} {tb : TS} {D : Ends} {σ : St} {H : Hp} (Pv : Nat → St → Hp → Prop) (h0 : Pv 0 σ H)
  (hs : ∀ i σ H, i < n → Pv i σ H → g (.int (lo + i)) σ H fun σ2 H2 => tb { D with nx := Pv (i + 1), ct := Pv (i + 1), bk := D.nx } σ2 H2) (hd : ∀ σ H, Pv n σ H → D.nx σ H) :
  ∃ W : Nat → Nat → St → Hp → Prop, (∃ m, W 0 m σ H) ∧ ∀ i m σ H, W i m σ H →
   ((Itr lo n).stop i H ∧ D.nx σ H) ∨ ((Itr lo n).go i H ∧ ∃ N : St → Hp → Prop, (∀ σ' H', N σ' H' → ∃ m', m' < m ∧ W (i + 1) m' σ' H') ∧ ∀ x H', (Itr lo n).yld i H x H' → g x σ H' fun σ2 H2 => tb { D with nx := N, ct := N, bk := D.nx } σ2 H2) := by
 refine ⟨fun i m σ H => m = n - i ∧ i ≤ n ∧ Pv i σ H, ⟨n, by simp, Nat.zero_le _, h0⟩, ?_⟩
 rintro i m σ H ⟨rfl, hi, p⟩
 by_cases hlt : i < n
 ·refine .inr ⟨hlt, Pv (i + 1), fun σ' H' p' => ⟨n - (i + 1), by omega, rfl, hlt, p'⟩, fun x H' y => ?_⟩
  obtain ⟨e, y⟩ := y
  subst e y
  exact hs i σ _ hlt p
 ·have e : i = n := by omega
  subst e
  exact .inl ⟨Nat.le_refl _, hd σ H p⟩
end L2
namespace L2
open PySem PySem.Spec PyProof.Rows
abbrev R2 := V → V → Hp → VK → Prop
def OpR (X : Cx) (f : Value → Value → Sem Value) (r : R2) : Prop :=
 ∀ (pins : List (Addr × Obj)) (s : Shared) (σ : St) (H : Hp) (x y : V) (v u : Value) (Q : VK), Inv X pins σ H s → RelV x v → RelV y u → r x y H Q →
  wpAny (model X.prog X.w) X.A (f v u) (EP X pins σ Q) X.xe s
def UnR (X : Cx) (f : Value → Sem Value) (r : V → Hp → VK → Prop) : Prop :=
 ∀ (pins : List (Addr × Obj)) (s : Shared) (σ : St) (H : Hp) (x : V) (v : Value) (Q : VK), Inv X pins σ H s → RelV x v → r x H Q →
  wpAny (model X.prog X.w) X.A (f v) (EP X pins σ Q) X.xe s
def CallR (X : Cx) (f : Value) (r : List V → Hp → VK → Prop) : Prop :=
 ∀ (pins : List (Addr × Obj)) (s : Shared) (σ : St) (H : Hp) (xs : List V) (us : List Value) (Q : VK), Inv X pins σ H s → Vals xs us → r xs H Q →
  wpAny (model X.prog X.w) X.A (call f us) (EP X pins σ Q) X.xe s
def tOp (r : R2) (ta tb : TE) : TE := fun σ H Q => ta σ H fun x H1 => tb σ H1 fun y H2 => r x y H2 Q
def tUn (r : V → Hp → VK → Prop) (ta : TE) : TE := fun σ H Q => ta σ H fun x H1 => r x H1 Q
def rI (C : Int → Int → Prop) (g : Int → Int → V) : R2 := fun x y H Q => ∃ i j, x = .int i ∧ y = .int j ∧ C i j ∧ Q (g i j) H
def rI0 (g : Int → Int → V) : R2 := fun x y H Q => ∃ i j, x = .int i ∧ y = .int j ∧ Q (g i j) H
def rU (g : Int → V) : V → Hp → VK → Prop := fun x H Q => ∃ i, x = .int i ∧ Q (g i) H
section
variable {X : Cx} {a b c : Expr} {ta tb tc : TE} {pos : Pos}
theorem binT (ha : PE X a ta) (hb : PE X b tb) {pins : List (Addr × Obj)} {s : Shared} {σ : St} {H : Hp} {R : V → V → Hp → Prop} (I : Inv X pins σ H s)
  (h : ta σ H fun x H1 => tb σ H1 fun y H2 => R x y H2) {Q : Value → Shared → Prop} {f : Value → Value → Sem Value}
  (hf : ∀ v u s2 x y H2, Inv X pins σ H2 s2 → RelV x v → RelV y u → R x y H2 → wpAny (model X.prog X.w) X.A (f v u) Q X.xe s2) :
  wpAny (model X.prog X.w) X.A (eval a X.env) (fun v s₁ => wpAny (model X.prog X.w) X.A (eval b X.env) (fun u s₂ => wpAny (model X.prog X.w) X.A (f v u) Q X.xe s₂) X.xe s₁) X.xe s := by
 refine thn (ha pins s σ H _ I h) fun v s1 ⟨x, H1, I1, r1, q1⟩ => ?_
 refine thn (hb pins s1 σ H1 _ I1 q1) fun u s2 ⟨y, H2, I2, r2, q2⟩ => ?_
 exact hf v u s2 x y H2 I2 r1 r2 q2
theorem pe_op {op : Operator} {r : R2} (ho : OpR X (binaryOp op) r) (ha : PE X a ta) (hb : PE X b tb) : PE X (.BinOp a op b pos) (tOp r ta tb) := by
 intro pins s σ H Q I h
 exact wpAny_BinOp (binT ha hb I h fun v u s2 x y H2 I2 rx ry q => ho pins s2 σ H2 x y v u Q I2 rx ry q)
theorem pe_un {op : UnaryOp} {r : V → Hp → VK → Prop} (ho : UnR X (unaryOp op) r) (ha : PE X a ta) : PE X (.UnaryOp op a pos) (tUn r ta) := by
 intro pins s σ H Q I h
 exact UnaryOp_ (thn (ha pins s σ H _ I h) fun v s1 ⟨x, H1, I1, r1, q1⟩ => ho pins s1 σ H1 x v Q I1 r1 q1)
theorem opI {f : Value → Value → Sem Value} {C : Int → Int → Prop} {g : Int → Int → Int}
  (rule : ∀ (i j : Int) (t u : Tok) (s : Shared) (Q : Value → Shared → Prop) (E : Value → Shared → Prop), C i j → Q (.int (g i j) s.toks) { s with toks := s.toks + 1 } → wpAny (model X.prog X.w) X.A (f (.int i t) (.int j u)) Q E s) :
  OpR X f (rI C fun i j => .int (g i j)) := by
 intro pins s σ H x y v u Q I rx ry h
 obtain ⟨i, j, rfl, rfl, hc, q⟩ := h
 obtain ⟨t, rfl⟩ := rx
 obtain ⟨t', rfl⟩ := ry
 exact rule i j t t' s _ _ hc ⟨.int (g i j), H, I.tok _, ⟨_, rfl⟩, q⟩
theorem opI0 {f : Value → Value → Sem Value} {g : Int → Int → Int}
  (rule : ∀ (i j : Int) (t u : Tok) (s : Shared) (Q : Value → Shared → Prop) (E : Value → Shared → Prop), Q (.int (g i j) s.toks) { s with toks := s.toks + 1 } → wpAny (model X.prog X.w) X.A (f (.int i t) (.int j u)) Q E s) :
  OpR X f (rI0 fun i j => .int (g i j)) := by
 intro pins s σ H x y v u Q I rx ry h
 obtain ⟨i, j, rfl, rfl, q⟩ := h
 obtain ⟨t, rfl⟩ := rx
 obtain ⟨t', rfl⟩ := ry
 exact rule i j t t' s _ _ ⟨.int (g i j), H, I.tok _, ⟨_, rfl⟩, q⟩
theorem opB0 {f : Value → Value → Sem Value} {g : Int → Int → Bool}
  (rule : ∀ (i j : Int) (t u : Tok) (s : Shared) (Q : Value → Shared → Prop) (E : Value → Shared → Prop), Q (.bool (g i j)) s → wpAny (model X.prog X.w) X.A (f (.int i t) (.int j u)) Q E s) :
  OpR X f (rI0 fun i j => .bl (g i j)) := by
 intro pins s σ H x y v u Q I rx ry h
 obtain ⟨i, j, rfl, rfl, q⟩ := h
 obtain ⟨t, rfl⟩ := rx
 obtain ⟨t', rfl⟩ := ry
 exact rule i j t t' s _ _ ⟨.bl (g i j), H, I, rfl, q⟩
def CPow (i j : Int) : Prop := 0 ≤ j ∧ j ≤ 1000000 ∧ i.natAbs < 2 ^ 64
def CMul (i j : Int) : Prop := (-(2 ^ 64) < i ∧ i < 2 ^ 64) ∨ (-(2 ^ 64) < j ∧ j < 2 ^ 64)
theorem CMul.ok {i j : Int} (h : CMul i j) : IntMulOk i j := by
 rcases h with ⟨h1, h2⟩ | ⟨h1, h2⟩
 ·exact .of_left (intBits_le_64 h1 h2)
 ·exact .of_right (intBits_le_64 h1 h2)
theorem aM_ : OpR X (binaryOp .Add) (rI0 fun i j => .int (i + j)) := opI0 fun _ _ _ _ _ _ _ q => add_int q
theorem nt_ : OpR X (binaryOp .Sub) (rI0 fun i j => .int (i - j)) := opI0 fun _ _ _ _ _ _ _ q => sub_int q
theorem iB_ : OpR X (binaryOp .Mult) (rI CMul fun i j => .int (i * j)) := opI fun _ _ _ _ _ _ _ hc q => mul_int q hc.ok
theorem aw_ : OpR X (binaryOp .Mod) (rI (fun _ j => 0 < j) fun i j => .int (i % j)) := opI fun i j _ _ _ _ _ hc q => by
 have h1 : (0 : Int) < j := hc
 exact mod_int' (by omega) (by rw [Int.fmod_eq_emod_of_nonneg i (by omega)]; exact q)
theorem kk_ : OpR X (binaryOp .Pow) (rI CPow fun i j => .int (i ^ j.toNat)) := opI fun _ _ _ _ _ _ _ hc q => pow_int_small hc.1 hc.2.1 hc.2.2 q
theorem unI {f : Value → Sem Value} {g : Int → Int}
  (rule : ∀ (i : Int) (t : Tok) (s : Shared) (Q : Value → Shared → Prop) (E : Value → Shared → Prop), Q (.int (g i) s.toks) { s with toks := s.toks + 1 } → wpAny (model X.prog X.w) X.A (f (.int i t)) Q E s) :
  UnR X f (rU fun i => .int (g i)) := by
 intro pins s σ H x v Q I rx h
 obtain ⟨i, rfl, q⟩ := h
 obtain ⟨t, rfl⟩ := rx
 exact rule i t s _ _ ⟨.int (g i), H, I.tok _, ⟨_, rfl⟩, q⟩
theorem nu_ : UnR X (unaryOp .USub) (rU fun i => .int (-i)) := unI fun _ _ _ _ _ q => neg_int q
end
def scal : V → V → Bool
 | .non, .non => true | .non, .int _ => true | .int _, .non => true | .non, .bl _ => true | .bl _, .non => true | .non, .str _ => true | .str _, .non => true
 | .int _, .int _ => true | .bl _, .bl _ => true | .str _, .str _ => true | .byt _, .byt _ => true
 | .int _, .str _ => true | .str _, .int _ => true | .bl _, .str _ => true | .str _, .bl _ => true
 | _, _ => false
def rEq : R2 := fun x y H Q => scal x y = true ∧ Q (.bl (decide (x = y))) H
def rNe : R2 := fun x y H Q => scal x y = true ∧ Q (.bl (!decide (x = y))) H
theorem lv_ {i j : Int} : decide (V.int i = V.int j) = (i == j) := by
 rw [Bool.eq_iff_iff]
 simp
theorem nv_ {i j : Bool} : decide (V.bl i = V.bl j) = (i == j) := by
 rw [Bool.eq_iff_iff]
 simp
theorem lw_ {i j : Str} : decide (V.str i = V.str j) = (i == j) := by
 rw [Bool.eq_iff_iff]
 simp
theorem lx_ {i j : Array UInt8} : decide (V.byt i = V.byt j) = (i.toList == j.toList) := by
 rw [Bool.eq_iff_iff]
 cases i
 cases j
 simp
section
variable {X : Cx} {a b c : Expr} {ta tb tc : TE} {pos : Pos}
theorem aT_ {pins : List (Addr × Obj)} {σ : St} {H : Hp} {s : Shared} {Q : VK} {k k' : Bool} (I : Inv X pins σ H s) (q : Q (.bl k) H) (e : k = k') : EP X pins σ Q (.bool k') s := by
 subst e
 exact ⟨.bl k, H, I, rfl, q⟩
theorem op_eq : OpR X (compareOp .Eq) rEq := by
 intro pins s σ H x y v u Q I rx ry h
 obtain ⟨hs, q⟩ := h
 cases x with
 | non =>
  cases rx
  cases y with
  | non => cases ry; exact PySem.EqNone.eq_none_none (aT_ I q (by simp))
  | bl j => cases ry; exact PySem.EqNone.eq_none_bool (aT_ I q (by simp))
  | int j => obtain ⟨t', rfl⟩ := ry; exact PySem.EqNone.eq_none_int (aT_ I q (by simp))
  | str j => obtain ⟨t', rfl⟩ := ry; exact PySem.EqNone.eq_none_str (aT_ I q (by simp))
  | _ => exact absurd (show false = true from hs) Bool.false_ne_true
 | bl i =>
  cases rx
  cases y with
  | non => cases ry; exact PySem.EqNone.eq_bool_none (aT_ I q (by simp))
  | bl j => cases ry; exact eq_bool (aT_ I q nv_)
  | str j => obtain ⟨t', rfl⟩ := ry; exact PySem.EqMixed.eq_bool_str (aT_ I q (by simp))
  | _ => exact absurd (show false = true from hs) Bool.false_ne_true
 | int i =>
  obtain ⟨t, rfl⟩ := rx
  cases y with
  | non => cases ry; exact PySem.EqNone.eq_int_none (aT_ I q (by simp))
  | int j => obtain ⟨t', rfl⟩ := ry; exact eq_int (aT_ I q lv_)
  | str j => obtain ⟨t', rfl⟩ := ry; exact PySem.EqMixed.eq_int_str (aT_ I q (by simp))
  | _ => exact absurd (show false = true from hs) Bool.false_ne_true
 | str i =>
  obtain ⟨t, rfl⟩ := rx
  cases y with
  | non => cases ry; exact PySem.EqNone.eq_str_none (aT_ I q (by simp))
  | bl j => cases ry; exact PySem.EqMixed.eq_str_bool (aT_ I q (by simp))
  | int j => obtain ⟨t', rfl⟩ := ry; exact PySem.EqMixed.eq_str_int (aT_ I q (by simp))
  | str j => obtain ⟨t', rfl⟩ := ry; exact eq_str (aT_ I q lw_)
  | _ => exact absurd (show false = true from hs) Bool.false_ne_true
 | byt i =>
  obtain ⟨t, rfl⟩ := rx
  cases y with
  | byt j => obtain ⟨t', rfl⟩ := ry; exact PySem.W.eq_bytes (aT_ I q lx_)
  | _ => exact absurd (show false = true from hs) Bool.false_ne_true
 | _ => cases y <;> exact absurd (show false = true from hs) Bool.false_ne_true
theorem op_ne : OpR X (compareOp .NotEq) rNe := by
 intro pins s σ H x y v u Q I rx ry h
 obtain ⟨hs, q⟩ := h
 cases x with
 | non =>
  cases rx
  cases y with
  | non => cases ry; exact PySem.EqNone.ne_none_none (aT_ I q (by simp))
  | bl j => cases ry; exact PySem.EqNone.ne_none_bool (aT_ I q (by simp))
  | int j => obtain ⟨t', rfl⟩ := ry; exact PySem.EqNone.ne_none_int (aT_ I q (by simp))
  | str j => obtain ⟨t', rfl⟩ := ry; exact PySem.EqNone.ne_none_str (aT_ I q (by simp))
  | _ => exact absurd (show false = true from hs) Bool.false_ne_true
 | bl i =>
  cases rx
  cases y with
  | non => cases ry; exact PySem.EqNone.ne_bool_none (aT_ I q (by simp))
  | bl j => cases ry; exact ne_bool (aT_ I q (congrArg not nv_))
  | str j => obtain ⟨t', rfl⟩ := ry; exact PySem.EqMixed.ne_bool_str (aT_ I q (by simp))
  | _ => exact absurd (show false = true from hs) Bool.false_ne_true
 | int i =>
  obtain ⟨t, rfl⟩ := rx
  cases y with
  | non => cases ry; exact PySem.EqNone.ne_int_none (aT_ I q (by simp))
  | int j => obtain ⟨t', rfl⟩ := ry; exact ne_int (aT_ I q (congrArg not lv_))
  | str j => obtain ⟨t', rfl⟩ := ry; exact PySem.EqMixed.ne_int_str (aT_ I q (by simp))
  | _ => exact absurd (show false = true from hs) Bool.false_ne_true
 | str i =>
  obtain ⟨t, rfl⟩ := rx
  cases y with
  | non => cases ry; exact PySem.EqNone.ne_str_none (aT_ I q (by simp))
  | bl j => cases ry; exact PySem.EqMixed.ne_str_bool (aT_ I q (by simp))
  | int j => obtain ⟨t', rfl⟩ := ry; exact PySem.EqMixed.ne_str_int (aT_ I q (by simp))
  | str j => obtain ⟨t', rfl⟩ := ry; exact ne_str (aT_ I q (congrArg not lw_))
  | _ => exact absurd (show false = true from hs) Bool.false_ne_true
 | byt i =>
  obtain ⟨t, rfl⟩ := rx
  cases y with
  | byt j => obtain ⟨t', rfl⟩ := ry; exact PySem.W.ne_bytes (aT_ I q (congrArg not lx_))
  | _ => exact absurd (show false = true from hs) Bool.false_ne_true
 | _ => cases y <;> exact absurd (show false = true from hs) Bool.false_ne_true
theorem op_lt : OpR X (compareOp .Lt) (rI0 fun i j => .bl (decide (i < j))) := opB0 fun _ _ _ _ _ _ _ q => lt_int q
theorem op_le : OpR X (compareOp .LtE) (rI0 fun i j => .bl (decide (i ≤ j))) := opB0 fun _ _ _ _ _ _ _ q => le_int q
theorem op_gt : OpR X (compareOp .Gt) (rI0 fun i j => .bl (decide (j < i))) := opB0 fun _ _ _ _ _ _ _ q => gt_int q
theorem op_ge : OpR X (compareOp .GtE) (rI0 fun i j => .bl (decide (j ≤ i))) := opB0 fun _ _ _ _ _ _ _ q => ge_int q
theorem iC_ : OpR X (compareOp .In) (fun x y H Q => ∃ i j, x = .str i ∧ y = .str j ∧ Q (.bl (!(Builtin.Str.occurrences j i 0 j.length 1).isEmpty)) H) := by
 intro pins s σ H x y v u Q I rx ry h
 obtain ⟨i, j, rfl, rfl, q⟩ := h
 obtain ⟨t, rfl⟩ := rx
 obtain ⟨t', rfl⟩ := ry
 exact in_str (aT_ I q rfl)
theorem fW_ : OpR X (compareOp .NotIn) (fun x y H Q => ∃ i j, x = .str i ∧ y = .str j ∧ Q (.bl (!(!(Builtin.Str.occurrences j i 0 j.length 1).isEmpty))) H) := by
 intro pins s σ H x y v u Q I rx ry h
 obtain ⟨i, j, rfl, rfl, q⟩ := h
 obtain ⟨t, rfl⟩ := rx
 obtain ⟨t', rfl⟩ := ry
 exact notIn_str (aT_ I q rfl)
theorem nomark (b : Expr) {op : CmpOp} (h : op ≠ .In := by decide) (h2 : op ≠ .NotIn := by decide) : behindInMarks op b = false := by
 have e1 : (op == CmpOp.In) = false := by cases op <;> first | rfl | exact absurd rfl h
 have e2 : (op == CmpOp.NotIn) = false := by cases op <;> first | rfl | exact absurd rfl h2
 cases b <;> simp [behindInMarks, e1, e2]
theorem c9_ {op : CmpOp} {r : R2} (ho : OpR X (compareOp op) r) (ha : PE X a ta) (hb : PE X b tb) (hm : behindInMarks op b = false) : PE X (.Compare a [op] [b] pos) (tOp r ta tb) := by
 intro pins s σ H Q I h
 exact wpAny_Compare1 (binT ha hb I h fun v u s2 x y H2 I2 rx ry q => ho pins s2 σ H2 x y v u Q I2 rx ry q) hm
def tTest (t : TE) : TT := fun σ H Q => t σ H fun x H' => ∃ k, x = .bl k ∧ Q k H'
theorem ak_ {op : CmpOp} {r : R2} (ho : OpR X (compareOp op) r) (ha : PE X a ta) (hb : PE X b tb) (hm : behindInMarks op b = false) : PT X (.Compare a [op] [b] pos) (tTest (tOp r ta tb)) := by
 intro pins s σ H Q I h
 refine wpAny_isTrue_Compare1 (thn (ha pins s σ H _ I h) fun v s1 ⟨x, H1, I1, r1, q1⟩ => thn (hb pins s1 σ H1 _ I1 q1) fun u s2 ⟨y, H2, I2, r2, q2⟩ =>
  thn (ho pins s2 σ H2 x y v u _ I2 r1 r2 q2) fun c s3 ⟨z, H3, I3, r3, k, e, q3⟩ => ?_) hm
 subst e
 cases r3
 exact wpAny_truthy_bool ⟨H3, I3, q3⟩
def tChain (r r' : R2) (ta tb tc : TE) : TE := fun σ H Q => ta σ H fun x H1 => tb σ H1 fun y H2 => r x y H2 fun z H3 => ∃ k, z = .bl k ∧
 (if k = true then tc σ H3 fun w' H4 => r' y w' H4 Q else Q (.bl false) H3)
theorem mO_ {op op' : CmpOp} {r r' : R2} (ho : OpR X (compareOp op) r) (ho' : OpR X (compareOp op') r') (ha : PE X a ta) (hb : PE X b tb) (hc : PE X c tc)
  (hm : lastMarks [op, op'] [b, c] = false := by with_unfolding_all rfl) : PE X (.Compare a [op, op'] [b, c] pos) (tChain r r' ta tb tc) := by
 intro pins s σ H Q I h
 refine Compare_chain (thn (ha pins s σ H _ I h) fun v s1 ⟨x, H1, I1, r1, q1⟩ => chain_link (thn (hb pins s1 σ H1 _ I1 q1) fun u s2 ⟨y, H2, I2, r2, q2⟩ =>
  thn (ho pins s2 σ H2 x y v u _ I2 r1 r2 q2) fun d s3 ⟨z, H3, I3, r3, k, e, q3⟩ => ?_)) hm
 subst e
 cases r3
 refine wpAny_truthy_bool ?_
 cases k with
 | false => exact ite_ff ⟨.bl false, H3, I3, rfl, q3⟩
 | true => exact ite_tt (chain_last (thn (hc pins s3 σ H3 _ I3 q3) fun w' s4 ⟨z', H4, I4, r4, q4⟩ => ho' pins s4 σ H4 y z' u w' Q I4 r2 r4 q4))
theorem hT_ {op op' : CmpOp} {r r' : R2} (ho : OpR X (compareOp op) r) (ho' : OpR X (compareOp op') r') (ha : PE X a ta) (hb : PE X b tb) (hc : PE X c tc)
  (hm : lastMarks [op, op'] [b, c] = false := by with_unfolding_all rfl) : PT X (.Compare a [op, op'] [b, c] pos) (tTest (tChain r r' ta tb tc)) := by
 intro pins s σ H Q I h
 refine isTrue_chain (thn (ha pins s σ H _ I h) fun v s1 ⟨x, H1, I1, r1, q1⟩ => test_link (thn (hb pins s1 σ H1 _ I1 q1) fun u s2 ⟨y, H2, I2, r2, q2⟩ =>
  thn (ho pins s2 σ H2 x y v u _ I2 r1 r2 q2) fun d s3 ⟨z, H3, I3, r3, k, e, q3⟩ => ?_)) hm
 subst e
 cases r3
 refine wpAny_truthy_bool ?_
 cases k with
 | false =>
  obtain ⟨k', e', q'⟩ := q3
  cases e'
  exact ite_ff ⟨H3, I3, q'⟩
 | true =>
  refine ite_tt (test_last (thn (hc pins s3 σ H3 _ I3 q3) fun w' s4 ⟨z', H4, I4, r4, q4⟩ => thn (ho' pins s4 σ H4 y z' u w' _ I4 r2 r4 q4) fun d' s5 ⟨z2, H5, I5, r5, k2, e2, q5⟩ => ?_))
  subst e2
  cases r5
  exact wpAny_truthy_bool ⟨H5, I5, q5⟩
theorem line63 : (sizeLine : Nat) < 2 ^ 63 := by rw [sizeLine_eq]; decide
theorem bl_ : OpR X (binaryOp .Add) (fun x y H Q => ∃ i j, x = .str i ∧ y = .str j ∧ i.length + j.length ≤ sizeLine ∧ Q (.str (i ++ j)) H) := by
 intro pins s σ H x y v u Q I rx ry h
 obtain ⟨i, j, rfl, rfl, hz, q⟩ := h
 obtain ⟨t, rfl⟩ := rx
 obtain ⟨t', rfl⟩ := ry
 exact add_str (fun t' tk => ⟨.str (i ++ j), H, I.tok _, ⟨_, rfl⟩, q⟩) hz
theorem vals1 {x : V} {us : List Value} (r : Vals [x] us) : ∃ u, us = [u] ∧ RelV x u := by
 cases r with
 | cons r1 r2 => cases r2; exact ⟨_, rfl, r1⟩
theorem vals2 {x y : V} {us : List Value} (r : Vals [x, y] us) : ∃ u w', us = [u, w'] ∧ RelV x u ∧ RelV y w' := by
 cases r with
 | cons r1 r2 =>
  cases r2 with
  | cons r3 r4 => cases r4; exact ⟨_, _, rfl, r1, r3⟩
theorem gs_ : CallR X (.builtin "abs") (fun xs H Q => ∃ i, xs = [.int i] ∧ Q (.int (if i < 0 then -i else i)) H) := by
 intro pins s σ H xs us Q I r h
 obtain ⟨i, rfl, q⟩ := h
 obtain ⟨u, rfl, t, rfl⟩ := vals1 r
 exact call_abs_int fun u tk => ⟨.int (if i < 0 then -i else i), H, I.tok _, ⟨_, rfl⟩, q⟩
theorem iD_ (hc : X.calm = true) : CallR X (.builtin "max") (fun xs H Q => ∃ i j, xs = [.int i, .int j] ∧ Q (.int (if j > i then j else i)) H) := by
 intro pins s σ H xs us Q I r h
 obtain ⟨i, j, rfl, q⟩ := h
 obtain ⟨u, w', rfl, ⟨t, rfl⟩, ⟨t', rfl⟩⟩ := vals2 r
 refine max_two_ints (I.ok.hd hc) fun h' tk k => ⟨_, H, I.kept k, ?_, q⟩
 by_cases hj : j > i
 ·rw [if_pos hj, if_pos hj]; exact ⟨_, rfl⟩
 ·rw [if_neg hj, if_neg hj]; exact ⟨_, rfl⟩
theorem iE_ (hc : X.calm = true) : CallR X (.builtin "min") (fun xs H Q => ∃ i j, xs = [.int i, .int j] ∧ Q (.int (if j < i then j else i)) H) := by
 intro pins s σ H xs us Q I r h
 obtain ⟨i, j, rfl, q⟩ := h
 obtain ⟨u, w', rfl, ⟨t, rfl⟩, ⟨t', rfl⟩⟩ := vals2 r
 refine min_two_ints (I.ok.hd hc) fun h' tk k => ⟨_, H, I.kept k, ?_, q⟩
 by_cases hj : j < i
 ·rw [if_pos hj, if_pos hj]; exact ⟨_, rfl⟩
 ·rw [if_neg hj, if_neg hj]; exact ⟨_, rfl⟩
theorem iF_ : CallR X (.type "int") (fun xs H Q => (∃ i, xs = [.int i] ∧ Q (.int i) H) ∨ ∃ k, xs = [.bl k] ∧ Q (.int (if k then 1 else 0)) H) := by
 intro pins s σ H xs us Q I r h
 rcases h with ⟨i, rfl, q⟩ | ⟨k, rfl, q⟩
 ·obtain ⟨u, rfl, t, rfl⟩ := vals1 r
  exact call_int_int ⟨.int i, H, I, ⟨_, rfl⟩, q⟩
 ·obtain ⟨u, rfl, r1⟩ := vals1 r
  cases r1
  exact call_int_bool ⟨.int (if k then 1 else 0), H, I.tok _, ⟨_, rfl⟩, q⟩
theorem fX_ : CallR X (.type "str") (fun xs H Q => ∃ i, xs = [.int i] ∧ i.natAbs.log2 < 1920 ∧ Q (.str (toString i)) H) := by
 intro pins s σ H xs us Q I r h
 obtain ⟨i, rfl, hz, q⟩ := h
 obtain ⟨u, rfl, t, rfl⟩ := vals1 r
 exact PySem.P.str_of_int hz ⟨.str _, H, I.tok _, ⟨_, rfl⟩, q⟩
end
end L2
namespace L2
open PySem PySem.Spec PyProof.Rows
structure ObjM (h : Heap) (x dx C : Addr) (mA : Str → Option Value) : Prop where
 obj : h.get? x = some (PySem.W.instObj C dx)
 ns : h.Ns1 dx mA
 ne : dx ≠ x
section
variable {prog : Program} {w : World} {A : Around} {E : Value → Shared → Prop} {s : Shared} {K : PySem.W.Frag} {x dx C f : Addr} {mA : Str → Option Value} {name : Str} {v : Value}
end
def putF (f : Str) (v : V) : List (Str × V) → List (Str × V)
 | [] => [(f, v)]
 | (g, x) :: r => if g = f then (g, v) :: r else (g, x) :: putF f v r
theorem RelO.some_of {v : V} {o : Option Value} (r : RelO (some v) o) : ∃ u, o = some u ∧ RelV v u := by
 cases o with
 | none => exact (show False from r).elim
 | some u => exact ⟨u, rfl, r⟩
section
variable {P : Program} {w : World} {H H' : Hp} {h h' : Heap} {a C dx : Addr} {fs fs' : List (Str × V)}
end
structure Cls (K : PySem.W.Frag) (C : Addr) : Prop where
 pg : PySem.W.plainGet K C Str.empty = true
 hd : PySem.W.hasDictIn K C = true
 po : PySem.W.plainOver K C = true
 sa : PySem.W.findIn K (.ref C) "__setattr__" = some (some (.builtin "object.__setattr__"))
theorem Cls.get {K : PySem.W.Frag} {C : Addr} (c : Cls K C) (f : Str) : PySem.W.plainGet K C f = true := c.pg
structure Con (K : PySem.W.Frag) (C : Addr) (f : Str) (v : V) (u : Value) : Prop where
 at_ : PySem.W.findIn K (.ref C) f = some (some u)
 rel : RelV v u
 get : PySem.W.specialIn K u "__get__" = some none
 cp : PySem.W.copiedNames.contains f = false
structure Meth (K : PySem.W.Frag) (C : Addr) (m : Str) (f : Addr) : Prop where
 at_ : PySem.W.findIn K (.ref C) m = some (some (.ref f))
 fn : PySem.W.isFn K (.ref f) = true
 kp : PySem.W.keepIn K (.ref f) = true
section
variable {X : Cx} {pins : List (Addr × Obj)} {σ : St} {H : Hp} {s : Shared} {a C dx : Addr} {fs : List (Str × V)} {f : Str} {v : V} {A : Around} {E : Value → Shared → Prop}
end
section
variable {X : Cx} {o e value : Expr} {f : Str} {pos pos' tpos : Pos} {ta tv : TE}
end
section
variable {X : Cx} {pins : List (Addr × Obj)} {σ : St} {H : Hp} {s : Shared} {A : Around} {E : Value → Shared → Prop} {Q : Value → Shared → Prop} {c : Value} {b : Bool}
inductive TyOf (K : PySem.W.Frag) (H : Hp) : V → Value → Prop where
 | non : TyOf K H .non (.type "NoneType")
 | bl (x : Bool) : TyOf K H (.bl x) (.type "bool")
 | int (i : Int) : TyOf K H (.int i) (.type "int")
 | str (x : Str) : TyOf K H (.str x) (.type "str")
 | flt (x : UInt64) : TyOf K H (.flt x) (.type "float")
 | lst {a : Addr} {xs : List V} (e : H a = some (.lst xs)) : TyOf K H (.ref a) (.type "list")
 | frz {a : Addr} {o : Obj} {xs : List V} (e : H a = some (.frz o (.lst xs))) : TyOf K H (.ref a) (.type "list")
 | tup {a : Addr} {xs : List V} (e : H a = some (.tup xs)) : TyOf K H (.ref a) (.type "tuple")
 | dK {a : Addr} {kvs : List (Key × V)} (e : H a = some (.dK kvs)) : TyOf K H (.ref a) (.type "dict")
 | dT {a : Addr} {kvs : List (List Key × V)} (e : H a = some (.dT kvs)) : TyOf K H (.ref a) (.type "dict")
 | ins {a C dx : Addr} {fs : List (Str × V)} (e : H a = some (.ins C dx fs)) (cl : Cls K C) (ha : PySem.W.findIn K (.ref C) "__class__" = some (some (.builtin "object.__class__")))
   (hn : PySem.W.specialIn K (.builtin "object.__class__") "__get__" = some (some (.builtin "getset_descriptor.__get__"))) (htk : PySem.W.takesIn K (.builtin "object.__class__") = some true)
   (hm : PySem.W.mroIn K C (.type "object") = some true) : TyOf K H (.ref a) (.ref C)
end
end L2
namespace L2
open PySem PySem.Spec PyProof.Rows
structure Room (k : Nat) (A : Around) : Prop where
 hd : A.handled = none
 dp : A.depth + 3 * k + 5 < recursionLimit
 un : A.units + 16 * k + 200 < cLine
theorem Room.mono {j k : Nat} {A : Around} (r : Room k A) (h : j ≤ k) : Room j A := ⟨r.hd, by have := r.dp; omega, by have := r.un; omega⟩
theorem Room.deeper {k : Nat} {A : Around} (r : Room (k + 1) A) (env : Env) : Room k (A.deeper env) :=
 ⟨r.hd, by have := r.dp; show A.depth + 1 + 3 * k + 5 < _; omega, by have := r.un; show A.units + 3 + 16 * k + 200 < _; omega⟩
theorem Room.in1 {k : Nat} {A : Around} (r : Room (k + 1) A) : Room k A.in1 :=
 ⟨r.hd, by have := r.dp; show A.depth + 3 * k + 5 < _; omega, by have := r.un; show A.units + 1 + 16 * k + 200 < _; omega⟩
theorem Room.depth {k : Nat} {A : Around} (r : Room k A) : A.depth < recursionLimit := by have := r.dp; omega
theorem Room.units {k : Nat} {A : Around} (r : Room k A) : A.units + 64 < cLine := by have := r.un; omega
def tNil : TA := fun _ H Q => Q [] H
def tCons (ta : TE) (tr : TA) : TA := fun σ H Q => ta σ H fun x H1 => tr σ H1 fun xs H2 => Q (x :: xs) H2
section
variable {X : Cx} {e : Expr} {es : List Expr} {te : TE} {t : TA} {pos : Pos}
theorem ab_ : PA X [] tNil := fun _ _ _ _ H Q I h => Calls.spliced_nil ⟨[], H, I, .nil, h⟩
theorem n3_ (ha : PE X e te) (hr : PA X es t) (hs : starEach (e :: es) X.env = (false, eval e X.env) :: starEach es X.env := by rfl) : PA X (e :: es) (tCons te t) := by
 intro pos pins s σ H Q I h
 rw [hs]
 show wpAny _ _ (spliced ((false, eval e X.env) :: backTo pos (starEach es X.env))) _ _ s
 refine Calls.spliced_cons (thn (ha pins s σ H _ I h) fun u s1 ⟨x, H1, I1, r1, q1⟩ => ?_)
 exact thn (hr pos pins s1 σ H1 _ I1 q1) fun us s2 ⟨xs, H2, I2, r2, q2⟩ => ⟨x :: xs, H2, I2, .cons r1 r2, q2⟩
def tTup (t : TA) : TE := fun σ H Q => t σ H fun xs H1 => xs.length ≤ sizeLine ∧ ∀ p, H1 p = none → Q (.ref p) (upd H1 p (.tup xs))
def tLst (t : TA) : TE := fun σ H Q => t σ H fun xs H1 => xs.length ≤ sizeLine ∧ ∀ p, H1 p = none → Q (.ref p) (upd H1 p (.lst xs))
theorem aO_ {x1} (h : PA X es t) : PE X (.Tuple es x1 pos) (tTup t) := by
 intro pins s σ H Q I hq
 refine wpAny_Tuple_spliced (thn (h pos pins s σ H _ I hq) fun us s1 ⟨xs, H1, I1, r, z, q⟩ => ⟨by rw [← r.length]; exact z, ?_⟩)
 have hf : H1 s1.heap.objs.size = none := I1.hok.fresh (Nat.le_refl _)
 refine ⟨.ref s1.heap.objs.size, upd H1 s1.heap.objs.size (.tup xs), I1.laid (t' := s1.toks) (fun b u e => Heap.get?_push_of_some _ e) (Nat.le_refl _) ?_, rfl, q _ hf⟩
 exact ⟨z, us, r, ⟨_, Heap.get?_push_size _ rfl, rfl, _, rfl⟩⟩
theorem bh_ (h : PA X es t) : PE X (.List es pos) (tLst t) := by
 intro pins s σ H Q I hq
 refine wpAny_List_spliced (thn (h pos pins s σ H _ I hq) fun us s1 ⟨xs, H1, I1, r, z, q⟩ => ⟨by rw [← r.length]; exact z, ?_⟩)
 have hf : H1 s1.heap.objs.size = none := I1.hok.fresh (Nat.le_refl _)
 refine ⟨.ref s1.heap.objs.size, upd H1 s1.heap.objs.size (.lst xs), I1.laid (t' := s1.toks) (fun b u e => Heap.get?_push_of_some _ e) (Nat.le_refl _) ?_, rfl, q _ hf⟩
 exact ⟨z, us, 0, r, Heap.get?_push_size _ rfl⟩
end
abbrev Sp := List V → Hp → VK → XK → Prop
abbrev CXT := List Env → Hp → Shared → XK → Value → Shared → Prop
structure Env0 (P : Program) (w : World) (K : PySem.W.Frag) (mg : Str → Option Value) (base : Heap) (A : Around) (outer : List Env) (s : Shared) (H : Hp) : Prop where
 frames : A.frames = some outer
 mod : Mod K mg base
 bs : ∀ b o, base.get? b = some o → s.heap.get? b = some o ∧ H b = none
 bsz : base.objs.size ≤ s.heap.objs.size
 funs : s.heap.FunFrames base outer
 frf : ∀ b ∈ frs outer, H b = none
 hok : HOk P w H s.heap
 bare : AllBare s.gens
def CE (outer : List Env) (P : Program) (w : World) (H : Hp) (s : Shared) (Q : VK) (u : Value) (s' : Shared) : Prop :=
 ∃ v H', s'.os = s.os ∧ AllBare s'.gens ∧ Un (frs outer) [] H H' s.heap s'.heap ∧ HOk P w H' s'.heap ∧ RelV v u ∧ Q v H'
def CR (CX : CXT) (outer : List Env) (P : Program) (w : World) (H : Hp) (s : Shared) (Q : VK) (E : XK) (r : Result) (s' : Shared) : Prop :=
 match r with
 | .ok (.ret u) => CE outer P w H s Q u s'
 | .ok _ => False
 | .error e => CX outer H s E e s'
structure FnOk (P : Program) (w : World) (K : PySem.W.Frag) (mg : Str → Option Value) (base : Heap) (CX : CXT) (k : Nat) (f : Addr) (fd : FuncData) (ps : List Str) (sp : Sp) : Prop where
 len : ∀ vs H Q E, sp vs H Q E → vs.length = ps.length
 run : ∀ (A : Around) (outer : List Env) (s : Shared) (H : Hp) (args : Args) (us : List Value) (vs : List V) (Q : VK) (E : XK), Room k A → Env0 P w K mg base A outer s H → BindsTo s fd args (ps.zip us) → Vals vs us → sp vs H Q E →
  codeAny (model P w) A (.call (.ref f) args) (CR CX outer P w H s Q E) s
theorem FnOk.mono {P : Program} {w : World} {K : PySem.W.Frag} {mg : Str → Option Value} {base : Heap} {CX : CXT} {j k : Nat} {f : Addr} {fd : FuncData} {ps : List Str} {sp : Sp} (F : FnOk P w K mg base CX j f fd ps sp) (h : j ≤ k) :
  FnOk P w K mg base CX k f fd ps sp := ⟨F.len, fun A outer s H args us vs Q E hr => F.run A outer s H args us vs Q E (hr.mono h)⟩
theorem FnOk.imp {P : Program} {w : World} {K : PySem.W.Frag} {mg : Str → Option Value} {base : Heap} {CX : CXT} {k : Nat} {f : Addr} {fd : FuncData} {ps : List Str} {sp sp' : Sp} (F : FnOk P w K mg base CX k f fd ps sp)
  (h : ∀ vs H Q E, sp' vs H Q E → sp vs H Q E) : FnOk P w K mg base CX k f fd ps sp' :=
 ⟨fun vs H Q E q => F.len vs H Q E (h _ _ _ _ q), fun A outer s H args us vs Q E hr he hb hv hs => F.run A outer s H args us vs Q E hr he hb hv (h _ _ _ _ hs)⟩
theorem Env0.in1 {P : Program} {w : World} {K : PySem.W.Frag} {mg : Str → Option Value} {base : Heap} {A : Around} {outer : List Env} {s : Shared} {H : Hp} (e : Env0 P w K mg base A outer s H) :
  Env0 P w K mg base A.in1 outer s H := ⟨e.frames, e.mod, e.bs, e.bsz, e.funs, e.frf, e.hok, e.bare⟩
section
variable {X : Cx} {pins : List (Addr × Obj)} {σ : St} {H : Hp} {s s' : Shared}
theorem Inv.env0 (I : Inv X pins σ H s) : Env0 X.prog X.w X.K X.mg X.base X.A X.stack s H :=
 ⟨I.ok.frames, I.ok.mod, I.bs, Nat.le_trans I.ok.bsz I.sz, I.stack, I.stkFree, I.hok, I.bare⟩
theorem Inv.after {Q : VK} {u : Value} (I : Inv X pins σ H s) (h : CE X.stack X.prog X.w H s Q u s') : EP X pins σ Q u s' := by
 obtain ⟨v, H', os, bare, un, hok, r, q⟩ := h
 obtain ⟨hh, g, d, t, os'⟩ := s'
 obtain rfl : os' = s.os := os
 exact ⟨v, H', I.call (h' := hh) (g' := g) (d' := d) (t' := t) (ch := []) un hok bare (fun b z => absurd z (by simp)), r, q⟩
end
def tCall (sp : Sp) (dvs : List V) (E : XK) (t : TA) : TE := fun σ H Q => t σ H fun vs H1 => sp (vs ++ dvs) H1 Q E
def Binds (K : PySem.W.Frag) (fd : FuncData) (ps : List Str) (ds : List Value) : Prop :=
 ∀ (s : Shared) (us : List Value), K.In s.heap → (us ++ ds).length = ps.length → BindsTo s fd ⟨us, []⟩ (ps.zip (us ++ ds))
theorem Binds.all {K : PySem.W.Frag} {fd : FuncData} {ps : List Str} (h : ∀ us : List Value, us.length = ps.length → bindArgs fd ⟨us, []⟩ = pure (ps.zip us)) : Binds K fd ps [] := fun s us _ hl => by
 rw [List.append_nil] at hl ⊢
 exact .of_eq (h us hl)
def Passes (CX : CXT) (X : Cx) (E : XK) : Prop := ∀ (pins : List (Addr × Obj)) (σ : St) (H : Hp) (s : Shared) (e : Value) (s' : Shared), Inv X pins σ H s → CX X.stack H s E e s' → X.xe e s'
section
variable {X : Cx} {CX : CXT} {k : Nat} {f C : Addr} {fd : FuncData} {ps : List Str} {sp : Sp} {dvs : List V} {ds : List Value} {E : XK} {x m : Str} {p pos apos : Pos} {e o : Expr} {es : List Expr} {ta : TE} {t : TA}
theorem oP_ {pins : List (Addr × Obj)} {σ : St} {H : Hp} {s : Shared} {Q : VK} {us : List Value} {vs : List V} (F : FnOk X.prog X.w X.K X.mg X.base CX k f fd ps sp) (hr : Room k X.A) (hb : Binds X.K fd ps ds) (hd : Vals dvs ds) (hx : Passes CX X E)
  (I : Inv X pins σ H s) (r : Vals vs us) (h : sp (vs ++ dvs) H Q E) : wpAny (model X.prog X.w) X.A (call (.ref f) us) (EP X pins σ Q) X.xe s := by
 have r2 : Vals (vs ++ dvs) (us ++ ds) := r.append hd
 have hl : (us ++ ds).length = ps.length := by rw [← r2.length]; exact F.len _ _ _ _ h
 refine wpAny_call (codeAny_mono (F.run X.A X.stack s H ⟨us, []⟩ (us ++ ds) (vs ++ dvs) Q E hr I.env0 (hb s us I.kIn hl) r2 h) fun r s' hq => ?_)
 cases r with
 | error e => exact hx pins σ H s e s' I hq
 | ok fl =>
  cases fl with
  | ret u => exact I.after hq
  | next => exact False.elim hq
  | brk => exact False.elim hq
  | cont => exact False.elim hq
theorem ly_ (F : FnOk X.prog X.w X.K X.mg X.base CX k f fd ps sp) (hr : Room k X.A) (hg : Gl X x) (hm : X.mg x = some (.ref f)) (hk : PySem.W.keepIn X.K (.ref f) = true) (hb : Binds X.K fd ps ds) (hd : Vals dvs ds) (hx : Passes CX X E)
  (ha : PA X (e :: es) t) (hdb : (x == ("__debug__" : Str)) = false := by decide) (he : starEach (e :: es) X.env = (false, eval e X.env) :: starEach es X.env := by rfl) (hpl : (backTo pos (starEach es X.env)).any (·.1) = false := by rfl) :
  PE X (.Call (.Name x p) (e :: es) [] pos) (tCall sp dvs E t) := by
 intro pins s σ H Q I h
 refine wpAny_Call_Name_kw (gH_ I hg hm ?_ hdb)
 refine PySem.W.callWith_K (h₀ := X.base) I.ok.mod.kin hk (thn (ha pos pins s σ H _ I h) fun us s1 ⟨vs, H1, I1, r, q⟩ => ⟨I1.kIn, ?_⟩) he hpl
 exact oP_ F hr hb hd hx I1 r q
structure Mk (K : PySem.W.Frag) (C f : Addr) : Prop where
 makes : PySem.W.makesIn K C = true
 init : PySem.W.findIn K (.ref C) "__init__" = some (some (.ref f))
 fn : PySem.W.isFn K (.ref f) = true
 kp : PySem.W.keepIn K (.ref C) = true
end
section
variable {X : Cx} {CX : CXT} {k : Nat} {f C : Addr} {fd : FuncData} {ps ks : List Str} {sp : Sp} {E : XK} {x m : Str} {p pos apos kpos : Pos} {e o : Expr} {es : List Expr} {kws : List Keyword} {te ta : TE} {t tk : TA} {nm : Option Str}
structure KBinds (K : PySem.W.Frag) (fd : FuncData) (ps ks : List Str) (g : List Value → List Value → List Value) (gV : List V → List V → List V) : Prop where
 to : ∀ (s : Shared) (us ws : List Value), K.In s.heap → (g us ws).length = ps.length → BindsTo s fd ⟨us, ks.zip ws⟩ (ps.zip (g us ws))
 rel : ∀ {vs : List V} {us : List Value} {zs : List V} {ws : List Value}, Vals vs us → Vals zs ws → Vals (gV vs zs) (g us ws)
variable {g : List Value → List Value → List Value} {gV : List V → List V → List V}
end
structure FnScope (N P : List Str) (sc : Scope) : Prop where
 kind : sc.kind = .function
 co : sc.isCoroutine = false
 gen : sc.isGenerator = false
 nd : N.Nodup
 pre : N.take P.length = P
 par : ∀ x ∈ P, sc.names.lookup x = some .local ∨ sc.names.lookup x = some .cell
 nofree : ∀ y ∈ sc.names, y.2 ≠ .free
theorem iG_ {kindOf : Str → Option NameKind} {x : Str} : ∀ {binds : List (Str × Value)} {m : Str → Option Value}, (∀ v, (x, v) ∉ binds) → bindL kindOf binds m x = m x
 | [], _, _ => rfl
 | (n, v) :: r, m, h => by
  unfold bindL
  rw [iG_ fun w hw => h w (List.mem_cons_of_mem _ hw)]
  split
  ·have : x ≠ n := by rintro rfl; exact h v List.mem_cons_self
   simp [this]
  ·rfl
theorem iH_ {kindOf : Str → Option NameKind} {x : Str} : ∀ {binds : List (Str × Value)} {m : Str → Option Value}, (∀ v, (x, v) ∉ binds) → bindC kindOf binds m x = m x
 | [], _, _ => rfl
 | (n, v) :: r, m, h => by
  unfold bindC
  rw [iH_ fun w hw => h w (List.mem_cons_of_mem _ hw)]
  split
  ·rfl
  ·have : x ≠ n := by rintro rfl; exact h v List.mem_cons_self
   simp [this]
theorem iI_ {kindOf : Str → Option NameKind} {x : Str} {v : Value} : ∀ {P : List Str} {vs : List Value} {i : Nat} {m : Str → Option Value}, P.Nodup → P[i]? = some x → vs[i]? = some v → kindOf x = some .local →
  bindL kindOf (P.zip vs) m x = some v
 | [], _, _, _, _, h, _, _ => by simp at h
 | _ :: _, [], _, _, _, _, h, _ => by simp at h
 | p :: P, w :: vs, 0, m, nd, h1, h2, hk => by
  simp at h1 h2; subst h1; subst h2
  show bindL kindOf ((p, w) :: P.zip vs) m p = _
  unfold bindL
  rw [iG_ fun v hv => (List.nodup_cons.mp nd).1 (List.of_mem_zip hv).1, if_pos hk]
  simp
 | p :: P, w :: vs, i + 1, m, nd, h1, h2, hk => by
  show bindL kindOf ((p, w) :: P.zip vs) m x = _
  unfold bindL
  exact iI_ (i := i) (List.nodup_cons.mp nd).2 (by simpa using h1) (by simpa using h2) hk
theorem iJ_ {kindOf : Str → Option NameKind} {x : Str} {v : Value} : ∀ {P : List Str} {vs : List Value} {i : Nat} {m : Str → Option Value}, P.Nodup → P[i]? = some x → vs[i]? = some v → kindOf x ≠ some .local →
  bindC kindOf (P.zip vs) m x = some v
 | [], _, _, _, _, h, _, _ => by simp at h
 | _ :: _, [], _, _, _, _, h, _ => by simp at h
 | p :: P, w :: vs, 0, m, nd, h1, h2, hk => by
  simp at h1 h2; subst h1; subst h2
  show bindC kindOf ((p, w) :: P.zip vs) m p = _
  unfold bindC
  rw [iH_ fun v hv => (List.nodup_cons.mp nd).1 (List.of_mem_zip hv).1, if_neg hk]
  simp
 | p :: P, w :: vs, i + 1, m, nd, h1, h2, hk => by
  show bindC kindOf ((p, w) :: P.zip vs) m x = _
  unfold bindC
  exact iJ_ (i := i) (List.nodup_cons.mp nd).2 (by simpa using h1) (by simpa using h2) hk
def start (N : List Str) (vs : List V) : St := vs.map some ++ List.replicate (N.length - vs.length) none
def cxOf (CX : CXT) (P : Program) (w : World) (K : PySem.W.Frag) (mg : Str → Option Value) (base : Heap) (N : List Str) (qual : Str) (scope : Scope) (f : Addr) (cd : Value) (A : Around) (outer : List Env) (s : Shared) (H : Hp) (E : XK) : Cx where
 prog := P
 w := w
 K := K
 mg := mg
 base := base
 A := A.deeper (envOfC qual scope s.heap.objs.size f cd)
 N := N
 s₀ := s
 H₀ := H
 env := envOfC qual scope s.heap.objs.size f cd
 outer := outer
 stack := envOfC qual scope s.heap.objs.size f cd :: outer
 ex := []
 calm := true
 fn := fun _ => true
 pn := []
 xe := fun e s' => wpAny (model P w) (A.deeper (envOfC qual scope s.heap.objs.size f cd)) (leaving (envOfC qual scope s.heap.objs.size f cd) e) (fun _ s'' => CX outer H s E e s'') (fun e' s'' => CX outer H s E e' s'') s'
theorem kl_ {sc : Scope} {n : Nat} {x : Str} (h : sc.names.lookup x = some .cell) : ∃ c, (cellsFrom n sc.names []).lookup x = some c := by
 have q := PySem.W.cellsFrom_some sc.names n [] (.inl h)
 exact Option.isSome_iff_exists.mp q
theorem lz_ {CX : CXT} {P : Program} {w : World} {K : PySem.W.Frag} {mg : Str → Option Value} {base : Heap} {N ps : List Str} {qual : Str} {scope : Scope} {f : Addr} {cd : Value} {A : Around} {outer : List Env} {s s1 : Shared} {H : Hp} {E : XK} {us : List Value} {vs : List V}
  (S : FnScope N ps scope) (hd : A.handled = none) (e0 : Env0 P w K mg base A outer s H) (hl : vs.length = ps.length) (r : Vals vs us)
  (x : InCallC s s.heap.objs.size (bindL (envOfC qual scope s.heap.objs.size f cd).kindOf (ps.zip us) fun _ => none) (cellsFrom (s.heap.objs.size + 1) scope.names []) (bindC (envOfC qual scope s.heap.objs.size f cd).kindOf (ps.zip us) fun _ => none) s1) :
  Inv (cxOf CX P w K mg base N qual scope f cd A outer s H E) [] (start N vs) H s1 := by
 have hpl : ps.length ≤ N.length := by have := congrArg List.length S.pre; rw [List.length_take] at this; omega
 obtain ⟨h1, tk, rfl, hk⟩ := x.done
 have noA : ∀ b : Addr, b ∉ (cxOf CX P w K mg base N qual scope f cd A outer s H E).ex := fun b z => absurd (show b ∈ ([] : List Addr) from z) (by simp)
 refine ⟨⟨e0.mod, S.kind, rfl, rfl, Nat.le_refl _, fun y z c h1 h2 => ?_, fun y hy => ?_, fun y c _ h => ?_, fun _ => hd, Around.frames_deeper e0.frames, .inr ⟨rfl, rfl⟩, fun b z => absurd z (noA b), e0.bs, e0.bsz, fun b _ _ => noA b, fun b z => absurd z (noA b), e0.funs, e0.frf⟩,
  rfl, e0.bare, Un.kept hk, ⟨_, x.toInCall.ns, fun i y v h1 h2 h3 => ?_⟩, fun y c h => ⟨_, x.cell y c h⟩, e0.hok.fresh (Nat.le_refl _), fun y c h => ?_, fun p hp => absurd (show p ∈ ([] : List (Addr × Obj)) from hp) (by simp), e0.hok.kept hk, ?_⟩
 ·exact name_of_addr x.apart (PySem.mem_of_lookup h1) (PySem.mem_of_lookup h2)
 ·have hy : scope.names.lookup y = some .cell ∨ scope.names.lookup y = some .free := hy
  rcases hy with hy | hy
  ·exact kl_ hy
  ·exact absurd rfl (S.nofree _ (PySem.mem_of_lookup hy))
 ·exact Nat.le_of_lt (x.above y c (PySem.mem_of_lookup h))
 ·have hi : i < vs.length := by
   unfold start at h2
   by_cases hi : i < vs.length
   ·exact hi
   ·rw [List.getElem?_append_right (by simpa using hi)] at h2
    rw [List.getElem?_replicate] at h2
    split at h2 <;> cases h2
  have ha : vs[i]? = some v := by
   unfold start at h2
   rw [List.getElem?_append_left (by simpa using hi), List.getElem?_map] at h2
   cases e : vs[i]? with
   | none => rw [e] at h2; cases h2
   | some a => rw [e] at h2; cases h2; rfl
  obtain ⟨u, hu, rv⟩ := r.get ha
  have hp : ps[i]? = some y := by
   rw [← S.pre, List.getElem?_take_of_lt (by omega)]; exact h1
  have ndP : ps.Nodup := by rw [← S.pre]; exact S.nd.sublist (List.take_sublist _ _)
  refine ⟨u, rv, ?_⟩
  rcases S.par y (List.mem_of_getElem? hp) with k | k
  ·exact .inl ⟨k, iI_ ndP hp hu k⟩
  ·obtain ⟨c, e⟩ := kl_ (n := s.heap.objs.size + 1) k
   refine .inr ⟨.inl k, c, e, ?_⟩
   have q := x.cell y c e
   rw [iJ_ ndP hp hu (by show scope.names.lookup y ≠ _; rw [k]; decide)] at q
   exact q
 ·exact e0.hok.fresh (Nat.le_of_lt (x.above y c (PySem.mem_of_lookup h)))
 ·unfold start
  show _ = N.length
  rw [List.length_append, List.length_map, List.length_replicate]
  omega
theorem fn_of {CX : CXT} {P : Program} {w : World} {K : PySem.W.Frag} {mg : Str → Option Value} {base : Heap} {k : Nat} {f : Addr} {name qual : Str} {params : Arguments} {body : List Stmt} {scope : Scope} {dV kV doc pm cdv ct oc : Value} {an od : Option Addr}
  {osl : Array (Option Value)} {N ps : List Str} {sp : Sp} (lk : K.lookup f = some ⟨oc, od, .func (PySem.W.fnOf name qual params body scope dV kV doc pm an cdv ct), osl⟩) (hcd : PySem.W.codeIn K cdv qual = true) (S : FnScope N ps scope)
  (len : ∀ vs H Q E, sp vs H Q E → vs.length = ps.length)
  (hbody : ∀ (A : Around) (outer : List Env) (s : Shared) (H : Hp) (vs : List V) (Q : VK) (E : XK), Room k (A.deeper (envOfC qual scope s.heap.objs.size f cdv)) → sp vs H Q E →
   ∃ t, PSs (cxOf CX P w K mg base N qual scope f cdv A outer s H E) body t ∧ t { nx := fun _ H' => Q .non H', rt := Q } (start N vs) H) :
  FnOk P w K mg base CX (k + 1) f (PySem.W.fnOf name qual params body scope dV kV doc pm an cdv ct) ps sp := by
 refine ⟨len, fun A outer s H args us vs Q E hr e0 hb r hsp => ?_⟩
 have hl := len _ _ _ _ hsp
 have KX : K.In s.heap := e0.mod.kin.keeps fun b o e => (e0.bs b o e).1
 have lim : s.heap.NoLimit := e0.mod.nolimit.keeps fun b o e => (e0.bs b o e).1
 have hkind : ∀ y ∈ ps.zip us, scope.names.lookup y.1 = some .local ∨ (scope.names.lookup y.1 = some .cell ∧ ((cellsFrom (s.heap.objs.size + 1) scope.names []).lookup y.1).isSome = true) := fun ⟨n, v⟩ hy => by
  rcases S.par n (List.of_mem_zip hy).1 with q | q
  ·exact .inl q
  ·exact .inr ⟨q, PySem.W.cellsFrom_some _ _ _ (.inl q)⟩
 refine codeAny_call_function hr.depth (KX _ _ lk) rfl S.co S.gen rfl (PySem.W.codeRec_of KX hcd) (hb _ _ _ _ ?_)
 refine wpAny_newFunctionEnv_cells S.kind hkind fun env he s1 x => ?_
 subst he
 refine ⟨lim.keeps x.toInCall.keep, codeAny_func ?_⟩
 obtain ⟨t, ht, hq⟩ := hbody A outer s H vs Q E (hr.deeper _) hsp
 have I : Inv (cxOf CX P w K mg base N qual scope f cdv A outer s H E) [] (start N vs) H s1 := lz_ S hr.hd e0 hl r x
 refine wpAny_mono (ht [] s1 (start N vs) H _ I hq) (fun fl s' hs => ?_) fun e s' hs => hs
 have fin : ∀ {σ' : St} {H' : Hp} {v : V} {u : Value}, Inv (cxOf CX P w K mg base N qual scope f cdv A outer s H E) [] σ' H' s' → RelV v u → Q v H' → CE outer P w H s Q u s' :=
  fun {σ' H' v u} J rv q => ⟨v, H', J.os, J.bare, J.base, J.hok, rv, q⟩
 cases fl with
 | ret u =>
  obtain ⟨v, σ', H', J, rv, q⟩ := hs
  exact fin J rv q
 | next =>
  obtain ⟨σ', H', J, q⟩ := hs
  exact fin (v := V.non) (u := Value.none) J rfl q
 | brk =>
  obtain ⟨_, _, _, q⟩ := hs
  exact False.elim q
 | cont =>
  obtain ⟨_, _, _, q⟩ := hs
  exact False.elim q
end L2
namespace L2
open PySem PySem.Spec PyProof.Rows
section
variable {X : Cx} {x : Str} {p pos : Pos} {e : Expr} {es : List Expr} {t : TA} {id T : String} {r : List V → Hp → VK → Prop}
def tCB (r : List V → Hp → VK → Prop) (t : TA) : TE := fun σ H Q => t σ H fun vs H1 => r vs H1 Q
theorem mP_ (hc : CallR X (.builtin id) r) (hg : Gl X x) (hm : X.mg x = none) (hv : bootBuiltins x = some (.builtin id)) (ha : PA X (e :: es) t) (hn : x ≠ "__name__" := by decide) (hdb : (x == ("__debug__" : Str)) = false := by decide)
  (he : starEach (e :: es) X.env = (false, eval e X.env) :: starEach es X.env := by rfl) (hpl : (backTo pos (starEach es X.env)).any (·.1) = false := by rfl) : PE X (.Call (.Name x p) (e :: es) [] pos) (tCB r t) := by
 intro pins s σ H Q I h
 refine wpAny_Call_Name_kw (d8_ I hg hm hv ?_ hn hdb)
 exact PyProof.Rows.callWith_builtin1 (thn (ha pos pins s σ H _ I h) fun us s1 ⟨vs, H1, I1, r1, q1⟩ => hc pins s1 σ H1 vs us Q I1 r1 q1) he hpl
theorem lA_ (hc : CallR X (.type T) r) (hg : Gl X x) (hm : X.mg x = none) (hv : bootBuiltins x = some (.type T)) (ha : PA X (e :: es) t) (hn : x ≠ "__name__" := by decide) (hdb : (x == ("__debug__" : Str)) = false := by decide)
  (he : starEach (e :: es) X.env = (false, eval e X.env) :: starEach es X.env := by rfl) (hpl : (backTo pos (starEach es X.env)).any (·.1) = false := by rfl) : PE X (.Call (.Name x p) (e :: es) [] pos) (tCB r t) := by
 intro pins s σ H Q I h
 refine wpAny_Call_Name_kw (d8_ I hg hm hv ?_ hn hdb)
 exact PyProof.Rows.callWith_type1 (thn (ha pos pins s σ H _ I h) fun us s1 ⟨vs, H1, I1, r1, q1⟩ => hc pins s1 σ H1 vs us Q I1 r1 q1) he hpl
end
end L2
namespace HT
open PySem PyProof.Rows
section
open PySem.SeqAt
open PySem.AutoSeq1 (wpAny_loadPart')
open PySem.MeetsSeq PySem.MeetsSeq2 PySem.MeetsSeq3
end
section
variable {prog : Program} {w : World} {A : Around} {E : Value → Shared → Prop} {s : Shared}
theorem cat_tup {t b : Addr} {vs ws : List Value} {Q : Value → Shared → Prop} (ht : IsTup s.heap t vs.toArray) (hb : IsTup s.heap b ws.toArray) (hv : vs ≠ [])
  (h1 : ws = [] → Q (.ref t) s) (h2 : ws ≠ [] → Q (.ref s.heap.objs.size) { s with heap := s.heap.push { cls := .type "tuple", data := .seq (vs ++ ws).toArray } })
  (hsz : vs.length + ws.length ≤ sizeLine) : wpAny (model prog w) A (binaryOp .Add (.ref t) (.ref b)) Q E s := by
 obtain ⟨⟨cls, dd, data, sl⟩, ho, hc, n, hd⟩ := id ht
 obtain ⟨⟨cls2, dd2, data2, sl2⟩, ho2, hc2, n2, hd2⟩ := id hb
 simp only at hc hd hc2 hd2
 subst hc hd hc2 hd2
 have e : vs.toArray ++ ws.toArray = (vs ++ ws).toArray := by simp
 by_cases hw : ws = []
 ·exact concat_meets ⟨_, ho, rfl⟩ ⟨_, ho2, rfl⟩ noFill_tuple_add seq_tuple_add PySem.F.slot_tuple_add PySem.F.entry_tuple_add (PySem.F.args_tuple_add_2 _ _)
   (tuple_addW1 t b vs.toArray ws.toArray n n2 dd dd2 sl sl2 (by simpa using hv) (by simp [hw])) ⟨ho, ho2, h1 hw⟩
 ·refine concat_meets ⟨_, ho, rfl⟩ ⟨_, ho2, rfl⟩ noFill_tuple_add seq_tuple_add PySem.F.slot_tuple_add PySem.F.entry_tuple_add (PySem.F.args_tuple_add_2 _ _)
   (tuple_addW2 t b vs.toArray ws.toArray n n2 dd dd2 sl sl2 (by simpa using hv) (by simpa using hw) (by rw [List.size_toArray, List.size_toArray]; exact hsz)) ⟨ho, ho2, ?_⟩
  rw [e]
  exact h2 hw
def sIx (n d : Nat) : Option Int → Nat
 | none => d
 | some v => if v < 0 then (v + (n : Int)).toNat else min v.toNat n
theorem sIx_none (n d : Nat) : sIx n d none = d := rfl
theorem sIx_nat (n d k : Nat) : sIx n d (some (k : Int)) = min k n := by
 show (if (k : Int) < 0 then ((k : Int) + (n : Int)).toNat else min (k : Int).toNat n) = min k n
 rw [if_neg (by omega), Int.toNat_natCast]
end
end HT
namespace L2
open PySem PySem.Spec PyProof.Rows
abbrev TO := St → Hp → (Option Int → Hp → Prop) → Prop
def PO (X : Cx) (e : Option Expr) (t : TO) : Prop :=
 ∀ (pins : List (Addr × Obj)) (s : Shared) (σ : St) (H : Hp) (Q : Option Int → Hp → Prop), Inv X pins σ H s → t σ H Q →
  wpAny (model X.prog X.w) X.A (evalPart e X.env) (fun u s' => ∃ o H', Inv X pins σ H' s' ∧ IsPart u o ∧ Q o H') X.xe s
def tNoPart : TO := fun _ H Q => Q none H
def tPart (t : TE) : TO := fun σ H Q => t σ H fun x H1 => ∃ i, x = .int i ∧ Q (some i) H1
theorem hI_ {ns : List Int} : ∀ {us : List Value}, Vals (ns.map V.int) us → IntsAre us ns := by
 induction ns with
 | nil => intro us r; rw [List.map_nil] at r; cases r; exact .nil
 | cons n ns ih =>
  intro us r
  rw [List.map_cons] at r
  cases r with
  | cons r1 r2 =>
   obtain ⟨t, e⟩ := r1
   subst e
   exact .cons n t (ih r2)
section
variable {X : Cx} {e : Expr} {te : TE} {lo hi : Option Expr} {tl th : TO} {pos p2 : Pos}
theorem a2_ : PO X none tNoPart := by
 intro pins s σ H Q I h
 rw [evalPart_none]
 exact wpAny_pure ⟨none, H, I, .none, h⟩
theorem aV_ (h : PE X e te) : PO X (some e) (tPart te) := by
 intro pins s σ H Q I hw
 rw [evalPart_some]
 refine thn (h pins s σ H _ I hw) fun u s1 ⟨x, H1, I1, r1, q1⟩ => ?_
 obtain ⟨i, rfl, q⟩ := q1
 obtain ⟨t, rfl⟩ := r1
 exact ⟨some i, H1, I1, .int i t, q⟩
def SlR (X : Cx) (r : V → Option Int → Option Int → Hp → VK → Prop) : Prop :=
 ∀ (pins : List (Addr × Obj)) (s : Shared) (σ : St) (H : Hp) (x : V) (v vl vu : Value) (lo hi : Option Int) (sl : Addr) (Q : VK), Inv X pins σ H s → RelV x v → s.heap.IsSliceOf sl vl vu .none → IsPart vl lo → IsPart vu hi → r x lo hi H Q →
  ∃ T id, typeLookup (.type T) "__getitem__" = pure (some (.builtin id)) ∧ s.TypeIs v T ∧ wpAny (model X.prog X.w) X.A (getItem v (.ref sl)) (EP X pins σ Q) X.xe s
def tSl (r : V → Option Int → Option Int → Hp → VK → Prop) (te : TE) (tl th : TO) : TE := fun σ H Q => te σ H fun x H1 => tl σ H1 fun l H2 => th σ H2 fun u H3 => r x l u H3 Q
theorem aL_ {r : V → Option Int → Option Int → Hp → VK → Prop} (hr : SlR X r) (he : PE X e te) (hl : PO X lo tl) (hu : PO X hi th) : PE X (.Subscript e (.Slice lo hi none p2) pos) (tSl r te tl th) := by
 intro pins s σ H Q I h
 refine Subscript_ (thn (he pins s σ H _ I h) fun v s1 ⟨x, H1, I1, r1, q1⟩ => ?_)
 refine wpAny_Slice (thn (hl pins s1 σ H1 _ I1 q1) fun vl s2 ⟨l, H2, I2, pl, q2⟩ => thn (hu pins s2 σ H2 _ I2 q2) fun vu s3 ⟨u, H3, I3, pu, q3⟩ => ?_)
 rw [evalPart_none]
 refine wpAny_pure ?_
 have I4 : Inv X pins σ H3 { s3 with heap := s3.heap.push { cls := .type "slice", data := .fields #[vl, vu, .none] } } := I3.kept (t' := s3.toks) fun b ob q => Heap.get?_push_of_some _ q
 obtain ⟨T, id, hT, ht, hg⟩ := hr pins { s3 with heap := s3.heap.push { cls := .type "slice", data := .fields #[vl, vu, .none] } } σ H3 x v vl vu l u s3.heap.objs.size Q I4 r1 (Heap.IsSliceOf.new ..) pl pu q3
 show wpAny (model X.prog X.w) X.A (subscriptTail e (.Slice lo hi none p2) v (.ref s3.heap.objs.size)) (EP X pins σ Q) X.xe { s3 with heap := s3.heap.push { cls := .type "slice", data := .fields #[vl, vu, .none] } }
 exact tail_any (ops := [.ref s3.heap.objs.size, v]) ht hT hg (by with_unfolding_all rfl)
def cutV (xs : List V) (lo hi : Option Int) : List V := (xs.drop (HT.sIx xs.length 0 lo)).take (HT.sIx xs.length xs.length hi - HT.sIx xs.length 0 lo)
theorem jw_ (xs : List V) (lo hi : Option Int) : (cutV xs lo hi).length ≤ xs.length := by
 unfold cutV
 rw [List.length_take, List.length_drop]
 omega
def rCatT (K : PySem.W.Frag) : R2 := fun x y H Q => ∃ a b xs ys, x = .ref a ∧ y = .ref b ∧ SqT K H a xs ∧ SqT K H b ys ∧ xs ≠ [] ∧ xs.length + ys.length ≤ sizeLine ∧
 (ys = [] → Q (.ref a) H) ∧ (ys ≠ [] → ∀ p, H p = none → Q (.ref p) (upd H p (.tup (xs ++ ys))))
theorem Vals.nil_iff {xs : List V} {us : List Value} (r : Vals xs us) : us = [] ↔ xs = [] := by
 cases r with
 | nil => simp
 | cons _ _ => simp
theorem n4_ : OpR X (binaryOp .Add) (rCatT X.K) := by
 intro pins s σ H x y v u Q I rx ry h
 obtain ⟨a, b, xs, ys, rfl, rfl, ha, hb, hx, hz, q1, q2⟩ := h
 cases rx
 cases ry
 obtain ⟨its, r1, p1, _⟩ := I.tuple ha
 obtain ⟨its2, r2, p2, _⟩ := I.tuple hb
 refine HT.cat_tup p1 p2 (fun z => hx (r1.nil_iff.mp z)) (fun z => ⟨.ref a, H, I, rfl, q1 (r2.nil_iff.mp z)⟩) (fun z => ?_) (by rw [← r1.length, ← r2.length]; exact hz)
 refine ⟨.ref s.heap.objs.size, _, I.laid (t' := s.toks) (o := .tup (xs ++ ys)) (fun b ob q => Heap.get?_push_of_some _ q) (Nat.le_refl _) ?_, rfl, q2 (fun w => z (r2.nil_iff.mpr w)) _ (I.hok.fresh (Nat.le_refl _))⟩
 exact ⟨by rw [List.length_append]; exact hz, _, r1.append r2, IsTup.new _ _⟩
end
end L2
namespace L2
open PySem PySem.Spec PyProof.Rows
def ixN (n : Nat) (i : Int) : Option Nat := if 0 ≤ i then (if i < n then some i.toNat else none) else if -(n : Int) ≤ i then some (i + n).toNat else none
def atI {α : Type} (xs : List α) (i : Int) : Option α := (ixN xs.length i).bind fun j => xs[j]?
theorem lB_ {n : Nat} {i : Int} {j : Nat} (h : ixN n i = some j) : seqIndex? i n = some j ∧ j < n ∧ -(n : Int) ≤ i ∧ i < n := by
 unfold ixN at h
 by_cases h0 : 0 ≤ i
 ·rw [if_pos h0] at h
  by_cases h1 : i < n
  ·rw [if_pos h1] at h
   have e : i.toNat = j := Option.some.inj h
   exact ⟨by rw [seqIndex_of h0 h1, e], by omega, by omega, h1⟩
  ·rw [if_neg h1] at h; cases h
 ·rw [if_neg h0] at h
  by_cases h1 : -(n : Int) ≤ i
  ·rw [if_pos h1] at h
   have e : (i + n).toNat = j := Option.some.inj h
   exact ⟨by rw [seqIndex_neg (by omega) h1, e], by omega, h1, by omega⟩
  ·rw [if_neg h1] at h; cases h
theorem jx_ {α : Type} {xs : List α} {i : Int} {v : α} (h : atI xs i = some v) : ∃ j, seqIndex? i xs.length = some j ∧ xs[j]? = some v ∧ j < xs.length ∧ -(xs.length : Int) ≤ i ∧ i < xs.length := by
 unfold atI at h
 cases e : ixN xs.length i with
 | none => rw [e] at h; cases h
 | some j =>
  rw [e] at h
  obtain ⟨h1, h2, h3, h4⟩ := lB_ e
  exact ⟨j, h1, h, h2, h3, h4⟩
def PlainIx (b : Expr) : Prop := ∀ o i, subscripted b false o i = operate [o, i] (getItem o i)
def IxR (X : Cx) (r : R2) : Prop :=
 ∀ (value slice : Expr) (pins : List (Addr × Obj)) (s : Shared) (σ : St) (H : Hp) (x y : V) (v u : Value) (Q : VK), Inv X pins σ H s → RelV x v → RelV y u → r x y H Q →
  subscripted slice false v u = operate [v, u] (getItem v u) → wpAny (model X.prog X.w) X.A (subscriptTail value slice v u) (EP X pins σ Q) X.xe s
def MtR (X : Cx) (id : String) (r : V → List V → Hp → VK → Prop) : Prop :=
 ∀ (pins : List (Addr × Obj)) (s : Shared) (σ : St) (H : Hp) (x : V) (xs : List V) (v : Value) (us : List Value) (Q : VK), Inv X pins σ H s → RelV x v → Vals xs us → r x xs H Q →
  wpAny (model X.prog X.w) X.A (call (.builtin id) (v :: us)) (EP X pins σ Q) X.xe s
section
variable {X : Cx} {a b : Expr} {ta tb : TE} {pos : Pos}
theorem pe_ix {r : R2} (hr : IxR X r) (ha : PE X a ta) (hb : PE X b tb) (hs : PlainIx b) : PE X (.Subscript a b pos) (tOp r ta tb) := by
 intro pins s σ H Q I h
 exact Subscript_ (binT ha hb I h fun v u s2 x y H2 I2 rx ry q => hr a b pins s2 σ H2 x y v u Q I2 rx ry q (hs _ _))
def rIxL (K : PySem.W.Frag) : R2 := fun x y H Q => ∃ p xs i v, x = .ref p ∧ y = .int i ∧ SqL K H p xs ∧ atI xs i = some v ∧ Q v H
def rIxT (K : PySem.W.Frag) : R2 := fun x y H Q => ∃ p xs i v, x = .ref p ∧ y = .int i ∧ SqT K H p xs ∧ atI xs i = some v ∧ Q v H
def rIxS : R2 := fun x y H Q => ∃ z i c, x = .str z ∧ y = .int i ∧ z.length ≤ sizeLine ∧ atI z.cps.toList i = some c ∧ Q (.str ⟨#[c]⟩) H
theorem lC_ : IxR X (rIxL X.K) := by
 intro value slice pins s σ H x y v u Q I rx ry h hs
 obtain ⟨p, xs, i, z, rfl, rfl, hq, he, q⟩ := h
 cases rx
 obtain ⟨t, rfl⟩ := ry
 obtain ⟨its, r, pl, hz⟩ := I.list hq
 obtain ⟨j, h1, h2, h3, h4, h5⟩ := jx_ he
 obtain ⟨w, ew, rw'⟩ := r.get h2
 have hl := r.length
 have hn := line63
 have fin : EP X pins σ Q w s := ⟨z, H, I, rw', q⟩
 by_cases h0 : 0 ≤ i
 ·have hj : i.toNat = j := by
   rw [seqIndex_of h0 h5] at h1
   exact Option.some.inj h1
  exact item_listR pl.isList h0 (by omega) (by rw [hj]; simpa using ew) fin hs
 ·have hj : (i + (its.toArray.size : Int)).toNat = j := by
   rw [seqIndex_neg (by omega) h4] at h1
   rw [List.size_toArray, ← hl]
   exact Option.some.inj h1
  exact subscriptTail_builtinR (x := w) pl.isList.typeIs slot_list_getitem.lookup
   (wpAny_getItem_list_neg (Q := fun r s' => r = w ∧ EP X pins σ Q r s') pl.isList (by omega) (by rw [List.size_toArray] <;> omega) (by omega) (by rw [hj]; simpa using ew) ⟨rfl, fin⟩) hs
theorem oQ_ : IxR X (rIxT X.K) := by
 intro value slice pins s σ H x y v u Q I rx ry h hs
 obtain ⟨p, xs, i, z, rfl, rfl, hq, he, q⟩ := h
 cases rx
 obtain ⟨t, rfl⟩ := ry
 obtain ⟨its, r, pl, hz⟩ := I.tuple hq
 obtain ⟨j, h1, h2, h3, h4, h5⟩ := jx_ he
 obtain ⟨w, ew, rw'⟩ := r.get h2
 have hl := r.length
 have hn := line63
 have fin : EP X pins σ Q w s := ⟨z, H, I, rw', q⟩
 exact subscriptTail_builtinR (x := w) pl.typeIs slot_tuple_getitem.lookup
  (getItem_tuple (j := j) (Q := fun r s' => r = w ∧ EP X pins σ Q r s') pl (by omega) (by omega) (by rw [List.size_toArray, ← hl]; exact h1) (by simpa using ew) ⟨rfl, fin⟩) hs
theorem gJ_ : IxR X rIxS := by
 intro value slice pins s σ H x y v u Q I rx ry h hs
 obtain ⟨z, i, c, rfl, rfl, hz, he, q⟩ := h
 obtain ⟨t, rfl⟩ := rx
 obtain ⟨t', rfl⟩ := ry
 obtain ⟨j, h1, h2, h3, h4, h5⟩ := jx_ he
 have hl : z.cps.toList.length = z.length := by simp [Str.length]
 rw [hl] at h1 h4 h5
 have hn := line63
 exact tail_any (typeIs_str s z t) slot_str_getitem.lookup (getItem_str (c := c) (by
  have e1 : decide (i < -(2 ^ 63 : Int)) = false := decide_eq_false (by omega)
  have e2 : decide (i ≥ 2 ^ 63) = false := decide_eq_false (by omega)
  rw [e1, e2, Bool.or_false]) (by rw [h1]; simpa using h2) ⟨.str ⟨#[c]⟩, H, I.tok _, ⟨_, rfl⟩, q⟩) hs
theorem kT_ (its : List Value) (n j : Nat) (u : Value) : Obj.mapSeq (·.setIfInBounds j u) { cls := .type "list", data := .seq its.toArray n } = { cls := .type "list", data := .seq (its.set j u).toArray n } := by
 simp [Obj.mapSeq]
theorem Inv.lst {pins : List (Addr × Obj)} {σ : St} {H : Hp} {s : Shared} {p : Addr} {xs : List V} (I : Inv X pins σ H s) (h : H p = some (.lst xs)) :
  ∃ (its : List Value) (n : Nat), Vals xs its ∧ s.heap.get? p = some { cls := .type "list", data := .seq its.toArray n } ∧ xs.length ≤ sizeLine := by
 obtain ⟨z, its, n, r, e⟩ := I.hok p _ h
 exact ⟨its, n, r, e, z⟩
theorem Inv.lstUpd {pins : List (Addr × Obj)} {σ : St} {H : Hp} {s : Shared} {p : Addr} {xs ys : List V} {its its' : List Value} {n n' : Nat} {f : Obj → Obj} (I : Inv X pins σ H s) (h : H p = some (.lst xs))
  (ho : s.heap.get? p = some { cls := .type "list", data := .seq its.toArray n }) (hf : f { cls := .type "list", data := .seq its.toArray n } = { cls := .type "list", data := .seq its'.toArray n' }) (r : Vals ys its') (hz : ys.length ≤ sizeLine) (t : Nat) :
  Inv X pins σ (upd H p (.lst ys)) { s with heap := s.heap.update p f, toks := t } := by
 have e : (s.heap.update p f).get? p = some { cls := .type "list", data := .seq its'.toArray n' } := by
  rw [Heap.get?_update_self f ho (by rw [hf] <;> rfl), hf]
 refine I.write (x := p) (e := p) (by rw [h]; trivial) (.inl rfl) (fun b u hb q => (Heap.get?_update_other _ _ (Ne.symm hb)).trans q) ⟨_, e⟩ ?_
 exact ⟨hz, its', n', r, e⟩
def rSetL : V → V → V → Hp → (Hp → Prop) → Prop := fun o i v H Q => ∃ p xs k j, o = .ref p ∧ i = .int k ∧ H p = some (.lst xs) ∧ ixN xs.length k = some j ∧ Q (upd H p (.lst (xs.set j v)))
theorem gt_ : PSet X rSetL := by
 intro pins s σ H o i v ov iv u Q I ro ri rv h
 obtain ⟨p, xs, k, j, rfl, rfl, hp, hj, q⟩ := h
 cases ro
 obtain ⟨t, rfl⟩ := ri
 obtain ⟨its, n, r, ho, hz⟩ := I.lst hp
 obtain ⟨h1, h2, h3, h4⟩ := lB_ hj
 have hl := r.length
 have hn := line63
 have I' : Inv X pins σ (upd H p (.lst (xs.set j v))) { s with heap := s.heap.update p (Obj.mapSeq (·.setIfInBounds j u)) } :=
  I.lstUpd hp ho (kT_ its n j u) (r.set rv j) (by rw [List.length_set]; exact hz) s.toks
 by_cases h0 : 0 ≤ k
 ·have hk : k.toNat = j := by
   rw [seqIndex_of h0 h4] at h1
   exact Option.some.inj h1
  exact PySem.W.ki_setAt ho h0 (by omega) (by rw [List.size_toArray, ← hl]; exact h4) (by rw [hk]; exact ⟨_, I', q⟩)
 ·have hk : (k + (its.toArray.size : Int)).toNat = j := by
   rw [seqIndex_neg (by omega) h3] at h1
   rw [List.size_toArray, ← hl]
   exact Option.some.inj h1
  exact PySem.W.ki_setBack ho (by omega) (by rw [List.size_toArray, ← hl]; exact h3) (by omega) (by rw [hk]; exact ⟨_, I', q⟩)
theorem iK_ (lo hi : Option Int) (n : Nat) : (sliceBounds lo hi none n).1 = ((HT.sIx n 0 lo : Nat) : Int) ∧ (sliceBounds lo hi none n).2.1 = ((HT.sIx n n hi : Nat) : Int) ∧ (sliceBounds lo hi none n).2.2 = 1 := by
 refine ⟨?_, ?_, rfl⟩
 ·cases lo with
  | none => simp [sliceBounds, HT.sIx]
  | some i =>
   simp only [sliceBounds, HT.sIx, Option.getD_none, show (1 : Int) > 0 by decide, if_true]
   by_cases h : i < 0
   ·simp only [h, if_true] <;> omega
   ·simp only [h, if_false] <;> omega
 ·cases hi with
  | none => simp [sliceBounds, HT.sIx]
  | some i =>
   simp only [sliceBounds, HT.sIx, Option.getD_none, show (1 : Int) > 0 by decide, if_true]
   by_cases h : i < 0
   ·simp only [h, if_true] <;> omega
   ·simp only [h, if_false] <;> omega
theorem hU_ (its : List Value) (lo hi : Option Int) : slicePick its.toArray lo hi none = ((its.drop (HT.sIx its.length 0 lo)).take (HT.sIx its.length its.length hi - HT.sIx its.length 0 lo)).toArray := by
 obtain ⟨h1, h2, h3⟩ := iK_ lo hi its.toArray.size
 unfold slicePick
 rw [h1, h2, h3]
 simp only [sliceRange_one, pick_run, List.size_toArray] <;> rfl
def rSlL (K : PySem.W.Frag) : V → Option Int → Option Int → Hp → VK → Prop := fun x lo hi H Q => ∃ a xs, x = .ref a ∧ SqL K H a xs ∧ ∀ p, H p = none → Q (.ref p) (upd H p (.lst (cutV xs lo hi)))
theorem n5_ : SlR X (rSlL X.K) := by
 intro pins s σ H x v vl vu lo hi sl Q I rx hs pl pu h
 obtain ⟨a, xs, rfl, hx, q⟩ := h
 cases rx
 obtain ⟨its, r, ht, hz⟩ := I.list hx
 have hlen := r.length
 refine ⟨"list", _, slot_list_getitem.lookup, ht.isList.typeIs, ?_⟩
 refine wpAny_getItem_list_slice ht.isList hs pl pu .none (by simp) ?_ (by rw [List.size_toArray] <;> omega)
 rw [hU_, ← hlen]
 refine ⟨.ref s.heap.objs.size, _, I.laid (t' := s.toks) (o := .lst (cutV xs lo hi)) (fun b ob q => Heap.get?_push_of_some _ q) (Nat.le_refl _) ?_, rfl, q _ (I.hok.fresh (Nat.le_refl _))⟩
 exact ⟨Nat.le_trans (jw_ xs lo hi) hz, _, 0, (r.drop (HT.sIx xs.length 0 lo)).take (HT.sIx xs.length xs.length hi - HT.sIx xs.length 0 lo), Heap.get?_push_size _ rfl⟩
def flatV : V → Bool
 | .non => true
 | .bl _ => true
 | .int _ => true
 | .str _ => true
 | _ => false
def eqV : V → V → Bool
 | .non, .non => true
 | .bl a, .bl b => a == b
 | .bl a, .int b => (if a then 1 else 0) == b
 | .int a, .bl b => a == (if b then 1 else 0)
 | .int a, .int b => a == b
 | .str a, .str b => a == b
 | _, _ => false
theorem oR_ {A : Around} {s : Shared} {y x : V} {u v : Value} (ry : RelV y u) (rx : RelV x v) (fy : flatV y = true) (fx : flatV x = true) : SeqAt.EqAt A s u v (eqV y x) := by
 cases y with
 | non =>
  cases ry
  cases x with
  | non => cases rx; exact SeqAt.EqAt.same _
  | bl b => cases rx; exact SeqAt.EqAt.none_bool b
  | int b => obtain ⟨t, rfl⟩ := rx; exact SeqAt.EqAt.none_int b t
  | str b => obtain ⟨t, rfl⟩ := rx; exact SeqAt.EqAt.none_str b t
  | _ => exact absurd (show false = true from fx) Bool.false_ne_true
 | bl a =>
  cases ry
  cases x with
  | non => cases rx; exact SeqAt.EqAt.bool_none a
  | bl b => cases rx; exact SeqAt.EqAt.bool_bool a b
  | int b => obtain ⟨t, rfl⟩ := rx; exact SeqAt.EqAt.bool_int a b t
  | str b => obtain ⟨t, rfl⟩ := rx; exact SeqAt.EqAt.bool_str a b t
  | _ => exact absurd (show false = true from fx) Bool.false_ne_true
 | int a =>
  obtain ⟨t', rfl⟩ := ry
  cases x with
  | non => cases rx; exact SeqAt.EqAt.int_none a t'
  | bl b => cases rx; exact SeqAt.EqAt.int_bool a t' b
  | int b => obtain ⟨t, rfl⟩ := rx; exact SeqAt.EqAt.int_int a t' b t
  | str b => obtain ⟨t, rfl⟩ := rx; exact SeqAt.EqAt.int_str a t' b t
  | _ => exact absurd (show false = true from fx) Bool.false_ne_true
 | str a =>
  obtain ⟨t', rfl⟩ := ry
  cases x with
  | non => cases rx; exact SeqAt.EqAt.str_none a t'
  | bl b => cases rx; exact SeqAt.EqAt.str_bool a t' b
  | int b => obtain ⟨t, rfl⟩ := rx; exact SeqAt.EqAt.str_int a t' b t
  | str b => obtain ⟨t, rfl⟩ := rx; exact SeqAt.EqAt.str_str a t' b t
  | _ => exact absurd (show false = true from fx) Bool.false_ne_true
 | _ => exact absurd (show false = true from fy) Bool.false_ne_true
def eqU (x : V) (u : Value) : Bool := match u with
 | .none => eqV .non x
 | .bool b => eqV (.bl b) x
 | .int i _ => eqV (.int i) x
 | .str z _ => eqV (.str z) x
 | _ => false
theorem nw_ {x y : V} {u : Value} (r : RelV y u) (f : flatV y = true) : eqU x u = eqV y x := by
 cases y with
 | non => cases r; rfl
 | bl b => cases r; rfl
 | int i => obtain ⟨t, rfl⟩ := r; rfl
 | str z => obtain ⟨t, rfl⟩ := r; rfl
 | _ => exact absurd (show false = true from f) Bool.false_ne_true
theorem jy_ {x : V} : ∀ {xs : List V} {us : List Value}, Vals xs us → xs.all flatV = true → us.any (eqU x) = xs.any fun y => eqV y x
 | _, _, .nil, _ => rfl
 | y :: xs, u :: us, .cons r t, f => by
  rw [List.all_cons, Bool.and_eq_true] at f
  rw [List.any_cons, List.any_cons, nw_ r f.1, jy_ t f.2]
theorem hV_ {A : Around} {s : Shared} {x : V} {v : Value} (rx : RelV x v) (fx : flatV x = true) : ∀ {xs : List V} {us : List Value}, Vals xs us → xs.all flatV = true → ∀ u ∈ us, SeqAt.EqAt A s u v (eqU x u)
 | _, _, .nil, _ => fun u hu => by cases hu
 | y :: xs, u :: us, .cons r t, f => fun u' hu => by
  rw [List.all_cons, Bool.and_eq_true] at f
  rcases List.mem_cons.mp hu with rfl | hu
  ·rw [nw_ r f.1]; exact oR_ r rx f.1 fx
  ·exact hV_ rx fx t f.2 u' hu
def inV (x : V) (xs : List V) : Bool := xs.any fun y => eqV y x
def rIn (K : PySem.W.Frag) (neg : Bool) : R2 := fun x y H Q => ∃ p xs, y = .ref p ∧ (SqL K H p xs ∨ SqT K H p xs) ∧ flatV x = true ∧ xs.all flatV = true ∧ Q (.bl (if neg then !inV x xs else inV x xs)) H
theorem lD_ : OpR X (compareOp .In) (rIn X.K false) := by
 intro pins s σ H x y v u Q I rx ry h
 obtain ⟨p, xs, rfl, hq, fx, fs, q⟩ := h
 cases ry
 rcases hq with hq | hq
 ·obtain ⟨its, r, pl, hz⟩ := I.list hq
  refine SeqAt.in_listAt (eqU x) pl.isList (fun w hw => hV_ rx fx r fs w (by simpa using hw)) ⟨.bl _, H, I, rfl, ?_⟩
  rw [show its.toArray.any (eqU x) = its.any (eqU x) by simp, jy_ r fs]
  exact q
 ·obtain ⟨its, r, pl, hz⟩ := I.tuple hq
  refine SeqAt.in_tupleAt (eqU x) pl (fun w hw => hV_ rx fx r fs w (by simpa using hw)) ⟨.bl _, H, I, rfl, ?_⟩
  rw [show its.toArray.any (eqU x) = its.any (eqU x) by simp, jy_ r fs]
  exact q
theorem ea_ : CallR X (.builtin "len") (fun xs H Q => ∃ p ys, xs = [.ref p] ∧ (SqL X.K H p ys ∨ SqT X.K H p ys) ∧ Q (.int ys.length) H) := by
 intro pins s σ H xs us Q I r h
 obtain ⟨p, ys, rfl, hq, q⟩ := h
 obtain ⟨u, rfl, rx⟩ := vals1 r
 cases rx
 have hn := line63
 rcases hq with hq | hq
 ·obtain ⟨its, r', pl, hz⟩ := I.list hq
  have hlen := r'.length
  exact Calls.call_len_list pl.isList (by simp only [List.size_toArray] <;> omega) ⟨.int ys.length, H, I.tok _, ⟨s.toks + 1, by rw [List.size_toArray, hlen]⟩, q⟩
 ·obtain ⟨its, r', pl, hz⟩ := I.tuple hq
  have hlen := r'.length
  exact len_tuple pl (by simp only [List.size_toArray] <;> omega) ⟨.int ys.length, H, I.tok _, ⟨s.toks + 1, by rw [List.size_toArray, hlen]⟩, q⟩
theorem aY_ : CallR X (.builtin "len") (fun xs H Q => ∃ z, xs = [.str z] ∧ z.length ≤ sizeLine ∧ Q (.int z.length) H) := by
 intro pins s σ H xs us Q I r h
 obtain ⟨z, rfl, hz, q⟩ := h
 obtain ⟨u, rfl, t, rfl⟩ := vals1 r
 have hn := line63
 exact len_str (by omega) ⟨.int z.length, H, I.tok _, ⟨_, rfl⟩, q⟩
def tyV (K : PySem.W.Frag) (T : String) (x : V) (H : Hp) : Prop := match x with
 | .str _ => T = "str"
 | .int _ => T = "int"
 | .ref p => (T = "list" ∧ ∃ xs, SqL K H p xs) ∨ (T = "tuple" ∧ ∃ o, K.lookup p = some o ∧ o.cls = .type "tuple" ∧ o.dict = none) ∨
   (T = "dict" ∧ ((∃ kvs, H p = some (.dK kvs)) ∨ ∃ kvs, H p = some (.dT kvs))) ∨ (T = "set" ∧ ∃ S n, H p = some (.set S n))
 | _ => False
theorem nx_ {pins : List (Addr × Obj)} {σ : St} {H : Hp} {s : Shared} {T : String} {x : V} {v : Value} (I : Inv X pins σ H s) (r : RelV x v) (ty : tyV X.K T x H) :
  s.TypeIs v T ∧ ∀ a, v = .ref a → ∃ ob, s.heap.get? a = some ob ∧ ob.dict = none := by
 cases x with
 | str z =>
  obtain ⟨t, rfl⟩ := r
  cases (show T = "str" from ty)
  exact ⟨typeIs_str s z t, fun _ e => nomatch e⟩
 | int i =>
  obtain ⟨t, rfl⟩ := r
  cases (show T = "int" from ty)
  exact ⟨typeIs_int s i t, fun _ e => nomatch e⟩
 | ref p =>
  cases r
  rcases ty with ⟨rfl, xs, hq⟩ | ⟨rfl, o, hk, hc, hd⟩ | ⟨rfl, hk⟩ | ⟨rfl, S, n, hk⟩
  ·obtain ⟨its, _, pl, _⟩ := I.list hq
   refine ⟨pl.isList.typeIs, fun a e => ?_⟩
   cases e
   obtain ⟨o, n, e, c, hd, _⟩ := pl
   exact ⟨o, e, hd⟩
  ·refine ⟨⟨o, I.kIn p o hk, hc⟩, fun a e => ?_⟩
   cases e
   exact ⟨o, I.kIn _ o hk, hd⟩
  ·have z : ∃ o, s.heap.get? p = some o ∧ o.ExactDict := by
    rcases hk with ⟨kvs, hk⟩ | ⟨kvs, hk⟩
    ·obtain ⟨_, _, _, _, o, _, _, e, ex, _⟩ := I.hok p _ hk
     exact ⟨o, e, ex⟩
    ·obtain ⟨_, _, _, _, o, _, _, e, ex, _⟩ := I.hok p _ hk
     exact ⟨o, e, ex⟩
   obtain ⟨o, e, ex⟩ := z
   refine ⟨⟨o, e, ex.1⟩, fun a e2 => ?_⟩
   cases e2
   exact ⟨o, e, ex.2.1⟩
  ·obtain ⟨o, _, _, _, e, ex, _⟩ := I.hok p _ hk
   refine ⟨⟨o, e, ex.1⟩, fun a e2 => ?_⟩
   cases e2
   exact ⟨o, e, ex.2.1⟩
 | _ => exact False.elim ty
def tBM0 (K : PySem.W.Frag) (T : String) (r : V → List V → Hp → VK → Prop) (to : TE) : TE := fun σ H Q => to σ H fun x H1 => tyV K T x H1 ∧ r x [] H1 Q
def tBM (K : PySem.W.Frag) (T : String) (r : V → List V → Hp → VK → Prop) (to : TE) (t : TA) : TE := fun σ H Q => to σ H fun x H1 => tyV K T x H1 ∧ t σ H1 fun xs H2 => r x xs H2 Q
variable {o e : Expr} {es : List Expr} {to : TE} {t : TA} {name : Str} {apos cpos : Pos} {T id : String} {r : V → List V → Hp → VK → Prop}
theorem oS_ (pa : PlainAttrs T) (slot : Slot T name id) (hty : typeOf (.builtin id) = pure (.type "method_descriptor")) (hm : MtR X id r) (ho : PE X o to)
  (hbase : attributeBase o name X.env (eval o X.env) = eval o X.env := by rfl) (hline : (apos.endLine == cpos.line) = true := by rfl) : PE X (.Call (.Attribute o name apos) [] [] cpos) (tBM0 X.K T r to) := by
 intro pins s σ H Q I h
 refine wpAny_Call_method0_late hbase hline (thn (ho pins s σ H _ I h) fun v s1 ⟨x, H1, I1, r1, ty, q1⟩ => ?_)
 obtain ⟨h1, h2⟩ := nx_ I1 r1 ty
 exact ⟨T, id, pa, slot, hty, h1, h2, Calls.callWith_builtin rfl (PySem.evalArgs_none (hm pins s1 σ H1 x [] v [] Q I1 r1 .nil q1))⟩
theorem pe_bm (pa : PlainAttrs T) (slot : Slot T name id) (hty : typeOf (.builtin id) = pure (.type "method_descriptor")) (hm : MtR X id r) (ho : PE X o to) (ha : PA X (e :: es) t)
  (hbase : attributeBase o name X.env (eval o X.env) = eval o X.env := by rfl)
  (hfew : ((backTo cpos (starEach (e :: es) X.env)).all (fun x => !x.1) && (backToKw cpos (keywordEach [] X.env)).all (fun x => x.1.isSome)
   && decide ((e :: es).length + ([] : List Keyword).length + (if ([] : List Keyword).isEmpty then 0 else 1) < 30)) = true := by rfl)
  (hline : (apos.endLine == cpos.line) = true := by rfl) (hs : starEach (e :: es) X.env = (false, eval e X.env) :: starEach es X.env := by rfl) (hplain : (backTo cpos (starEach es X.env)).any (·.1) = false := by rfl) :
  PE X (.Call (.Attribute o name apos) (e :: es) [] cpos) (tBM X.K T r to t) := by
 intro pins s σ H Q I h
 refine wpAny_Call_method_late hbase hfew hline rfl (thn (ho pins s σ H _ I h) fun v s1 ⟨x, H1, I1, r1, ty, q1⟩ => ?_)
 obtain ⟨h1, h2⟩ := nx_ I1 r1 ty
 refine ⟨T, id, pa, slot, hty, h1, h2, ?_⟩
 have hA := ha cpos pins s1 σ H1 _ I1 q1
 rw [hs] at hA ⊢
 refine Calls.callWith_builtin (by show (false || (backTo cpos (starEach es X.env)).any (·.1)) = false; rw [hplain] <;> rfl) (Calls.evalArgs_plain ?_)
 exact thn hA fun us s2 ⟨vs, H2, I2, r2, q2⟩ => hm pins s2 σ H2 x vs v us Q I2 r1 r2 q2
end
end L2
namespace L2
open PySem PySem.Spec PyProof.Rows
def MtM (X : Cx) (id : String) (r : V → List V → Hp → VK → Prop) : Prop :=
 ∀ (pins : List (Addr × Obj)) (s : Shared) (σ : St) (H : Hp) (x : V) (xs : List V) (v : Value) (us : List Value) (Q : VK), Inv X pins σ H s → RelV x v → Vals xs us → r x xs H Q →
  wpAny (model X.prog X.w) X.A (call (.builtin id) (v :: us)) (EP X pins σ Q) X.xe s
theorem Vals.one : ∀ {x : V} {us : List Value}, Vals [x] us → ∃ u, us = [u] ∧ RelV x u
 | _, _, .cons r .nil => ⟨_, rfl, r⟩
theorem Vals.two : ∀ {x y : V} {us : List Value}, Vals [x, y] us → ∃ u v, us = [u, v] ∧ RelV x u ∧ RelV y v
 | _, _, _, .cons r (.cons q .nil) => ⟨_, _, rfl, r, q⟩
theorem Vals.zero : ∀ {us : List Value}, Vals [] us → us = []
 | _, .nil => rfl
theorem Vals.dropLast {xs : List V} {us : List Value} (h : Vals xs us) : Vals xs.dropLast us.dropLast := by
 induction h with
 | nil => exact .nil
 | cons r t ih =>
  cases t with
  | nil => exact .nil
  | cons q t' => exact .cons r ih
theorem Vals.eraseIdx : ∀ {xs : List V} {us : List Value} (i : Nat), Vals xs us → Vals (xs.eraseIdx i) (us.eraseIdx i)
 | _, _, _, .nil => .nil
 | _, _, 0, .cons _ t => t
 | _, _, i + 1, .cons r t => .cons r (Vals.eraseIdx i t)
theorem Vals.reverse {xs : List V} {us : List Value} (h : Vals xs us) : Vals xs.reverse us.reverse := by
 induction h with
 | nil => exact .nil
 | cons r t ih => rw [List.reverse_cons, List.reverse_cons]; exact Vals.append ih (.cons r .nil)
theorem Vals.rep {xs : List V} {us : List Value} (h : Vals xs us) : ∀ k : Nat, Vals (List.replicate k xs).flatten (List.replicate k us).flatten
 | 0 => .nil
 | k + 1 => by
  rw [List.replicate_succ, List.replicate_succ, List.flatten_cons, List.flatten_cons]
  exact Vals.append h (Vals.rep h k)
theorem iL_ {α : Type} : ∀ (l : List α) (i : Nat), (l.eraseIdx i).length ≤ l.length
 | [], _ => Nat.le_refl _
 | _ :: _, 0 => Nat.le_succ _
 | _ :: r, i + 1 => Nat.succ_le_succ (iL_ r i)
section
variable {X : Cx} {pins : List (Addr × Obj)} {σ : St} {H : Hp} {s : Shared} {l b : Addr} {xs ys zs : List V}
theorem Inv.lset {its its' : List Value} {n : Nat} {f : Array Value → Array Value} {t' : Nat} (I : Inv X pins σ H s) (hH : H l = some (.lst xs))
  (e : s.heap.get? l = some { cls := .type "list", data := .seq its.toArray n }) (hf : f its.toArray = its'.toArray) (hv : Vals ys its') (hz : ys.length ≤ sizeLine) :
  Inv X pins σ (upd H l (.lst ys)) { s with heap := s.heap.update l (Obj.mapSeq f), toks := t' } := by
 have q := PySem.IsL.update e f
 rw [hf] at q
 refine I.write (x := l) (e := l) (by rw [hH]; exact trivial) (.inl rfl) (fun b' u hb hu => (Heap.get?_update_other s.heap (Obj.mapSeq f) (Ne.symm hb)).trans hu) ⟨_, q⟩ ?_
 exact ⟨hz, its', _, hv, q⟩
theorem Inv.lnew {its : List Value} {t' : Nat} (I : Inv X pins σ H s) (hv : Vals ys its) (hz : ys.length ≤ sizeLine) :
  Inv X pins σ (upd H s.heap.objs.size (.lst ys)) { s with heap := s.heap.push { cls := .type "list", data := .seq its.toArray }, toks := t' } :=
 I.laid (fun _ _ q => Heap.get?_push_of_some _ q) (Nat.le_refl _) ⟨hz, its, 0, hv, Heap.get?_push_size _ rfl⟩
theorem Inv.fresh (I : Inv X pins σ H s) : H s.heap.objs.size = none := I.hok.fresh (Nat.le_refl _)
theorem Inv.lstM (I : Inv X pins σ H s) (hH : H l = some (.lst xs)) : xs.length ≤ sizeLine ∧ ∃ (its : List Value) (n : Nat), Vals xs its ∧ xs.length = its.length ∧ s.heap.get? l = some { cls := .type "list", data := .seq its.toArray n } := by
 obtain ⟨z, its, n, r, e⟩ := I.hok l _ hH
 exact ⟨z, its, n, r, r.length, e⟩
theorem notLongL {n : Nat} (h : n ≤ sizeLine) : Builtin.List.listTooLong n = false := by
 unfold Builtin.List.listTooLong
 exact decide_eq_false (by omega)
end
section
variable {X : Cx}
def rAppend : V → List V → Hp → VK → Prop := fun x vs H Q => ∃ l xs y, x = .ref l ∧ vs = [y] ∧ H l = some (.lst xs) ∧ xs.length < sizeLine ∧ Q .non (upd H l (.lst (xs ++ [y])))
theorem bi_ : MtM X "list.append" rAppend := by
 intro pins s σ H x vs v us Q I rx rv h
 obtain ⟨l, xs, y, rfl, rfl, hH, hz, q⟩ := h
 cases rx
 obtain ⟨u, rfl, ru⟩ := rv.one
 obtain ⟨z, its, n, r, hl, e⟩ := I.lstM hH
 refine call_meets F.slot_list_append ⟨_, e, rfl⟩ F.entry_list_append (F.args_list_append_2 _ _) (PySem.list_append l its.toArray n u (by rw [List.size_toArray]; omega)) ⟨e, ?_⟩
 refine ⟨.non, _, I.lset (its' := its ++ [u]) hH e (by simp) (r.append (.cons ru .nil)) ?_, rfl, q⟩
 rw [List.length_append, List.length_singleton]
 omega
def rExtend : V → List V → Hp → VK → Prop := fun x vs H Q => ∃ l b xs zs, x = .ref l ∧ vs = [.ref b] ∧ H l = some (.lst xs) ∧ H b = some (.lst zs) ∧ xs.length + zs.length ≤ sizeLine ∧ Q .non (upd H l (.lst (xs ++ zs)))
theorem iM_ : MtM X "list.extend" rExtend := by
 intro pins s σ H x vs v us Q I rx rv h
 obtain ⟨l, b, xs, zs, rfl, rfl, hH, hB, hz, q⟩ := h
 cases rx
 obtain ⟨u, rfl, ru⟩ := rv.one
 cases ru
 obtain ⟨z, its, n, r, hl, e⟩ := I.lstM hH
 obtain ⟨z2, its2, n2, r2, hl2, e2⟩ := I.lstM hB
 have hsz : its.toArray.size + its2.toArray.size ≤ sizeLine := by rw [List.size_toArray, List.size_toArray]; omega
 have hlong : ¬ (!its.toArray.isEmpty && Builtin.List.listTooLong (its.toArray.size + its2.toArray.size)) = true := by
  rw [notLongL hsz, Bool.and_false]
  exact Bool.false_ne_true
 refine call_meets F.slot_list_extend ⟨_, e, rfl⟩ F.entry_list_extend (F.args_list_extend_2 _ _)
  (AutoSeq1.list_extend_list_list_0 l its.toArray n b its2.toArray n2 hlong (by rw [List.size_toArray]; omega) (by omega)) ⟨e, e2, ?_⟩
 refine ⟨.non, _, I.lset (its' := its ++ its2) hH e (by simp) (r.append r2) ?_, rfl, q⟩
 rw [List.length_append]
 omega
def rPop : V → List V → Hp → VK → Prop := fun x vs H Q => ∃ l xs y, x = .ref l ∧ vs = [] ∧ H l = some (.lst xs) ∧ xs[xs.length - 1]? = some y ∧ Q y (upd H l (.lst xs.dropLast))
def rPopAt : V → List V → Hp → VK → Prop := fun x vs H Q => ∃ l xs i k y, x = .ref l ∧ vs = [.int i] ∧ H l = some (.lst xs) ∧ -(2 ^ 63) ≤ i ∧ i < 2 ^ 63 ∧ seqIndex? i xs.length = some k ∧ xs[k]? = some y ∧ Q y (upd H l (.lst (xs.eraseIdx k)))
theorem km_ : MtM X "list.pop" rPopAt := by
 intro pins s σ H x vs v us Q I rx rv h
 obtain ⟨l, xs, i, k, y, rfl, rfl, hH, h1, h2, hk, hy, q⟩ := h
 cases rx
 obtain ⟨u, rfl, ru⟩ := rv.one
 obtain ⟨t, rfl⟩ := ru
 obtain ⟨z, its, n, r, hl, e⟩ := I.lstM hH
 obtain ⟨w, hw, rw'⟩ := r.get hy
 refine call_meets F.slot_list_pop ⟨_, e, rfl⟩ F.entry_list_pop (F.args_list_pop_2 _ _)
  (MeetsSeq.list_pop_at l its.toArray n i t k w (fitsIndex_both h1 h2) (by rw [List.size_toArray, ← hl]; exact hk) (by rw [← Array.getElem?_toList]; exact hw) (by rw [List.size_toArray]; omega)) ⟨e, ?_⟩
 refine ⟨y, _, I.lset (its' := its.eraseIdx k) hH e ?_ (r.eraseIdx k) ?_, rw', q⟩
 ·show its.toArray.eraseIdxIfInBounds k = (its.eraseIdx k).toArray
  rw [List.eraseIdxIfInBounds_toArray]
 ·have := iL_ xs k
  omega
def rReverse : V → List V → Hp → VK → Prop := fun x vs H Q => ∃ l xs, x = .ref l ∧ vs = [] ∧ H l = some (.lst xs) ∧ Q .non (upd H l (.lst xs.reverse))
def rClear : V → List V → Hp → VK → Prop := fun x vs H Q => ∃ l xs, x = .ref l ∧ vs = [] ∧ H l = some (.lst xs) ∧ Q .non (upd H l (.lst []))
def rCat : R2 := fun x y H Q => ∃ l b xs zs, x = .ref l ∧ y = .ref b ∧ H l = some (.lst xs) ∧ H b = some (.lst zs) ∧ xs.length + zs.length ≤ sizeLine ∧ ∀ p, H p = none → Q (.ref p) (upd H p (.lst (xs ++ zs)))
theorem gK_ : OpR X (binaryOp .Add) rCat := by
 intro pins s σ H x y v u Q I rx ry h
 obtain ⟨l, b, xs, zs, rfl, rfl, hH, hB, hz, q⟩ := h
 cases rx
 cases ry
 obtain ⟨z, its, n, r, hl, e⟩ := I.lstM hH
 obtain ⟨z2, its2, n2, r2, hl2, e2⟩ := I.lstM hB
 refine PySem.P.add_list e e2 ?_ (by rw [List.size_toArray, List.size_toArray]; omega)
 have ea : its.toArray ++ its2.toArray = (its ++ its2).toArray := by simp
 rw [ea]
 exact ⟨.ref _, _, I.lnew (t' := s.toks) (r.append r2) (by rw [List.length_append]; omega), rfl, q _ I.fresh⟩
end
section
variable {prog : Program} {w : World} {A : Around} {E : Value → Shared → Prop} {s : Shared}
theorem kU_ {a c n : Nat} (hac : a ≤ c) (hc : c ≤ n) : sliceBounds (some (a : Int)) (some (c : Int)) none n = ((a : Int), (c : Int), 1) := by
 simp only [sliceBounds, Option.getD_none]
 have h1 : ¬ ((a : Int) < 0) := by omega
 have h2 : ¬ ((c : Int) < 0) := by omega
 simp only [h1, h2, if_false, show (1 : Int) > 0 by decide, if_true]
 congr 1
 ·omega
 ·congr 1; omega
set_option maxRecDepth 100000 in
theorem mQ_ {l b sl : Addr} {items new : Array Value} {n n2 : Nat} {vl vu : Value} {a c : Nat} {Q : Unit → Shared → Prop}
    (e : s.heap.get? l = some { cls := .type "list", data := .seq items n }) (e2 : s.heap.get? b = some { cls := .type "list", data := .seq new n2 }) (hne : l ≠ b)
    (hs : s.heap.IsSliceOf sl vl vu .none) (pl : IsPart vl (some (a : Int))) (pu : IsPart vu (some (c : Int))) (hac : a ≤ c) (hc : c ≤ items.size)
    (hsz : items.size + new.size ≤ sizeLine) (h : Q () { s with heap := s.heap.update l (Obj.mapSeq fun xs => xs.extract 0 a ++ new ++ xs.extract c xs.size) }) :
    wpAny (model prog w) A (setItem (.ref l) (.ref sl) (.ref b)) Q E s := by
  have hl : s.heap.IsList l items := PySem.IsL.isList e
  have hb : s.heap.IsList b new := PySem.IsL.isList e2
  obtain ⟨os, hos, hcs, hds⟩ := id hs
  have hTs : s.TypeIs (.ref sl) "slice" := ⟨os, hos, hcs⟩
  have hstep : ¬ ((rawPart none == rawInt 0) = true) := Bool.false_ne_true
  have hsame : Builtin.List.listSameRef (.ref l) (.ref b) = false := by
    unfold Builtin.List.listSameRef
    exact beq_eq_false_iff_ne.mpr hne
  have hmax : (max (a : Int) (c : Int)).toNat = c := by omega
  have hz' : ((fun xs : Array Value => xs.extract 0 a ++ new ++ xs.extract c xs.size) items).size ≤ sizeLine + 1 := by
    simp only [Array.size_append, Array.size_extract]
    omega
  unfold setItem
  try with_reducible refine wpAny_holding ?_
  first | refine wpAny_bind (wpAny_pure ?_) | skip
  refine wpAny_bind (wpAny_sequenceKey hl.typeIs (by decide) ?_)
  refine wpAny_bind (wpAny_callSpecial?_slot (name := Str.ofString "__setitem__") hl.typeIs slot_list_setitem
    (wpAny_call_entry slot_list_setitem hl.typeIs entry_list_setitem ?_ (args_list_setitem _ _ _)))
  show wpAny _ _ (Builtin.List.listSubscript? (.ref sl) >>= _) _ _ s
  refine wpAny_bind ?_
  unfold Builtin.List.listSubscript?
  refine wpAny_bind (wpAny_specialOf hTs slice_no_index ?_)
  simp only [Option.isNone_none, if_true]
  refine wpAny_pure ?_
  show wpAny _ _ (typeOf (.ref sl) >>= _) _ _ s
  refine wpAny_bind (wpAny_typeOf hTs ?_)
  first
    | rw [if_neg (by decide)]
    | refine PySem.W.KFB.if_not (by decide) ?_
  rw [listSliceParts_eq]
  refine wpAny_bind (wpAny_bind (wpAny_field hos hds (x := .none) rfl (wpAny_bind (wpAny_listPart .none ?_))))
  rw [if_neg hstep]
  refine wpAny_bind (wpAny_field hos hds (x := vl) rfl (wpAny_bind (wpAny_listPart pl ?_)))
  refine wpAny_bind (wpAny_field hos hds (x := vu) rfl (wpAny_bind (wpAny_listPart pu (wpAny_pure ?_))))
  first
    | simp only [hsame, Bool.false_eq_true, if_false]
    | refine PySem.W.KFB.if_not hsame ?_
    | (dsimp only
       rw [if_neg (by rw [hsame]; exact Bool.false_ne_true)])
  refine wpAny_bind (m := Builtin.List.listAllItems (.ref b) "must assign iterable to extended slice") ?_
  unfold Builtin.List.listAllItems
  refine wpAny_bind (wpAny_typeOf hb.typeIs ?_)
  first
    | refine PySem.W.KFB.if_so (by decide) ?_
    | rw [if_pos (by decide)]
    | simp only [beq_self_eq_true, Bool.true_or, if_true]
  unfold Builtin.List.listItems
  refine wpAny_bind (wpAny_seqItems e2 rfl (wpAny_pure ?_))
  refine wpAny_bind (wpAny_bind (wpAny_seqItems e rfl (wpAny_pure ?_)))
  refine wpAny_bind (wpAny_of_eq ((sliceIndices_raw (some (a : Int)) (some (c : Int)) none items.size (by simp)).trans (congrArg (pure : Int × Int × Int → Sem (Int × Int × Int)) (kU_ hac hc))) ?_)
  show wpAny _ _ (if ((1 : Int) == 1) = true then _ else _) _ _ s
  rw [if_pos (by decide)]
  refine wpAny_bind (wpAny_rule ?_)
  first
    | simp only [notLongL hsz, Bool.false_eq_true, if_false]
    | refine PySem.W.KFB.if_not (notLongL hsz) ?_
  first | refine wpAny_bind (wpAny_pure ?_) | skip
  show wpAny _ _ (updateSeq l (fun xs => xs.extract 0 ((a : Int)).toNat ++ new ++ xs.extract (max (a : Int) (c : Int)).toNat xs.size) >>= _) _ _ s
  rw [hmax, Int.toNat_natCast]
  refine wpAny_bind (wpAny_updateSeq (hz := Nat.le_trans (Nat.le_add_right _ _) hsz) (_hz' := hz') e rfl ?_)
  refine wpAny_bind (wpAny_letGo ?_)
  first
    | exact wpAny_bind (wpAny_pure (wpAny_pure ⟨.none, rfl, wpAny_pure h⟩))
    | exact wpAny_pure ⟨.none, rfl, wpAny_pure h⟩
end
section
variable {X : Cx}
end
end L2
namespace Att
open PySem PySem.W PySem.Calls PyProof.Rows
theorem gL_ {P : Params} {h : Heap} : ∀ (ns : List Int) (vs : List Value), WellAll P h vs (ns.map WData.int) → IntsAre vs ns := by
 intro ns
 induction ns with
 | nil =>
  intro vs w
  rw [List.map_nil] at w
  cases w
  exact .nil
 | cons n ns ih =>
  intro vs w
  rw [List.map_cons] at w
  cases w with
  | cons a b =>
   cases a
   exact .cons _ _ (ih _ b)
theorem lE_ {l : OpenLaw} {n : Nat} (hn : l.most = some n) {P : Params} {h : Heap} {args : List WData} {vals : List Value}
  (hpre : l.row.toRowW.claim.pre args = true) (hwl : WellAll P h vals args) :
  ∃ a vs ns, vals = [Value.ref a] ∧ args = [WData.list (ns.map WData.int)] ∧ h.get? a = some { cls := .type "list", data := .seq vs.toArray } ∧ IntsAre vs ns ∧ ns.length ≤ n := by
 have hsh : WShape.hasAll [] args [.list .int] = true := (pre_splitW hpre).1
 have hc : l.pre.holds [] { args := args } = true := (pre_splitW hpre).2
 obtain ⟨d, r, rfl, h1, h2⟩ := hasAllW_cons hsh
 obtain rfl := hasAllW_nil h2
 obtain ⟨xs, rfl, h3⟩ := hasW_list h1
 obtain ⟨ns, rfl⟩ := items_int h3
 have hlen : ns.length ≤ n := by
  unfold OpenLaw.pre at hc
  have h4 : (WTm.not (.lt (.lit (.int (n : Int))) (.len (.arg 0)))).holds [] { args := [.list (ns.map .int)] } = true := by
   have h4 := (holds_andW hc).1
   rw [hn] at h4
   exact h4
  have h5 := condW_of h4 (w_not (w_lt w_lit (w_len_list (w_arg rfl))))
  rw [List.length_map] at h5
  refine Nat.le_of_not_lt fun q => ?_
  have q' : (n : Int) < ((ns.length : Nat) : Int) := by omega
  first
   | (rw [decide_eq_true q'] at h5; exact absurd h5 (by decide))
   | (simp at h5; omega)
 cases hwl with
 | cons w1 w2 =>
  cases w2
  cases w1 with
  | list ho hall => exact ⟨_, _, ns, rfl, rfl, ho, gL_ ns _ hall, hlen⟩
theorem lF_ (l : OpenLaw) (args : List WData) : l.row.toRowW.claim.post args (.bool true) args = true :=
 postW_of (r := l.row.toRowW) (X := (true == true))
  (show WShape.has [] (.bool true) .bool = true by first | rfl | decide | simp [WShape.has, WShape.arms, WShape.armsAll])
  (show (WTm.eq .res (.lit (.bool true))).value [] { args := args, res := some (.bool true), after := args } = some (.bool (true == true)) from w_eq_bool (w_res rfl) w_lit) rfl
theorem attach_call {l : OpenLaw} {n : Nat} {q : Program} {loose : List Str} {XP : (Str → Option Value) → Heap → Prop} {YP : World → Heap → Prop} {d : DefRec}
  (hn : l.most = some n) (hdf : d.params.defaults = [])
  (call : ∀ (w : World) (s₀ s₁ : Shared) (mg mb : Str → Option Value) (fa : Addr) (o : Obj) (pm cd doc : Value) (a : Addr) (vs : List Value) (ns : List Int),
   Ground q loose [] XP w s₀ mg mb s₁.heap → YP w s₁.heap →
   s₁.heap.get? fa = some o → o.data = .func (docDef d.name d.params d.body d.scope pm cd doc) → s₁.heap.CodeRec cd d.name → mg d.name = some (.ref fa) →
   s₁.heap.get? a = some { cls := .type "list", data := .seq vs.toArray } → IntsAre vs ns → ns.length ≤ n → s₁.gens = #[] →
   codeAny (model l.prog w) callerA (.call (.ref fa) ⟨[.ref a], []⟩) (fun r s' => r = .ok (.ret (.bool true)) ∧ OldK s₁.heap s'.heap ∧ s'.os = s₁.os ∧ AllBare s'.gens) s₁) :
  WalkO q loose XP YP l.row.toRowW d [] (fun f vs => PySem.call f vs) := by
 intro w s₀ s₁ mg mb G Y fa o pm cd doc dV kV ho hd hcd hD hmg hg args vals as hpre hlay hrd hwl hlo
 obtain rfl : dV = .none := Dflts.none hD hdf
 obtain rfl : kV = .none := Dflts.noKw hD
 obtain ⟨a, vs, ns, rfl, rfl, hobj, hints, hlen⟩ := lE_ hn hpre hwl
 refine enter_call (codeAny_mono (call w s₀ s₁ mg mb fa o pm cd doc a vs ns G Y ho (fd_plain hd) hcd hmg hobj hints hlen hg) fun r s' hq => ?_)
 obtain ⟨rfl, h2, h3, h4⟩ := hq
 exact ⟨.inl ⟨.bool true, .bool true, [], rfl, fun _ => rfl, .bool true, lF_ l _, fun _ => ⟨List.Pairwise.nil, fun _ hm => (nomatch hm)⟩⟩, h2, h3, h4⟩
section
variable {prog : Program} {w : World} {A : Around} {E : Value → Shared → Prop} {s : Shared} {K : Frag}
end
end Att
namespace L2
open PySem PySem.Spec PyProof.Rows
theorem iN_ : ∀ {vs : List Value} {ns : List Int}, IntsAre vs ns → Vals (ns.map V.int) vs
 | _, _, .nil => .nil
 | _, _, .cons n t h => .cons ⟨t, rfl⟩ (iN_ h)
def Only (H : Hp) : Prop := ∀ b, H b = none ∨ ∃ o xs, H b = some (.frz o (.lst xs))
theorem mR_ {P : Program} {w : World} {K : PySem.W.Frag} {mg mb : Str → Option Value} {CX : CXT} {k : Nat} {fa a : Addr} {fd : FuncData} {x : Str} {sp : Sp} {s₁ : Shared} {vs : List Value} {ns : List Int}
  (KX : K.In s₁.heap) (hns : s₁.heap.Ns mainGlobals mg) (hb : s₁.heap.Ns builtinsNs mb) (hbb : ∀ x : Str, x ≠ "__name__" → mb x = bootBuiltins x) (hlim : s₁.heap.NoLimit) (hg : s₁.gens = #[])
  (ha : s₁.heap.get? a = some { cls := .type "list", data := .seq vs.toArray }) (hi : IntsAre vs ns) (hl : ns.length ≤ sizeLine) (hr : Room k callerA)
  (F : ∀ base : Heap, K.In base → base.Ns mainGlobals mg → FnOk P w K mg base CX k fa fd [x] sp) (hbind : ∀ (s : Shared) (u : Value), BindsTo s fd ⟨[u], []⟩ [(x, u)])
  (hsp : ∀ H : Hp, Only H → SqL K H a (ns.map V.int) → sp [.ref a] H (fun v _ => v = .bl true) fun _ _ _ => False)
  (hCX : ∀ H e s', CX [] H s₁ (fun _ _ _ => False) e s' → False) :
  codeAny (model P w) callerA (.call (.ref fa) ⟨[.ref a], []⟩) (fun r s' => r = .ok (.ret (.bool true)) ∧ OldK s₁.heap s'.heap ∧ s'.os = s₁.os ∧ AllBare s'.gens) s₁ := by
 have rv := iN_ hi
 have lenV := hi.length
 -- from an abstract heap in which nothing but the script may be tracked
 have core : ∀ H : Hp, Only H → SqL K H a (ns.map V.int) → HOk P w H s₁.heap → (∀ b, H b ≠ none → b = a) → (H a ≠ none → K.lookup a = none) →
   codeAny (model P w) callerA (.call (.ref fa) ⟨[.ref a], []⟩) (fun r s' => r = .ok (.ret (.bool true)) ∧ OldK s₁.heap s'.heap ∧ s'.os = s₁.os ∧ AllBare s'.gens) s₁ := by
  intro H hO hS hok hA hK
  have base_of : ∀ {b : Addr} {o : Obj}, s₁.heap.get? b = some o → H b = none → (hidT s₁.heap H).get? b = some o := fun e n => mL_ e n
  have noA : ∀ {b : Addr} {o : Obj} {es : Array DictEntry} {ep : Nat}, s₁.heap.get? b = some o → o.data = .dict es ep → H b = none := fun {b o es ep} e d => by
   cases q : H b with
   | none => rfl
   | some u =>
    have e' : b = a := hA b (by rw [q]; simp)
    subst e'
    rw [ha] at e; cases e
    have d' : Data.seq vs.toArray _ = Data.dict es ep := d
    cases d'
  have nsK : ∀ {b : Addr} {m : Str → Option Value}, s₁.heap.Ns b m → (hidT s₁.heap H).Ns b m := fun {b m} ⟨o, es, ep, e, d, r⟩ => ⟨o, es, ep, base_of e (noA e d), d, r⟩
  have hKb : K.In (hidT s₁.heap H) := fun b o e => base_of (KX b o e) (by
   cases q : H b with
   | none => rfl
   | some u =>
    have e' : b = a := hA b (by rw [q]; simp)
    subst e'
    rw [hK (by rw [q]; simp)] at e; cases e)
  have hM : Mod K mg (hidT s₁.heap H) := ⟨hKb, nsK hns, ⟨mb, nsK hb, hbb⟩, let ⟨mc, h1, h2⟩ := hlim; ⟨mc, nsK h1, h2⟩⟩
  have e0 : Env0 P w K mg (hidT s₁.heap H) callerA [] s₁ H := ⟨rfl, hM, fun b o e => nZ_ e, Nat.le_of_eq (ln_ _ _), trivial, fun b hb => absurd (show b ∈ ([] : List Addr) from hb) (by simp), hok, .of_eq hg⟩
  refine codeAny_mono ((F _ hKb (nsK hns)).run callerA [] s₁ H ⟨[.ref a], []⟩ [.ref a] [.ref a] _ _ hr e0 (hbind s₁ (.ref a)) (.cons rfl .nil) (hsp H hO hS)) fun r s' h => ?_
  cases r with
  | error e => exact (hCX H e s' h).elim
  | ok fl =>
   cases fl with
   | next => exact False.elim h
   | brk => exact False.elim h
   | cont => exact False.elim h
   | ret u =>
    obtain ⟨v, H', os, bare, un, hok', r', q⟩ := h
    have q' : v = .bl true := q
    subst q'
    obtain rfl : u = Value.bool true := r'
    refine ⟨rfl, OldK.of_keep fun b o e => ?_, os, bare⟩
    cases q : H b with
    | none => exact un.keep b o e q (by intro z; exact absurd (show b ∈ ([] : List Addr) from z) (by simp)) (by simp)
    | some u =>
     rcases hO b with z | ⟨ob, xs, z⟩
     ·rw [q] at z; cases z
     ·have z2 := un.frzs b ob _ z
      obtain ⟨e1, _⟩ := hok b _ z
      obtain ⟨e2, _⟩ := hok' b _ z2
      rw [e] at e1; cases e1
      exact e2
 cases hk : K.lookup a with
 | some o =>
  -- the script is one of the module's own objects
  have e := KX a o hk
  rw [ha] at e
  cases e
  refine core (fun _ => none) (fun _ => .inl rfl) (.inr ⟨_, vs.toArray, _, hk, rfl, rfl, rfl, by rw [List.size_toArray, lenV]; exact hl, by simpa using rv⟩) (fun b u z => by have z' : (none : Option HO) = some u := z; cases z') (fun b z => absurd rfl z) fun z => absurd rfl z
 | none =>
  refine core (fun b => if b = a then some (.frz { cls := .type "list", data := .seq vs.toArray } (.lst (ns.map V.int))) else none) (fun b => ?_) (.inl (.inr ⟨{ cls := .type "list", data := .seq vs.toArray }, if_pos rfl⟩)) (fun b u z => ?_) (fun b z => ?_) fun _ => hk
  ·by_cases hb : b = a
   ·exact .inr ⟨_, _, if_pos hb⟩
   ·exact .inl (if_neg hb)
  ·by_cases hb : b = a
   ·have z' := (if_pos hb).symm.trans z
    cases z'
    subst hb
    exact ⟨ha, by rw [List.length_map]; exact hl, vs, _, rv, ha⟩
   ·have z' := (if_neg hb).symm.trans z
    cases z'
  ·by_cases hb : b = a
   ·exact hb
   ·exact absurd (if_neg hb) z
end L2
namespace L2
open PySem PySem.Spec PyProof.Rows
theorem n6_ {l : PySem.W.OpenLaw} {n k : Nat} {q : Program} {loose : List Str} {XP : (Str → Option Value) → Heap → Prop} {YP : World → Heap → Prop} {d : DefRec} {K : Params → PySem.W.Frag} {CX : World → CXT} {sp : World → Sp} {x : Str}
  (hn : l.most = some n) (hn2 : n ≤ sizeLine) (hdf : d.params.defaults = []) (hr : Room k callerA)
  (hY : ∀ (w : World) (h : Heap), YP w h → (K w.params).In h)
  (F : ∀ (w : World) (mg : Str → Option Value) (fa : Addr) (h : Heap), (K w.params).In h → h.Ns mainGlobals mg → mg d.name = some (.ref fa) →
   ∃ fd : FuncData, (∀ (s : Shared) (u : Value), BindsTo s fd ⟨[u], []⟩ [(x, u)]) ∧
    ∀ base : Heap, (K w.params).In base → base.Ns mainGlobals mg → FnOk l.prog w (K w.params) mg base (CX w) k fa fd [x] (sp w))
  (hsp : ∀ (w : World) (H : Hp) (a : Addr) (ns : List Int), ns.length ≤ n → Only H → SqL (K w.params) H a (ns.map V.int) → sp w [.ref a] H (fun v _ => v = .bl true) fun _ _ _ => False)
  (hCX : ∀ (w : World) (H : Hp) (s : Shared) (e : Value) (s' : Shared), CX w [] H s (fun _ _ _ => False) e s' → False) :
  PySem.W.WalkO q loose XP YP l.row.toRowW d [] (fun f vs => PySem.call f vs) := by
 refine Att.attach_call hn hdf fun w s₀ s₁ mg mb fa o pm cd doc a vs ns G Y ho hd hcd hmg hobj hints hlen hg => ?_
 have KX := hY w _ Y
 obtain ⟨fd, hb, hF⟩ := F w mg fa _ KX G.T.g hmg
 exact mR_ KX G.T.g G.T.b G.T.builtins G.T.nolimit hg hobj hints (Nat.le_trans hlen hn2) hr hF hb (fun H hO hS => hsp w H a ns hlen hO hS) fun H e s' => hCX w H s₁ e s'
end L2
namespace L2
open PySem PySem.Spec PyProof.Rows
def defArgs (s : Stmt) : Arguments := match s with
 | .FunctionDef _ a _ _ _ _ _ _ _ _ => a
 | _ => { posonlyargs := [], args := [], vararg := none, kwonlyargs := [], kw_defaults := [], kwarg := none, defaults := [] }
def defBody (s : Stmt) : List Stmt := match s with
 | .FunctionDef _ _ b _ _ _ _ _ _ _ => b
 | _ => []
def defScope (s : Stmt) : Scope := match s with
 | .FunctionDef _ _ _ _ _ _ sc _ _ _ => sc
 | _ => { kind := .function, names := [], isGenerator := false, isCoroutine := false }
abbrev CX0 : CXT := fun _ _ _ _ _ _ => False
abbrev E0 : XK := fun _ _ _ => False
theorem pass0 {X : Cx} : Passes CX0 X E0 := fun _ _ _ _ _ _ _ h => h.elim
structure Fun (K : PySem.W.Frag) (x qual : Str) (st : Stmt) (f : Addr) (fd : FuncData) : Prop where
 ex : ∃ (oc : Value) (od : Option Addr) (kV doc pm : Value) (an : Option Addr) (cdv ct : Value) (osl : Array (Option Value)),
  fd = PySem.W.fnOf x qual (defArgs st) (defBody st) (defScope st) .none kV doc pm an cdv ct ∧ K.lookup f = some ⟨oc, od, .func fd, osl⟩ ∧ PySem.W.codeIn K cdv qual = true
 kp : PySem.W.keepIn K (.ref f) = true
section
variable {P : Program} {w : World} {K : PySem.W.Frag} {mg : Str → Option Value} {base : Heap}
theorem Fun.ok {x qual : Str} {st : Stmt} {f : Addr} {fd : FuncData} {N ps : List Str} {k : Nat} {sp : Sp} (F : Fun K x qual st f fd) (S : FnScope N ps (defScope st)) (len : ∀ vs H Q E, sp vs H Q E → vs.length = ps.length)
  (hbody : ∀ (cdv : Value) (A : Around) (outer : List Env) (s : Shared) (H : Hp) (vs : List V) (Q : VK) (E : XK), Room k (A.deeper (envOfC qual (defScope st) s.heap.objs.size f cdv)) → sp vs H Q E →
   ∃ t, PSs (cxOf CX0 P w K mg base N qual (defScope st) f cdv A outer s H E).nox (defBody st) t ∧ t { nx := fun _ H' => Q .non H', rt := Q } (start N vs) H) : FnOk P w K mg base CX0 (k + 1) f fd ps sp := by
 obtain ⟨oc, od, kV, doc, pm, an, cdv, ct, osl, rfl, lk, hcd⟩ := F.ex
 refine fn_of lk hcd S len fun A outer s H vs Q E hr hsp => ?_
 obtain ⟨t, h, q⟩ := hbody cdv A outer s H vs Q E hr hsp
 exact ⟨t, h.nox, q⟩
theorem Fun.binds {x qual : Str} {st : Stmt} {f : Addr} {fd : FuncData} {ps : List Str} (F : Fun K x qual st f fd)
  (h : ∀ (kV doc pm : Value) (an : Option Addr) (cdv ct : Value) (us : List Value), us.length = ps.length → bindArgs (PySem.W.fnOf x qual (defArgs st) (defBody st) (defScope st) .none kV doc pm an cdv ct) ⟨us, []⟩ = pure (ps.zip us)) : Binds K fd ps [] := by
 obtain ⟨oc, od, kV, doc, pm, an, cdv, ct, osl, rfl, lk, hcd⟩ := F.ex
 exact .all (h kV doc pm an cdv ct)
theorem oT_ {x qual : Str} {st : Stmt} {f : Addr} {oc : Value} {od an : Option Addr} {osl : Array (Option Value)} {kV doc pm cdv ct : Value} (l : K.lookup f = some ⟨oc, od, .func (PySem.W.fnOf x qual (defArgs st) (defBody st) (defScope st) .none kV doc pm an cdv ct), osl⟩)
  (c : PySem.W.codeIn K cdv qual = true) (k : PySem.W.keepIn K (.ref f) = true) : Fun K x qual st f (PySem.W.fnOf x qual (defArgs st) (defBody st) (defScope st) .none kV doc pm an cdv ct) := ⟨⟨oc, od, kV, doc, pm, an, cdv, ct, osl, rfl, l, c⟩, k⟩
end
theorem small1000 {n : Nat} (h : n ≤ 1000) : n < sizeLine := Nat.lt_of_le_of_lt h (by decide)
section
variable {X : Cx}
end
theorem ite2 {c A B : Prop} [Decidable c] (h1 : c → A) (h2 : ¬ c → B) : if c then A else B := by
 by_cases h : c
 ·rw [if_pos h]
  exact h1 h
 ·rw [if_neg h]
  exact h2 h
def Same (H H' : Hp) : Prop := ∀ b o, H b = some o → H' b = some o
theorem Same.refl (H : Hp) : Same H H := fun _ _ h => h
theorem Same.trans {H H1 H2 : Hp} (a : Same H H1) (b : Same H1 H2) : Same H H2 := fun c o h => b c o (a c o h)
theorem Same.free {H H' : Hp} (e : Same H H') {l : Addr} (h : H' l = Option.none) : H l = Option.none := by
 cases q : H l with
 | none => rfl
 | some o =>
  rw [e l o q] at h
  cases h
theorem Same.seq {K : PySem.W.Frag} {H H' : Hp} {a : Addr} {xs : List V} (e : Same H H') (h : SqL K H a xs) : SqL K H' a xs := by
 rcases h with (h | ⟨o, h⟩) | h
 ·exact .inl (.inl (e _ _ h))
 ·exact .inl (.inr ⟨o, e _ _ h⟩)
 ·exact .inr h
end L2
namespace L2
open PySem PySem.Spec PyProof.Rows
def kindV (H : Hp) : V → Option String
 | .non => some "NoneType"
 | .bl _ => some "bool"
 | .int _ => some "int"
 | .str _ => some "str"
 | .ref p => match H p with
  | some (.lst _) => some "list"
  | some (.tup _) => some "tuple"
  | _ => none
 | _ => none
def subT (a b : String) : Bool := a == b || (a == "bool" && b == "int")
def plainT (T : String) : Prop := T = "int" ∨ T = "bool" ∨ T = "tuple" ∨ T = "list" ∨ T = "str"
section
variable {X : Cx}
theorem hW_ : CallR X (.builtin "isinstance") (fun xs H Q => ∃ x T k, xs = [x, .ty T] ∧ plainT T ∧ kindV H x = some k ∧ Q (.bl (subT k T)) H) := by
 intro pins s σ H xs us Q I r h
 obtain ⟨x, T, k, rfl, hT, hk, q⟩ := h
 obtain ⟨u, w', rfl, rx, ry⟩ := vals2 r
 cases (show w' = Value.type T from ry)
 have fin : ∀ {b : Bool} {s' : Shared}, b = subT k T → Inv X pins σ H s' → EP X pins σ Q (.bool b) s' := fun {b s'} e J => ⟨.bl b, H, J, rfl, by rw [e]; exact q⟩
 cases x with
 | non =>
  cases (show u = Value.none from rx)
  cases hk
  rcases hT with rfl | rfl | rfl | rfl | rfl
  ·exact IsiPair.NoneType_int (fin (by decide) (I.tok _))
  ·exact IsiPair.NoneType_bool (fin (by decide) (I.tok _))
  ·exact IsiPair.NoneType_tuple (fin (by decide) (I.tok _))
  ·exact IsiPair.NoneType_list (fin (by decide) (I.tok _))
  ·exact IsiPair.NoneType_str (fin (by decide) (I.tok _))
 | bl b =>
  cases (show u = Value.bool b from rx)
  cases hk
  rcases hT with rfl | rfl | rfl | rfl | rfl
  ·exact IsiPair.bool_int (fin (by decide) I)
  ·exact IsiPair.bool_bool (fin (by decide) I)
  ·exact IsiPair.bool_tuple (fin (by decide) (I.tok _))
  ·exact IsiPair.bool_list (fin (by decide) (I.tok _))
  ·exact IsiPair.bool_str (fin (by decide) (I.tok _))
 | int i =>
  obtain ⟨t, rfl⟩ := (show ∃ t, u = Value.int i t from rx)
  cases hk
  rcases hT with rfl | rfl | rfl | rfl | rfl
  ·exact IsiPair.int_int (fin (by decide) I)
  ·exact IsiPair.int_bool (fin (by decide) (I.tok _))
  ·exact IsiPair.int_tuple (fin (by decide) (I.tok _))
  ·exact IsiPair.int_list (fin (by decide) (I.tok _))
  ·exact IsiPair.int_str (fin (by decide) (I.tok _))
 | str z =>
  obtain ⟨t, rfl⟩ := (show ∃ t, u = Value.str z t from rx)
  cases hk
  rcases hT with rfl | rfl | rfl | rfl | rfl
  ·exact IsiPair.str_int (fin (by decide) (I.tok _))
  ·exact IsiPair.str_bool (fin (by decide) (I.tok _))
  ·exact IsiPair.str_tuple (fin (by decide) (I.tok _))
  ·exact IsiPair.str_list (fin (by decide) (I.tok _))
  ·exact IsiPair.str_str (fin (by decide) I)
 | ref p =>
  cases (show u = Value.ref p from rx)
  cases e : H p with
  | none => simp [kindV, e] at hk
  | some o =>
   cases o with
   | lst ys =>
    have hk' : k = "list" := by simp [kindV, e] at hk; exact hk.symm
    subst hk'
    obtain ⟨its, n, rr, ho, hz⟩ := I.lst e
    rcases hT with rfl | rfl | rfl | rfl | rfl
    ·exact IsiPair.list_int ho rfl (fin (by decide) (I.tok _))
    ·exact IsiPair.list_bool ho rfl (fin (by decide) (I.tok _))
    ·exact IsiPair.list_tuple ho rfl (fin (by decide) (I.tok _))
    ·exact IsiPair.list_list ho rfl (fin (by decide) I)
    ·exact IsiPair.list_str ho rfl (fin (by decide) (I.tok _))
   | tup ys =>
    have hk' : k = "tuple" := by simp [kindV, e] at hk; exact hk.symm
    subst hk'
    obtain ⟨its, rr, ⟨ob, ho, hc, _⟩, hz⟩ := I.tuple (xs := ys) (.inl (.inl e))
    rcases hT with rfl | rfl | rfl | rfl | rfl
    ·exact IsiPair.tuple_int ho hc (fin (by decide) (I.tok _))
    ·exact IsiPair.tuple_bool ho hc (fin (by decide) (I.tok _))
    ·exact IsiPair.tuple_tuple ho hc (fin (by decide) I)
    ·exact IsiPair.tuple_list ho hc (fin (by decide) (I.tok _))
    ·exact IsiPair.tuple_str ho hc (fin (by decide) (I.tok _))
   | _ => simp [kindV, e] at hk
 | _ => cases hk
def rBits : V → List V → Hp → VK → Prop := fun x xs H Q => ∃ i, x = .int i ∧ xs = [] ∧ Q (.int (Builtin.Int.intBits i : Nat)) H
theorem n7_ : MtR X "int.bit_length" rBits := by
 intro pins s σ H x xs v us Q I rx rs h
 obtain ⟨i, rfl, rfl, q⟩ := h
 obtain ⟨t, rfl⟩ := rx
 cases rs
 exact call_gives F.slot_int_bit_length (typeIs_int s i t) F.entry_int_bit_length (F.args_int_bit_length_1 _) (AutoIntG2.int_bit_length_int_0 i t) ⟨.int (Builtin.Int.intBits i : Nat), H, I.tok _, ⟨_, rfl⟩, q⟩
def CMulB (i j : Int) : Prop := Builtin.Int.intBits i + Builtin.Int.intBits j ≤ 134217728
def CDivB (i j : Int) : Prop := 0 < j ∧ j.natAbs.log2 < 9000
theorem an_ : OpR X (binaryOp .FloorDiv) (rI CDivB fun i j => .int (i / j)) := opI fun i j _ _ _ _ _ hc q => by
 have h1 : (0 : Int) < j := hc.1
 exact floordiv_int (by omega) (by rw [Int.fdiv_eq_ediv_of_nonneg i (by omega)]; exact q) (.inl (PyProof.noPylong_of_log2 hc.2))
def CDivF (i j : Int) : Prop := j ≠ 0 ∧ j.natAbs.log2 < 9000
theorem kn_ : OpR X (binaryOp .FloorDiv) (rI CDivF fun i j => .int (i.fdiv j)) := opI fun i j _ _ _ _ _ hc q =>
 floordiv_int hc.1 q (.inl (PyProof.noPylong_of_log2 hc.2))
def eqVs : List V → List V → Bool
 | [], [] => true
 | x :: xs, y :: ys => eqV x y && eqVs xs ys
 | _, _ => false
end
end L2
namespace L2
open PySem PySem.Spec PyProof.Rows
def Fn0 (K : PySem.W.Frag) (mg : Str → Option Value) (x : Str) (st : Stmt) : Prop := ∃ f fd, Fun K x x st f fd ∧ mg x = some (.ref f)
theorem oU_ {K : PySem.W.Frag} {mg : Str → Option Value} {h : Heap} (X : K.In h) (G : h.Ns mainGlobals mg) {x : Str} {st : Stmt} {f : Addr} {oc : Value} {od an : Option Addr} {osl : Array (Option Value)} {kV doc pm cdv ct : Value}
  (a : PySem.W.nsIn K mainGlobals x = some (some (.ref f))) (l : K.lookup f = some ⟨oc, od, .func (PySem.W.fnOf x x (defArgs st) (defBody st) (defScope st) .none kV doc pm an cdv ct), osl⟩) (c : PySem.W.codeIn K cdv x = true) (k : PySem.W.keepIn K (.ref f) = true) : Fn0 K mg x st :=
 ⟨f, _, oT_ l c k, PySem.W.mg_of X G a⟩
def Cal (P : Program) (w : World) (K : PySem.W.Frag) (mg : Str → Option Value) (base : Heap) (x : Str) (ps : List Str) (k : Nat) (sp : Sp) : Prop :=
 ∃ f fd, mg x = some (.ref f) ∧ PySem.W.keepIn K (.ref f) = true ∧ Binds K fd ps [] ∧ FnOk P w K mg base CX0 k f fd ps sp
theorem aW_ {P : Program} {w : World} {K : PySem.W.Frag} {mg : Str → Option Value} {base : Heap} {x : Str} {st : Stmt} {N ps : List Str} {k : Nat} {sp : Sp} (F : Fn0 K mg x st) (S : FnScope N ps (defScope st))
  (hb : ∀ (kV doc pm : Value) (an : Option Addr) (cdv ct : Value) (us : List Value), us.length = ps.length → bindArgs (PySem.W.fnOf x x (defArgs st) (defBody st) (defScope st) .none kV doc pm an cdv ct) ⟨us, []⟩ = pure (ps.zip us))
  (len : ∀ vs H Q E, sp vs H Q E → vs.length = ps.length)
  (hbody : ∀ (f : Addr) (cdv : Value) (A : Around) (outer : List Env) (s : Shared) (H : Hp) (vs : List V) (Q : VK) (E : XK), Room k (A.deeper (envOfC x (defScope st) s.heap.objs.size f cdv)) → sp vs H Q E →
   ∃ t, PSs (cxOf CX0 P w K mg base N x (defScope st) f cdv A outer s H E).nox (defBody st) t ∧ t { nx := fun _ H' => Q .non H', rt := Q } (start N vs) H) : Cal P w K mg base x ps (k + 1) sp := by
 obtain ⟨f, fd, F, m⟩ := F
 exact ⟨f, fd, m, F.kp, F.binds hb, F.ok S len fun cdv A outer s H vs Q E => hbody f cdv A outer s H vs Q E⟩
section
variable {X : Cx} {x : Str} {ps : List Str} {k : Nat} {sp : Sp} {e : Expr} {es : List Expr} {t : TA} {p pos : Pos}
theorem mS_ (C : Cal X.prog X.w X.K X.mg X.base x ps k sp) (hr : Room k X.A) (hg : Gl X x) (ha : PA X (e :: es) t) (hdb : (x == ("__debug__" : Str)) = false := by decide)
  (he : starEach (e :: es) X.env = (false, eval e X.env) :: starEach es X.env := by rfl) (hpl : (backTo pos (starEach es X.env)).any (·.1) = false := by rfl) : PE X (.Call (.Name x p) (e :: es) [] pos) (tCall sp [] E0 t) := by
 obtain ⟨f, fd, m, kp, b, F⟩ := C
 exact ly_ F hr hg m kp b .nil pass0 ha hdb he hpl
theorem gM_ {i : Int} (hm : ∃ t, X.mg x = some (.int i t)) (hg : Gl X x) (hd : (x == ("__debug__" : Str)) = false := by decide) : PE X (.Name x pos) (tC (.int i)) := by
 obtain ⟨t, hm⟩ := hm
 exact jv_ hg hm ⟨t, rfl⟩ hd
end
theorem ko_ {K : PySem.W.Frag} {mg : Str → Option Value} {h : Heap} (X : K.In h) (G : h.Ns mainGlobals mg) {x : Str} {i : Int} {t : Tok} (a : PySem.W.nsIn K mainGlobals x = some (some (.int i t))) : ∃ t, mg x = some (.int i t) := ⟨t, PySem.W.mg_of X G a⟩
theorem Same.upd {H H' : Hp} {a : Addr} {o : HO} (e : Same H H') (h : H a = none) : Same H (upd H' a o) := fun b o' q => by
 rw [ai_ (ag_ q h)]
 exact e b o' q
theorem Same.new {H : Hp} {a : Addr} {o : HO} (h : H a = none) : Same H (L2.upd H a o) := (Same.refl H).upd h
end L2
namespace L2
open PySem PySem.Spec PyProof.Rows
def rIxTH : R2 := fun x y H Q => ∃ p xs i v, x = .ref p ∧ y = .int i ∧ H p = some (.tup xs) ∧ atI xs i = some v ∧ Q v H
def rIxLH : R2 := fun x y H Q => ∃ p xs i v, x = .ref p ∧ y = .int i ∧ H p = some (.lst xs) ∧ atI xs i = some v ∧ Q v H
theorem bc_ {X : Cx} : IxR X rIxTH := by
 intro value slice pins s σ H x y v u Q I rx ry h hs
 obtain ⟨p, xs, i, z, e1, e2, hp, ha, q⟩ := h
 exact oQ_ value slice pins s σ H x y v u Q I rx ry ⟨p, xs, i, z, e1, e2, .inl (.inl hp), ha, q⟩ hs
theorem am_ {X : Cx} : IxR X rIxLH := by
 intro value slice pins s σ H x y v u Q I rx ry h hs
 obtain ⟨p, xs, i, z, e1, e2, hp, ha, q⟩ := h
 exact lC_ value slice pins s σ H x y v u Q I rx ry ⟨p, xs, i, z, e1, e2, .inl (.inl hp), ha, q⟩ hs
def rEqTH : R2 := fun x y H Q => ∃ a b xs ys, x = .ref a ∧ y = .ref b ∧ H a = some (.tup xs) ∧ H b = some (.tup ys) ∧ xs.all flatV = true ∧ ys.all flatV = true ∧ Q (.bl (eqVs xs ys)) H
def rLenH : List V → Hp → VK → Prop := fun xs H Q => ∃ p ys, xs = [V.ref p] ∧ (H p = some (.lst ys) ∨ H p = some (.tup ys)) ∧ Q (.int ys.length) H
theorem ap_ {X : Cx} : CallR X (.builtin "len") rLenH := by
 intro pins s σ H xs us Q I r h
 obtain ⟨p, ys, e, hp, q⟩ := h
 exact ea_ pins s σ H xs us Q I r ⟨p, ys, e, hp.imp (fun z => .inl (.inl z)) (fun z => .inl (.inl z)), q⟩
theorem kp_ {X : Cx} {x : Str} {n : String} {pos : Pos} (hg : Gl X x) (hm : X.mg x = none) (hv : bootBuiltins x = some (.type n)) (hn : x ≠ "__name__" := by decide) (hd : (x == ("__debug__" : Str)) = false := by decide) : PE X (.Name x pos) (tC (.ty n)) :=
 n0_ hg hm hv rfl hn hd
theorem atI_0 {α : Type} {x : α} {xs : List α} : atI (x :: xs) 0 = some x := by simp [atI, ixN]
theorem atI_1 {α : Type} {x y : α} {xs : List α} : atI (x :: y :: xs) 1 = some y := by
 have h : (1 : Int) < (xs.length : Int) + 1 + 1 := by omega
 simp [atI, ixN, h]
theorem atI_2 {α : Type} {x y z : α} {xs : List α} : atI (x :: y :: z :: xs) 2 = some z := by
 have h : (2 : Int) < (xs.length : Int) + 1 + 1 + 1 := by omega
 simp [atI, ixN, h]
theorem b9_ {α : Type} {xs : List α} {i : Int} {v : α} (h0 : 0 ≤ i) (h : xs[i.toNat]? = some v) : atI xs i = some v := by
 have hl : i.toNat < xs.length := (List.getElem?_eq_some_iff.mp h).1
 have hl' : i < xs.length := by omega
 unfold atI ixN
 rw [if_pos h0, if_pos hl']
 exact h
theorem oV_ (n : Nat) : ixN (n + 1) 0 = some 0 := by
 have : (0 : Int) < (n : Int) + 1 := by omega
 simp [ixN, this]
theorem fD_ {c : TT} {tb : TS} {D : Ends} {σ : St} {H : Hp} (Pv : St → Hp → Prop) (μ : St → Hp → Nat) (h0 : Pv σ H)
  (hs : ∀ σ H, Pv σ H → c σ H fun b H1 => if b = true then ∃ N : St → Hp → Prop, (∀ σ' H', N σ' H' → ∃ m', m' < μ σ H ∧ m' = μ σ' H' ∧ Pv σ' H') ∧ tb { D with nx := N, ct := N, bk := D.nx } σ H1 else D.nx σ H1) : tWhile c tb D σ H :=
 ⟨fun m σ H => m = μ σ H ∧ Pv σ H, ⟨_, rfl, h0⟩, by rintro m σ H ⟨rfl, p⟩; exact hs σ H p⟩
theorem N_ok {Pv : St → Hp → Prop} {μ : St → Hp → Nat} {k : Nat} : ∀ σ' H', (Pv σ' H' ∧ μ σ' H' < k) → ∃ m', m' < k ∧ m' = μ σ' H' ∧ Pv σ' H' := fun _ _ ⟨a, b⟩ => ⟨_, b, rfl, a⟩
def ForGo (J : It) (g : TG) (tb : TS) (D : Ends) (σ : St) (H : Hp) : Prop := ∃ W : Nat → Nat → St → Hp → Prop, (∃ m, W 0 m σ H) ∧ ∀ i m σ H, W i m σ H →
 (J.stop i H ∧ D.nx σ H) ∨ (J.go i H ∧ ∃ N : St → Hp → Prop, (∀ σ' H', N σ' H' → ∃ m', m' < m ∧ W (i + 1) m' σ' H') ∧ ∀ x H', J.yld i H x H' → g x σ H' fun σ2 H2 => tb { D with nx := N, ct := N, bk := D.nx } σ2 H2)
theorem n8_ {wi : TI} {g : TG} {tb : TS} {D : Ends} {σ : St} {H : Hp} : tFor wi g tb D σ H = wi σ H fun J H1 => ForGo J g tb D σ H1 := rfl
theorem cr_ {lo : Int} {n : Nat} {g : TG} {tb : TS} {D : Ends} {σ : St} {H : Hp} (Pv : Nat → St → Hp → Prop) (h0 : Pv 0 σ H)
  (hs : ∀ i σ H, i < n → Pv i σ H → g (.int (lo + i)) σ H fun σ2 H2 => tb { D with nx := Pv (i + 1), ct := Pv (i + 1), bk := D.nx } σ2 H2) (hd : ∀ σ H, Pv n σ H → D.nx σ H) : ForGo (Itr lo n) g tb D σ H := lu_ Pv h0 hs hd
theorem lG_ {K : PySem.W.Frag} {a : Addr} {xs : List V} {g : TG} {tb : TS} {D : Ends} {σ : St} {H : Hp} (Pv : Nat → St → Hp → Prop) (h0 : Pv 0 σ H) (hl : ∀ i σ H, i ≤ xs.length → Pv i σ H → SqL K H a xs)
  (hs : ∀ i x σ H, xs[i]? = some x → Pv i σ H → g x σ H fun σ2 H2 => tb { D with nx := Pv (i + 1), ct := Pv (i + 1), bk := D.nx } σ2 H2) (hd : ∀ σ H, Pv xs.length σ H → D.nx σ H) : ForGo (Itl K a) g tb D σ H := mN_ Pv h0 hl hs hd
def notStar : Expr → Bool
 | .Starred .. => false
 | _ => true
theorem aq_ {e : Expr} {es : List Expr} {env : Env} (h : notStar e = true) : starEach (e :: es) env = (false, eval e env) :: starEach es env := by
 cases e <;> first | rfl | exact absurd (show false = true from h) Bool.false_ne_true
def plainArgs : List Expr → Bool
 | [] => true
 | e :: es => notStar e && plainArgs es
theorem bp_ {pos : Pos} {env : Env} : ∀ {es : List Expr}, plainArgs es = true → (backTo pos (starEach es env)).any (·.1) = false
 | [], _ => rfl
 | e :: es, h => by
  have h' : notStar e = true ∧ plainArgs es = true := by simpa [plainArgs] using h
  rw [aq_ h'.1]
  show (false || (backTo pos (starEach es env)).any (·.1)) = false
  rw [bp_ h'.2]
  rfl
def isComp : Expr → Bool
 | .ListComp .. => true
 | .SetComp .. => true
 | .DictComp .. => true
 | _ => false
theorem gN_ {e : Expr} {t : Option Expr} {n : Nat} {env : Env} (h : isComp e = false) : swapsWith e t n env = pure false := by
 cases e <;> first | rfl | exact absurd (show true = false from h) Bool.noConfusion
section
variable {X : Cx} {x : Str} {ps : List Str} {k : Nat} {sp : Sp} {e : Expr} {es : List Expr} {te : TE} {t : TA} {p pos : Pos} {id : String} {r : List V → Hp → VK → Prop}
theorem pa_c (ha : PE X e te) (hr : PA X es t) (hs : notStar e = true := by rfl) : PA X (e :: es) (tCons te t) := n3_ ha hr (aq_ hs)
theorem al_ (C : Cal X.prog X.w X.K X.mg X.base x ps k sp) (hr : Room k X.A) (hg : Gl X x) (ha : PA X (e :: es) t) (hs : plainArgs (e :: es) = true := by rfl) (hdb : (x == ("__debug__" : Str)) = false := by decide) :
  PE X (.Call (.Name x p) (e :: es) [] pos) (tCall sp [] E0 t) :=
 have h' : notStar e = true ∧ plainArgs es = true := by simpa [plainArgs] using hs
 mS_ C hr hg ha hdb (aq_ h'.1) (bp_ h'.2)
theorem ah_ (hc : CallR X (.builtin id) r) (hg : Gl X x) (hm : X.mg x = none) (hv : bootBuiltins x = some (.builtin id)) (ha : PA X (e :: es) t) (hs : plainArgs (e :: es) = true := by rfl) (hn : x ≠ "__name__" := by decide) (hdb : (x == ("__debug__" : Str)) = false := by decide) :
  PE X (.Call (.Name x p) (e :: es) [] pos) (tCB r t) :=
 have h' : notStar e = true ∧ plainArgs es = true := by simpa [plainArgs] using hs
 mP_ hc hg hm hv ha hn hdb (aq_ h'.1) (bp_ h'.2)
theorem af_ {i : Nat} {pos' : Pos} (hN : X.N.Nodup) (hi : X.N[i]? = some x) (hx : X.env.scope.names.lookup x = some .local) (he : PE X e te) (hs : isComp e = false := by rfl) : PS X (.Assign [.Name x pos'] e pos) (tAsg te (gName i)) :=
 nr_ hN hi (.inl hx) he (gN_ hs) (.inr hx)
theorem aj_ {i : Nat} (hN : X.N.Nodup) (hi : X.N[i]? = some x) (hx : X.env.scope.names.lookup x = some .local) : PG X (.Name x pos) (gName i) := lq_ hN hi (.inl hx) (.inr hx)
theorem aZ_ (he : PE X e te) (hs : isComp e = false := by rfl) : PS X (.Expr e pos) (tDrop te) := n1_ he (gN_ hs)
theorem pv1 (i : Nat) (hN : X.N[i]? = some x := by rfl) (hv : X.env.scope.names.lookup x = some .local := by rfl) (hd : (x == ("__debug__" : Str)) = false := by decide) (hcd : (x == ("__classdict__" : Str)) = false := by decide) : PE X (.Name x pos) (tVar i) := nq_ hN (.inl hv) hd hcd
end
def tCut (t : TS) : TS := fun D σ H => ∃ M : St → Hp → Prop, t { D with nx := M } σ H ∧ ∀ σ' H', M σ' H' → D.nx σ' H'
theorem fe_ {X : Cx} {st : Stmt} {t : TS} (h : PS X st t) : PS X st (tCut t) := by
 intro pins s σ H D I hq
 obtain ⟨M, h1, h2⟩ := hq
 refine thn (h pins s σ H _ I h1) fun f s' q => ?_
 cases f with
 | next => obtain ⟨σ', H', I', m⟩ := q; exact ⟨σ', H', I', h2 _ _ m⟩
 | brk => exact q
 | cont => exact q
 | ret u => exact q
theorem aG_ : bootBuiltins "len" = some (.builtin "len") := by decide +kernel
theorem kq_ : bootBuiltins "abs" = some (.builtin "abs") := by decide +kernel
theorem lH_ : bootBuiltins "max" = some (.builtin "max") := by decide +kernel
theorem ny_ : bootBuiltins "min" = some (.builtin "min") := by decide +kernel
theorem br_ : bootBuiltins "isinstance" = some (.builtin "isinstance") := by decide +kernel
theorem iO_ : bootBuiltins "sorted" = some (.builtin "sorted") := by decide +kernel
theorem lI_ : bootBuiltins "all" = some (.builtin "all") := by decide +kernel
theorem hJ_ : bootBuiltins "int" = some (.type "int") := by decide +kernel
theorem n9_ : bootBuiltins "bool" = some (.type "bool") := by decide +kernel
theorem mT_ : bootBuiltins "tuple" = some (.type "tuple") := by decide +kernel
theorem oa_ : bootBuiltins "list" = some (.type "list") := by decide +kernel
theorem nz_ : bootBuiltins "str" = some (.type "str") := by decide +kernel
end L2
namespace L2
open PySem PySem.Spec PyProof.Rows
def clOf (cells : List (Str × Addr)) : List (Str × NameKind) → List (Str × Addr) → List (Str × Addr)
 | [], acc => acc
 | (n, k) :: r, acc => if k == .free then clOf cells r ((n, (cells.lookup n).getD 0) :: acc) else clOf cells r acc
theorem kV_ {env : Env} : ∀ (names : List (Str × NameKind)) (acc : List (Str × Addr)), (∀ p ∈ names, p.2 = .free → ∃ c, env.cells.lookup p.1 = some c) →
  (forIn (m := Sem) names acc fun x r => (match x with | (name, kind) => if (kind == NameKind.free) = true then do let a ← cellOf env name; pure (ForInStep.yield ((name, a) :: r)) else pure (ForInStep.yield r))) = pure (clOf env.cells names acc) := by
 intro names
 induction names with
 | nil => intro acc _; rfl
 | cons p r ih =>
  intro acc h
  obtain ⟨n, k⟩ := p
  rw [List.forIn_cons]
  by_cases hk : (k == NameKind.free) = true
  ·obtain ⟨c, hc⟩ := h (n, k) List.mem_cons_self (by simpa using hk)
   have e1 : cellOf env n = pure c := by unfold cellOf; rw [hc]
   simp only [hk, if_true, e1]
   have := ih ((n, c) :: acc) fun p hp => h p (List.mem_cons_of_mem _ hp)
   show _ = pure (clOf env.cells ((n, k) :: r) acc)
   rw [clOf, if_pos hk, hc]
   exact this
  ·simp only [hk]
   have := ih acc fun p hp => h p (List.mem_cons_of_mem _ hp)
   show _ = pure (clOf env.cells ((n, k) :: r) acc)
   rw [clOf, if_neg hk]
   exact this
theorem hK_ {scope : Scope} {env : Env} (h : ∀ p ∈ scope.names, p.2 = .free → ∃ c, env.cells.lookup p.1 = some c) : closureFor scope env = pure (clOf env.cells scope.names []) := by
 unfold closureFor
 exact Eq.trans (congrArg (fun z => z >>= fun s => pure s) (kV_ (env := env) scope.names [] h)) rfl
theorem hX_ {cells : List (Str × Addr)} : ∀ (names : List (Str × NameKind)) (acc : List (Str × Addr)), (∀ p ∈ names, p.2 = .free → ∃ c, cells.lookup p.1 = some c) → (∀ q ∈ acc, cells.lookup q.1 = some q.2) → ∀ q ∈ clOf cells names acc, cells.lookup q.1 = some q.2
 | [], acc, _, h => h
 | (n, k) :: r, acc, h1, h2 => by
  rw [clOf]
  by_cases hk : (k == NameKind.free) = true
  ·rw [if_pos hk]
   refine hX_ r _ (fun p hp => h1 p (List.mem_cons_of_mem _ hp)) fun q hq => ?_
   rcases List.mem_cons.mp hq with rfl | hq
   ·obtain ⟨c, hc⟩ := h1 (n, k) List.mem_cons_self (by simpa using hk)
    rw [hc]
    rfl
   ·exact h2 q hq
  ·rw [if_neg hk]
   exact hX_ r _ (fun p hp => h1 p (List.mem_cons_of_mem _ hp)) h2
theorem hY_ {cells : List (Str × Addr)} {x : Str} : ∀ (names : List (Str × NameKind)) (acc : List (Str × Addr)), ((x, NameKind.free) ∈ names ∨ ∃ c, (x, c) ∈ acc) → ∃ c, (x, c) ∈ clOf cells names acc
 | [], acc, h => h.elim (fun z => absurd z (by simp)) id
 | (n, k) :: r, acc, h => by
  rw [clOf]
  by_cases hk : (k == NameKind.free) = true
  ·rw [if_pos hk]
   refine hY_ r _ ?_
   rcases h with h | ⟨c, hc⟩
   ·rcases List.mem_cons.mp h with e | h
    ·cases e
     exact .inr ⟨_, List.mem_cons_self⟩
    ·exact .inl h
   ·exact .inr ⟨c, List.mem_cons_of_mem _ hc⟩
  ·rw [if_neg hk]
   refine hY_ r _ ?_
   rcases h with h | h
   ·rcases List.mem_cons.mp h with e | h
    ·cases e
     exact absurd rfl hk
    ·exact .inl h
   ·exact .inr h
theorem cY_ {x : Str} {c : Addr} : ∀ {l : List (Str × Addr)}, (x, c) ∈ l → ∃ c', l.lookup x = some c'
 | (n, d) :: r, h => by
  rw [List.lookup_cons]
  cases e : x == n with
  | true => exact ⟨d, rfl⟩
  | false =>
   rcases List.mem_cons.mp h with z | h
   ·cases z
    simp at e
   ·exact cY_ h
theorem gO_ {cells : List (Str × Addr)} {q : Str × Addr} : ∀ (names : List (Str × NameKind)) (acc : List (Str × Addr)), q ∈ clOf cells names acc → (q.1, NameKind.free) ∈ names ∨ q ∈ acc
 | [], acc, h => .inr h
 | (n, k) :: r, acc, h => by
  rw [clOf] at h
  by_cases hk : (k == NameKind.free) = true
  ·rw [if_pos hk] at h
   have hk' : k = .free := by simpa using hk
   rcases gO_ r _ h with h | h
   ·exact .inl (List.mem_cons_of_mem _ h)
   ·rcases List.mem_cons.mp h with rfl | h
    ·exact .inl (by rw [hk']; exact List.mem_cons_self)
    ·exact .inr h
  ·rw [if_neg hk] at h
   exact (gO_ r _ h).imp (List.mem_cons_of_mem _) id
theorem da_ {x : Str} {c : Addr} : ∀ (names : List (Str × NameKind)) (h : Heap) (acc : List (Str × Addr)), (x, c) ∈ cellsFrom h.objs.size names acc → (x, c) ∈ acc ∨ (h.objs.size ≤ c ∧ (pushCells h names).IsCell c none ∧ (x, NameKind.cell) ∈ names)
 | [], _, _, h => .inl h
 | (n, k) :: r, hp, acc, h => by
  unfold cellsFrom at h
  unfold pushCells
  by_cases hk : (k == NameKind.cell) = true
  ·rw [if_pos hk] at h ⊢
   have hk' : k = .cell := by simpa using hk
   have h' : (x, c) ∈ cellsFrom (hp.push { cls := .type "cell", data := .cell none }).objs.size r ((n, hp.objs.size) :: acc) := by rw [Heap.size_push]; exact h
   rcases da_ r _ _ h' with h | ⟨h1, h2, h3⟩
   ·rcases List.mem_cons.mp h with e | h
    ·cases e
     exact .inr ⟨Nat.le_refl _, ⟨_, pushCells_keeps r _ _ _ (Heap.get?_push_size _ rfl), rfl⟩, by rw [hk']; exact List.mem_cons_self⟩
    ·exact .inl h
   ·rw [Heap.size_push] at h1
    exact .inr ⟨by omega, h2, List.mem_cons_of_mem _ h3⟩
  ·rw [if_neg hk] at h ⊢
   exact (da_ r hp acc h).imp id fun ⟨h1, h2, h3⟩ => ⟨h1, h2, List.mem_cons_of_mem _ h3⟩
theorem dy_ {x : Str} : ∀ (names : List (Str × NameKind)) (n : Nat) (acc : List (Str × Addr)), ((x, NameKind.cell) ∈ names ∨ ∃ c, (x, c) ∈ acc) → ∃ c, (x, c) ∈ cellsFrom n names acc
 | [], _, acc, h => h.elim (fun z => absurd z (by simp)) id
 | (y, k) :: r, n, acc, h => by
  unfold cellsFrom
  by_cases hk : (k == NameKind.cell) = true
  ·rw [if_pos hk]
   refine dy_ r _ _ ?_
   rcases h with h | ⟨c, hc⟩
   ·rcases List.mem_cons.mp h with e | h
    ·cases e
     exact .inr ⟨_, List.mem_cons_self⟩
    ·exact .inl h
   ·exact .inr ⟨c, List.mem_cons_of_mem _ hc⟩
  ·rw [if_neg hk]
   refine dy_ r _ _ ?_
   rcases h with h | h
   ·rcases List.mem_cons.mp h with e | h
    ·cases e
     exact absurd rfl hk
    ·exact .inl h
   ·exact .inr h
theorem dz_ {lo : Nat} : ∀ (names : List (Str × NameKind)) (n : Nat) (acc : List (Str × Addr)), (∀ x c, (x, c) ∈ acc → c < n) → (∀ x y c, lo ≤ c → (x, c) ∈ acc → (y, c) ∈ acc → x = y) → ∀ x y c, lo ≤ c → (x, c) ∈ cellsFrom n names acc → (y, c) ∈ cellsFrom n names acc → x = y
 | [], _, _, _, h => h
 | (z, k) :: r, n, acc, h1, h2 => by
  unfold cellsFrom
  by_cases hk : (k == NameKind.cell) = true
  ·rw [if_pos hk]
   refine dz_ r _ _ (fun x c hm => ?_) fun x y c hc hx hy => ?_
   ·rcases List.mem_cons.mp hm with e | hm
    ·cases e; exact Nat.lt_succ_self _
    ·exact Nat.lt_succ_of_lt (h1 x c hm)
   ·rcases List.mem_cons.mp hx with e | hx <;> rcases List.mem_cons.mp hy with e' | hy
    ·cases e; cases e'; rfl
    ·cases e; exact absurd (h1 _ _ hy) (Nat.lt_irrefl _)
    ·cases e'; exact absurd (h1 _ _ hx) (Nat.lt_irrefl _)
    ·exact h2 x y c hc hx hy
  ·rw [if_neg hk]
   exact dz_ r n acc h1 h2
def blkCells (scope : Scope) (env : Env) (n : Nat) : List (Str × Addr) := cellsFrom (n + 1) scope.names (clOf env.cells scope.names [])
def cxC (X : Cx) (N' : List Str) (scope : Scope) (s : Shared) (H : Hp) (ex : List Addr) : Cx :=
 { X with N := N', s₀ := s, H₀ := H, env := compEnvC scope (blkCells scope X.env s.heap.objs.size) s.heap.objs.size X.env, outer := X.stack, ex := ex, fn := fun x => decide ((x, NameKind.cell) ∈ scope.names), pn := [] }
def pick (σ : St) (ix : List (Option Nat)) : St := ix.map fun o => match o with | some i => (match σ[i]? with | some v => v | none => none) | none => none
structure Scp (psc : Scope) (PN N' : List Str) (ix : List (Option Nat)) (scope : Scope) : Prop where
 kind : scope.kind = .function
 names : ∀ x ∈ scope.names, x.2 = .local → scope.names.lookup x.1 = some .local
 uni : ∀ x ∈ scope.names, x.2 = .free → scope.names.lookup x.1 = some .free
 apart : ∀ x ∈ scope.names, x.2 = .cell → (x.1, NameKind.free) ∉ scope.names
 free : ∀ x ∈ scope.names, x.2 = .free → psc.names.lookup x.1 = some .cell ∨ psc.names.lookup x.1 = some .free
 len : ix.length = N'.length
 at_ : ∀ (j i : Nat) (x : Str), N'[j]? = some x → ix[j]? = some (some i) → PN[i]? = some x ∧ (x, NameKind.free) ∈ scope.names
section
variable {X : Cx} {pins : List (Addr × Obj)} {σ : St} {H : Hp} {s : Shared} {N' : List Str} {ix : List (Option Nat)} {scope : Scope} {fp : List Addr}
theorem cZ_ {env : Env} : ∀ {names : List (Str × NameKind)} {x : Str}, names.lookup x = some .free →
  (names.map fun (n, k) => if (k == NameKind.free && env.scope.kind == .function && env.kindOf n == some .cell) then (n, NameKind.cell) else (n, k)).lookup x = some .cell ∨
  (names.map fun (n, k) => if (k == NameKind.free && env.scope.kind == .function && env.kindOf n == some .cell) then (n, NameKind.cell) else (n, k)).lookup x = some .free
 | [], _, h => by simp at h
 | (n, k) :: r, x, h => by
  have ih := @cZ_ env r x
  simp only [List.map_cons]
  cases hx : x == n with
  | true =>
   simp only [List.lookup_cons, hx] at h
   cases h
   by_cases hc : (NameKind.free == NameKind.free && env.scope.kind == .function && env.kindOf n == some .cell) = true
   ·rw [if_pos hc]; simp [List.lookup_cons, hx]
   ·rw [if_neg hc]; simp [List.lookup_cons, hx]
  | false =>
   simp only [List.lookup_cons, hx] at h
   by_cases hc : (k == NameKind.free && env.scope.kind == .function && env.kindOf n == some .cell) = true
   ·rw [if_pos hc]; simp only [List.lookup_cons, hx]; exact ih h
   ·rw [if_neg hc]; simp only [List.lookup_cons, hx]; exact ih h
theorem gP_ {scope : Scope} {env : Env} {x : Str} (h : scope.names.lookup x = some .free) : (relabel scope env).names.lookup x = some .cell ∨ (relabel scope env).names.lookup x = some .free := cZ_ h
theorem iP_ {scope : Scope} {env : Env} {x : Str} (h : (relabel scope env).names.lookup x = some .cell ∨ (relabel scope env).names.lookup x = some .free) : (x, NameKind.cell) ∈ scope.names ∨ (x, NameKind.free) ∈ scope.names := by
 have : ∃ k, (x, k) ∈ (relabel scope env).names ∧ (k = .cell ∨ k = .free) := by
  rcases h with h | h
  ·exact ⟨_, PySem.mem_of_lookup h, .inl rfl⟩
  ·exact ⟨_, PySem.mem_of_lookup h, .inr rfl⟩
 obtain ⟨k, hm, hk⟩ := this
 obtain ⟨⟨n, k'⟩, hm', e⟩ := List.mem_map.mp hm
 dsimp only at e
 split at e
 ·rename_i hc
  cases e
  have : k' = .free := by simp at hc; exact hc.1.1
  rw [this] at hm'
  exact .inr hm'
 ·cases e
  rcases hk with rfl | rfl
  ·exact .inl hm'
  ·exact .inr hm'
theorem mU_ (I : Inv X pins σ H s) (S : Scp X.env.scope X.N N' ix scope) (hf : ∀ b ∈ fp, FpOk X pins H b) (hfl : ∀ b ∈ fp, b < s.heap.objs.size) (t' : Nat) :
  Inv (cxC X N' scope s H fp) [] (pick σ ix) H { s with heap := pushCells (s.heap.push { cls := .type "dict", data := .dict #[] }) scope.names, toks := t' } := by
 have hn : (pushCells (s.heap.push { cls := .type "dict", data := .dict #[] }) scope.names).Ns s.heap.objs.size fun _ => none := (Heap.Ns.new s.heap (.type "dict")).keeps (pushCells_keeps _ _)
 have hk : ∀ b o, s.heap.get? b = some o → (pushCells (s.heap.push { cls := .type "dict", data := .dict #[] }) scope.names).get? b = some o := fun b o e => pushCells_keeps _ _ b o (Heap.get?_push_of_some _ e)
 have hfr : ∀ p ∈ scope.names, p.2 = NameKind.free → ∃ c, X.env.cells.lookup p.1 = some c := fun p hp e => I.ok.has p.1 (S.free p hp e)
 have clm : ∀ q ∈ clOf X.env.cells scope.names [], X.env.cells.lookup q.1 = some q.2 := hX_ scope.names [] hfr (by simp)
 have spec : ∀ x c, (blkCells scope X.env s.heap.objs.size).lookup x = some c → (X.env.cells.lookup x = some c ∧ (x, NameKind.free) ∈ scope.names) ∨
   (s.heap.objs.size < c ∧ (pushCells (s.heap.push { cls := .type "dict", data := .dict #[] }) scope.names).IsCell c none ∧ (x, NameKind.cell) ∈ scope.names) := fun x c e => by
  have hm : (x, c) ∈ cellsFrom (s.heap.push { cls := .type "dict", data := .dict #[] }).objs.size scope.names (clOf X.env.cells scope.names []) := by rw [Heap.size_push]; exact PySem.mem_of_lookup e
  rcases da_ scope.names _ _ hm with h | ⟨h1, h2, h3⟩
  ·exact .inl ⟨clm _ h, (gO_ scope.names [] h).elim id (fun z => absurd z (by simp))⟩
  ·rw [Heap.size_push] at h1
   exact .inr ⟨h1, h2, h3⟩
 have hasC : ∀ x, ((relabel scope X.env).names.lookup x = some .cell ∨ (relabel scope X.env).names.lookup x = some .free) → ∃ c, (blkCells scope X.env s.heap.objs.size).lookup x = some c := fun x hx => by
  have : ∃ c, (x, c) ∈ blkCells scope X.env s.heap.objs.size := dy_ scope.names _ _ ((iP_ hx).imp id fun z => hY_ scope.names [] (.inl z))
  obtain ⟨c, hc⟩ := this
  exact cY_ hc
 have cold : ∀ x c, X.env.cells.lookup x = some c → c < s.heap.objs.size := fun x c e => let ⟨v, q⟩ := I.cell x c e; q.lt
 refine ⟨⟨I.ok.mod, S.kind, I.ok.glob, I.ok.blt, Nat.le_refl _, fun x y c e1 e2 => ?_, hasC, fun x c z e => ?_, I.ok.hd, I.ok.frames, .inl rfl,
  fun b hb => ⟨Nat.ne_of_lt (hfl b hb), fun x c e => ?_⟩, I.bs, Nat.le_trans I.ok.bsz I.sz, fun b o e hb => ?_, fun b hb z => ?_, I.stack, I.stkFree⟩,
  rfl, I.bare, Un.kept hk, ⟨_, hn, fun j x v e1 e2 e3 => ?_⟩, fun x c e => ?_, I.hok.fresh (Nat.le_refl _), fun x c e => ?_, fun p hp => absurd (show p ∈ ([] : List (Addr × Obj)) from hp) (by simp), I.hok.kept hk, ?_⟩
 ·by_cases hc : c < s.heap.objs.size + 1
  ·rcases spec x c e1 with ⟨q1, _⟩ | ⟨q1, _⟩
   ·rcases spec y c e2 with ⟨q2, _⟩ | ⟨q2, _⟩
    ·exact I.ok.inj x y c q1 q2
    ·exact absurd q2 (Nat.not_lt.mpr (Nat.le_of_lt_succ hc))
   ·exact absurd q1 (Nat.not_lt.mpr (Nat.le_of_lt_succ hc))
  ·exact dz_ (lo := s.heap.objs.size + 1) scope.names _ _ (fun x c hm => Nat.lt_succ_of_lt (cold x c (clm _ hm))) (fun x y c hc hx _ => absurd (cold x c (clm _ hx)) (Nat.not_lt.mpr (Nat.le_trans (Nat.le_succ _) hc))) x y c (Nat.not_lt.mp hc) (PySem.mem_of_lookup e1) (PySem.mem_of_lookup e2)
 ·have z' : (x, NameKind.cell) ∈ scope.names := of_decide_eq_true z
  rcases spec x c e with ⟨_, q⟩ | ⟨q, _⟩
  ·exact absurd q (S.apart _ z' rfl)
  ·exact Nat.le_of_lt q
 ·rcases spec x c e with ⟨q, _⟩ | ⟨q, _⟩
  ·exact (hf b hb).2.2.2.2.1 x c q
  ·exact fun z => absurd (hfl b hb) (Nat.not_lt.mpr (z ▸ Nat.le_of_lt q))
 ·exact (hf b hb).2.2.2.1.elim (fun z => I.ok.noex b o e z) fun z => absurd (Nat.lt_of_lt_of_le (Heap.lt_size e) I.ok.bsz) (Nat.not_lt.mpr z)
 ·have hb2 := hf b hb
  rcases List.mem_cons.mp (I.stkSub b z) with q | q
  ·exact hb2.2.1 q
  ·exact hb2.2.2.1 q
 ·have e4 : ∃ i, ix[j]? = some (some i) ∧ σ[i]? = some (some v) := by
   have e2' : (pick σ ix)[j]? = some (some v) := e2
   unfold pick at e2'
   rw [List.getElem?_map] at e2'
   cases q : ix[j]? with
   | none => rw [q] at e2'; cases e2'
   | some o =>
    rw [q] at e2'
    cases o with
    | none => cases e2'
    | some i =>
     refine ⟨i, rfl, ?_⟩
     cases z : σ[i]? with
     | none => simp [z] at e2'
     | some y => simp [z] at e2'; rw [e2']
  obtain ⟨i, e4, e5⟩ := e4
  obtain ⟨a1, a2⟩ := S.at_ j i x e1 e4
  have a3 := S.free _ a2 rfl
  obtain ⟨m0, hn0, hl0⟩ := I.loc
  obtain ⟨u, r, l⟩ := hl0 i x v a1 e5 (.inr a3)
  refine ⟨u, r, ?_⟩
  rcases l with ⟨k1, _⟩ | ⟨k1, c, hcl, hce⟩
  ·have k1' : X.env.scope.names.lookup x = some .local := k1
   rcases a3 with z | z <;> (rw [k1'] at z; cases z)
  ·-- the name is captured here
   have e3' : (relabel scope X.env).names.lookup x = some .local ∨ (relabel scope X.env).names.lookup x = some .cell ∨ (relabel scope X.env).names.lookup x = some .free := e3
   have k3 := gP_ (env := X.env) (S.uni _ a2 rfl)
   obtain ⟨c', hc'⟩ := hasC x k3
   rcases spec x c' hc' with ⟨q, _⟩ | ⟨_, _, q⟩
   ·rw [hcl] at q
    cases q
    exact .inr ⟨k3, c, hc', hce.keeps hk⟩
   ·exact absurd a2 (S.apart _ q rfl)
 ·rcases spec x c e with ⟨q, _⟩ | ⟨q, q2, _⟩
  ·obtain ⟨v, q'⟩ := I.cell x c q
   exact ⟨v, q'.keeps hk⟩
  ·exact ⟨none, q2⟩
 ·rcases spec x c e with ⟨q, _⟩ | ⟨q, _⟩
  ·exact I.freeC x c q
  ·exact I.hok.fresh (Nat.le_of_lt q)
 ·show (pick σ ix).length = N'.length
  unfold pick
  rw [List.length_map]
  exact S.len
end
section
variable {prog : Program} {w : World} {A : Around} {R : Result → Shared → Prop} {s : Shared}
def testsOf (ifs : List Expr) (env : Env) : Sem Bool := forIn ifs true fun c r => if r = true then do let ok ← isTrue c env (eval c env); pure (ForInStep.yield ok) else pure (ForInStep.yield r)
theorem iQ_ {elt target iter : Expr} {ifs : List Expr} {scope : Scope} {pos : Pos} {it acc : Value} {env : Env} (I : Nat → Shared → Prop)
  (turn : ∀ n s, I n s → wpAny (model prog w) A (pyNext it) (fun r s₁ => match r with
   | none => R (.ok .next) s₁
   | some v => wpAny (model prog w) A (letOwnedTupleGo target it v) (fun _ s₁' => wpAny (model prog w) A (assign target env v) (fun _ s₂ => wpAny (model prog w) A (testsOf ifs env) (fun ok s₃ =>
     if ok = true then wpAny (model prog w) A (eval elt env) (fun x s₄ => wpAny (model prog w) A (call (.builtin "list.append") [acc, x]) (fun _ s₅ => ∃ m, m < n ∧ I m s₅) (fun _ _ => False) s₄) (fun _ _ => False) s₃
     else ∃ m, m < n ∧ I m s₃) (fun _ _ => False) s₂) (fun _ _ => False) s₁') (fun _ _ => False) s₁) (fun _ _ => False) s)
  (n : Nat) (h : I n s) : codeAny (model prog w) A (.compLoop (.ListComp elt [⟨target, iter, ifs, 0⟩] scope pos) 0 it acc env) R s := by
 refine codeAny_loop rfl I (fun n s hI => ?_) n h
 show wpAny _ _ ((compTurn (.ListComp elt [⟨target, iter, ifs, 0⟩] scope pos) 0 it acc env).onRaise (fun x => do noteFrame x env; theTreesLotGoes x)) _ _ s
 refine wpAny_noted ?_
 rw [compTurn_list]
 refine wpAny_bind (wpAny_standAt (wpAny_bind (wpAny_mono (turn n s hI) (fun r s₁ h₁ => ?_) fun _ _ h' => h'.elim)))
 cases r with
 | none => exact wpAny_pure h₁
 | some v =>
  refine wpAny_bind (wpAny_mono h₁ (fun _ s₁' h₁' => ?_) fun _ _ h' => h'.elim)
  refine wpAny_bind (wpAny_mono h₁' (fun _ s₂ h₂ => wpAny_bind (wpAny_mono h₂ (fun ok s₃ h₃ => ?_) fun _ _ h' => h'.elim)) fun _ _ h' => h'.elim)
  cases ok with
  | false => exact wpAny_pure ⟨rfl, h₃⟩
  | true =>
   exact wpAny_bind (wpAny_bind (wpAny_mono h₃ (fun x s₄ h₄ => wpAny_bind (wpAny_mono h₄ (fun _ s₅ h₅ => wpAny_pure (wpAny_pure ⟨rfl, h₅⟩)) fun _ _ h' => h'.elim)) fun _ _ h' => h'.elim))
end
theorem jz_ {M : Model} {A : Around} {E : Value → Shared → Prop} {s : Shared} {scope : Scope} {globals : Addr} {cl : List (Str × Addr)} {qual : Str} {env : Env} {Q : Env → Shared → Prop}
  (hQ : Q { scope := scope, locals := s.heap.objs.size, globals := globals, cells := cellsFrom (s.heap.objs.size + 1) scope.names cl, qual := qual, func := none, code := env.code, frame := env.frame, builtins := env.builtins } { s with heap := pushCells (s.heap.push { cls := .type "dict", data := .dict #[] }) scope.names }) :
  wpAny M A (newFunctionEnv scope globals cl [] qual none .none (some env)) Q E s := by
 simp only [newFunctionEnv, Option.isSome_some, if_true]
 refine wpAny_bind (wpAny_alloc ?_)
 refine wpAny_bind (wpAny_layCells _ (fun name kind cells => by cases hkc : kind == NameKind.cell <;> simp [hkc]) _ _ _ _ ?_)
 rw [show ({ s with heap := s.heap.push { cls := .type "dict", data := .dict #[] } } : Shared).heap.objs.size = s.heap.objs.size + 1 from Heap.size_push ..]
 exact wpAny_bind (wpAny_pure (wpAny_pure hQ))
def PF (X : Cx) (ifs : List Expr) (t : TT) : Prop :=
 ∀ (pins : List (Addr × Obj)) (s : Shared) (σ : St) (H : Hp) (Q : Bool → Hp → Prop), Inv X pins σ H s → t σ H Q → wpAny (model X.prog X.w) X.A (testsOf ifs X.env) (TP X pins σ Q) X.xe s
def tYes : TT := fun _ H Q => Q true H
theorem c0_ {X : Cx} : PF X [] tYes := fun _ _ _ H _ I h => wpAny_tests_nil ⟨H, I, h⟩
theorem kr_ {X : Cx} {c : Expr} {t : TT} (h : PT X c t) : PF X [c] t := fun pins s σ H Q I q => wpAny_tests_one (h pins s σ H Q I q)
def CompGo (J : It) (g : TG) (tt : TT) (te : TE) (σ : St) (H : Hp) (Q : VK) : Prop := ∀ D, H D = none → ∃ W : Nat → Nat → St → Hp → Prop, (∃ m, W 0 m σ (upd H D (.lst []))) ∧ ∀ i m σ H, W i m σ H →
 (J.stop i H ∧ Q (.ref D) H) ∨ (J.go i H ∧ ∃ N : St → Hp → Prop, (∀ σ' H', N σ' H' → ∃ m', m' < m ∧ W (i + 1) m' σ' H') ∧ ∀ x H', J.yld i H x H' → g x σ H' fun σ2 H2 => tt σ2 H2 fun b H3 =>
  if b = true then te σ2 H3 fun v H4 => ∃ xs, H4 D = some (.lst xs) ∧ xs.length < sizeLine ∧ N σ2 (upd H4 D (.lst (xs ++ [v]))) else N σ2 H3)
def tComp (ix : List (Option Nat)) (wi : TI) (g : TG) (tt : TT) (te : TE) : TE := fun σ H Q => wi σ H fun J H1 => CompGo J g tt te (pick σ ix) H1 Q
section
variable {X : Cx} {N' : List Str} {ix : List (Option Nat)} {scope : Scope} {tg iter elt : Expr} {ifs : List Expr} {wi : TI} {g : TG} {tt : TT} {te : TE} {pos : Pos}
theorem iR_ (hc : X.calm = true) (hxe : X.xe = fun _ _ => False) (S : Scp X.env.scope X.N N' ix scope) (hi : PI X tg iter wi) (hg : ∀ s H ex, PG (cxC X N' scope s H ex) tg g) (ht : ∀ s H ex, PF (cxC X N' scope s H ex) ifs tt) (he : ∀ s H ex, PE (cxC X N' scope s H ex) elt te)
  {pins : List (Addr × Obj)} {s : Shared} {σ : St} {H : Hp} {Q : VK} (I : Inv X pins σ H s) (h : tComp ix wi g tt te σ H Q) {Post : Value → Addr → Result → Shared → Prop}
  (fin' : ∀ (D C : Addr) (H' : Hp) (s' : Shared), Inv X pins σ H' s' → FpOk X pins H' C → (∃ m, s'.heap.Ns C m) → Q (.ref D) H' → Post (.ref D) C (.ok .next) s') :
  wpAny (model X.prog X.w) X.A (eval iter X.env) (fun x s₁ => wpAny (model X.prog X.w) X.A (pyIter x) (fun it s₂ => wpAny (model X.prog X.w) X.A (newList []) (fun acc s₃ =>
   wpAny (model X.prog X.w) X.A (newFunctionEnv scope X.env.globals (clOf X.env.cells scope.names []) [] X.env.qual none .none (some X.env)) (fun cenv s₄ =>
    codeAny (model X.prog X.w) X.A (.compStart (.ListComp elt [⟨tg, iter, ifs, 0⟩] scope pos) 0 it acc { cenv with scope := relabel scope X.env }) (Post acc cenv.locals) s₄) X.xe s₃) X.xe s₂) X.xe s₁) X.xe s := by
 refine thn (hi pins s σ H _ I h) fun v s1 h1 => thn h1 fun itv s2 h2 => ?_
 obtain ⟨it, fp, tn, J, H2, e, I2, T, st2, f2, go⟩ := h2
 subst e
 refine wpAny_newObj_type ?_
 have hD : H2 s2.heap.objs.size = none := I2.hok.fresh (Nat.le_refl _)
 have I3 : Inv X pins σ (upd H2 s2.heap.objs.size (.lst [])) { s2 with heap := s2.heap.push { cls := .type "list", dict := none, data := .seq ([] : List Value).toArray } } :=
  I2.laid (t' := s2.toks) (fun b u e => Heap.get?_push_of_some _ e) (Nat.le_refl _) ⟨Nat.zero_le _, [], 0, .nil, Heap.get?_push_size _ rfl⟩
 obtain ⟨W, ⟨m0, w0⟩, turn⟩ := go s2.heap.objs.size hD
 have fpl : ∀ b ∈ fp, b < s2.heap.objs.size := fun b hb => let ⟨o, e, _⟩ := T.obj _ _ st2 b hb; Heap.lt_size e
 have tF : ∀ {α : Type} {t : Sem α} {Q' : α → Shared → Prop} {s' : Shared}, wpAny (model X.prog X.w) X.A t Q' X.xe s' → wpAny (model X.prog X.w) X.A t Q' (fun _ _ => False) s' := fun hw => hxe ▸ hw
 generalize hH3 : upd H2 s2.heap.objs.size (.lst []) = H3 at I3 w0
 generalize hs3 : ({ s2 with heap := s2.heap.push { cls := .type "list", dict := none, data := .seq ([] : List Value).toArray } } : Shared) = s3 at I3 ⊢
 have h23 : ∀ b o, s2.heap.get? b = some o → s3.heap.get? b = some o := fun b o e => by rw [← hs3]; exact Heap.get?_push_of_some _ e
 have sz3 : s2.heap.objs.size ≤ s3.heap.objs.size := by rw [← hs3]; show _ ≤ (s2.heap.push _).objs.size; rw [Heap.size_push]; exact Nat.le_succ _
 have fpl3 : ∀ b ∈ fp, b < s3.heap.objs.size := fun b hb => Nat.lt_of_lt_of_le (fpl b hb) sz3
 have f3 : ∀ b ∈ fp, FpOk X pins H3 b := fun b hb => ⟨by rw [← hH3, ai_ (Nat.ne_of_lt (fpl b hb))]; exact (f2 b hb).1, (f2 b hb).2⟩
 refine jz_ ?_
 generalize hh1 : pushCells (s3.heap.push { cls := .type "dict", data := .dict #[] }) scope.names = h1
 have hk : ∀ b o, s3.heap.get? b = some o → h1.get? b = some o := fun b o e => by rw [← hh1]; exact pushCells_keeps _ _ b o (Heap.get?_push_of_some _ e)
 have I4 : Inv (cxC X N' scope s3 H3 fp) [] (pick σ ix) H3 { s3 with heap := h1 } := by rw [← hh1]; exact mU_ I3 S f3 fpl3 s3.toks
 have st4 : tn 0 h1 := T.keep _ _ _ st2 fun b hb o e => hk b o (h23 b o e)
 have fin : ∀ {σ' : St} {H' : Hp} {s' : Shared}, Inv (cxC X N' scope s3 H3 fp) [] σ' H' s' → Q (.ref s2.heap.objs.size) H' → Post (.ref s2.heap.objs.size) s3.heap.objs.size (.ok .next) s' := fun {σ' H' s'} J q => by
  obtain ⟨m, hn, _⟩ := J.loc
  have K1 : Inv X pins σ H' s' := I3.call' J.os J.base J.hok J.bare fun b hb => ⟨(f3 b hb).2.2.2.1, (f3 b hb).2.1, (f3 b hb).2.2.2.2.1, (f3 b hb).2.2.2.2.2⟩
  exact fin' _ _ H' s' K1 (I3.fpOk (b := s3.heap.objs.size) (Nat.le_refl _) (show H' s3.heap.objs.size = none from J.free)) ⟨m, hn⟩ q
 have loop : codeAny (model X.prog X.w) X.A (.compLoop (.ListComp elt [⟨tg, iter, ifs, 0⟩] scope pos) 0 (.ref it) (.ref s2.heap.objs.size) (compEnvC scope (blkCells scope X.env s3.heap.objs.size) s3.heap.objs.size X.env)) (Post (.ref s2.heap.objs.size) s3.heap.objs.size) { s3 with heap := h1 } := by
  refine iQ_ (fun n s' => ∃ i σ' H', Inv (cxC X N' scope s3 H3 fp) [] σ' H' s' ∧ tn i s'.heap ∧ (∀ b ∈ fp, H' b = none) ∧ W i n σ' H') ?_ m0 ⟨0, _, H3, I4, st4, fun b hb => (f3 b hb).1, w0⟩
  rintro n s5 ⟨i, σ5, H5, I5, st5, fr5, w5⟩
  have stat : ∀ {H' : Hp}, (∀ b ∈ fp, H' b = none) → ∀ b ∈ fp, FpOk (cxC X N' scope s3 H3 fp) [] H' b := fun hn b hb => ⟨hn b hb, (I5.ok.exf b hb).1, I5.ok.exfs b hb, .inl hb, (I5.ok.exf b hb).2, fun p hp => absurd (show p ∈ ([] : List (Addr × Obj)) from hp) (by simp)⟩
  rcases turn i n σ5 H5 w5 with ⟨stop, qn⟩ | ⟨go, N, hN, step⟩
  ·refine thn (tF (T.done (cxC X N' scope s3 H3 fp) rfl rfl rfl hc i [] s5 σ5 H5 X.xe I5 (stat fr5) st5 stop)) fun r s6 ⟨hr, I6⟩ => ?_
   subst hr
   exact fin I6 qn
  ·refine thn (tF (T.item (cxC X N' scope s3 H3 fp) rfl rfl rfl hc i [] s5 σ5 H5 X.xe I5 (stat fr5) st5 go)) fun r s6 ⟨u, hr, h6⟩ => ?_
   subst hr
   refine thn (tF h6) fun _ s7 ⟨x, H7, I7, r7, y7, st7, fr7⟩ => ?_
   have I7' := I7.pinned (stat fr7) (T.obj _ _ st7)
   have again : ∀ {σ' : St} {H' : Hp} {s' : Shared}, Inv (cxC X N' scope s3 H3 fp) ([] ++ pinsAt fp s7.heap) σ' H' s' → N σ' H' → ∃ m, m < n ∧ ∃ i σ' H', Inv (cxC X N' scope s3 H3 fp) [] σ' H' s' ∧ tn i s'.heap ∧ (∀ b ∈ fp, H' b = none) ∧ W i m σ' H' := fun {σ' H' s'} J n10 => by
    obtain ⟨m', hm, w10⟩ := hN σ' H' n10
    refine ⟨m', hm, i + 1, σ', H', J.unpinned, T.keep _ _ _ st7 fun b hb o e => (J.pin (b, o) (List.mem_append_right _ (List.mem_append_right _ (ex_ hb e)))).1, fun b hb => ?_, w10⟩
    obtain ⟨o, e, d⟩ := T.obj _ _ st7 b hb
    exact (J.pin (b, o) (List.mem_append_right _ (List.mem_append_right _ (ex_ hb e)))).2.1
   refine thn (tF (hg s3 H3 fp _ s7 σ5 H7 x u _ I7' r7 (step x H7 y7))) fun _ s8 ⟨σ8, H8, I8, q8⟩ => ?_
   refine thn (tF (ht s3 H3 fp _ s8 σ8 H8 _ I8 q8)) fun ok s8' ⟨H8', I8', q8'⟩ => ?_
   cases ok with
   | false => exact again I8' (by simpa using q8')
   | true =>
    rw [if_pos rfl] at q8' ⊢
    refine thn (tF (he s3 H3 fp _ s8' σ8 H8' _ I8' q8')) fun v s9 ⟨y, H9, I9, r9, xs, hl9, hz9, n9⟩ => ?_
    exact thn (tF (bi_ (X := cxC X N' scope s3 H3 fp) _ s9 σ8 H9 (.ref s2.heap.objs.size) [y] (.ref s2.heap.objs.size) [v] (fun _ H' => N σ8 H') I9 rfl (.cons r9 .nil) ⟨s2.heap.objs.size, xs, y, rfl, rfl, hl9, hz9, n9⟩)) fun _ s10 ⟨_, H10, I10, _, n10⟩ => again I10 n10
 exact codeAny_compStart_list loop (T.self _ 0 _ _ _ st4 loop)
theorem cC_ (hc : X.calm = true) (hxe : X.xe = fun _ _ => False) (S : Scp X.env.scope X.N N' ix scope) (hi : PI X tg iter wi) (hg : ∀ s H ex, PG (cxC X N' scope s H ex) tg g) (ht : ∀ s H ex, PF (cxC X N' scope s H ex) ifs tt) (he : ∀ s H ex, PE (cxC X N' scope s H ex) elt te)
  (hs : ∀ x, foldedSetIterable iter X.env x = pure x := by intro _; rfl) : PE X (.ListComp elt [⟨tg, iter, ifs, 0⟩] scope pos) (tComp ix wi g tt te) := by
 intro pins s σ H Q I h
 rw [eval_ListComp]
 refine wpAny_comprehension_free (use := none) rfl hs (hK_ fun p hp e => I.ok.has p.1 (S.free p hp e)) S.kind S.names (iR_ hc hxe S hi hg ht he I h fun D C H' s' K1 F ⟨m, hn⟩ q => ?_)
 refine ⟨m, hn, fun h' sb => ?_⟩
 obtain ⟨g0, g1, g2, g3, g4, g5⟩ := F
 exact ⟨.ref D, H', K1.turned (t' := s'.toks) (fun b o hb e => sb.extBut b o hb e) g0 g1 g3 g4 g5, rfl, q⟩
theorem eT_ {i : Nat} {y : Str} {py spos : Pos} (hc : X.calm = true) (hxe : X.xe = fun _ _ => False) (hN : X.N.Nodup) (hy : X.N[i]? = some y) (hl : X.env.scope.names.lookup y = some .local)
  (hsw : swapsWith (.ListComp elt [⟨tg, iter, ifs, 0⟩] scope pos) (some (.Name y py)) spos.line X.env = pure true)
  (S : Scp X.env.scope X.N N' ix scope) (hi : PI X tg iter wi) (hg : ∀ s H ex, PG (cxC X N' scope s H ex) tg g) (ht : ∀ s H ex, PF (cxC X N' scope s H ex) ifs tt) (he : ∀ s H ex, PE (cxC X N' scope s H ex) elt te)
  (hs : ∀ x, foldedSetIterable iter X.env x = pure x := by intro _; rfl) : PS X (.Assign [.Name y py] (.ListComp elt [⟨tg, iter, ifs, 0⟩] scope pos) spos) (tAsg (tComp ix wi g tt te) (gName i)) := by
 intro pins s σ H D I h
 rw [exec_Assign_Name_used _ _ _ _ hsw]
 refine wpAny_bind (wpAny_standAt (wpAny_bind ?_))
 show wpAny _ X.A (do let _ ← comprehension (.ListComp elt [⟨tg, iter, ifs, 0⟩] scope pos) scope X.env _ (newList []) false (eval iter X.env) (some (assign (.Name y py) X.env))) _ _ s
 refine wpAny_bind (wpAny_mono (wpAny_comprehension_free (use := some (assign (.Name y py) X.env)) (Q := fun _ s' => SP X pins D .next s') rfl hs (hK_ fun p hp e => I.ok.has p.1 (S.free p hp e)) S.kind S.names
  (iR_ hc hxe S hi hg ht he I h fun L C H' s' K1 F ⟨m, hn⟩ q => ?_)) (fun _ s' hq => wpAny_pure (wpAny_pure hq)) fun _ _ e => e)
 show wpAny _ X.A (assign (.Name y py) X.env (.ref L)) _ _ _
 obtain ⟨g0, g1, g2, g3, g4, g5⟩ := F
 refine wpAny_assign_Name (iA_ K1 hN hy (.inl hl) (v := .ref L) rfl (fun s2 I2 ⟨a, sb, ha⟩ => ?_) (.inr hl))
 have hCa : C ≠ a := by
  rcases ha with rfl | ha
  ·exact g1
  ·exact fun z => g4 _ _ ha z.symm
 refine ⟨m, hn.sameBut sb hCa, fun h' sb' => ?_⟩
 exact ⟨_, H', I2.turned (t' := s2.toks) (fun b o hb e => sb'.extBut b o hb e) g0 g1 g3 g4 g5, q⟩
end
def scpB (psc : Scope) (PN N' : List Str) (ix : List (Option Nat)) (scope : Scope) : Bool :=
 scope.kind == .function &&
 scope.names.all (fun x => x.2 != .local || scope.names.lookup x.1 == some .local) &&
 scope.names.all (fun x => x.2 != .free || scope.names.lookup x.1 == some .free) &&
 scope.names.all (fun x => x.2 != .cell || !scope.names.contains (x.1, NameKind.free)) &&
 scope.names.all (fun x => x.2 != .free || (psc.names.lookup x.1 == some .cell || psc.names.lookup x.1 == some .free)) &&
 ix.length == N'.length &&
 (List.range N'.length).all (fun j => match ix[j]?, N'[j]? with | some (some i), some x => PN[i]? == some x && scope.names.contains (x, NameKind.free) | _, _ => true)
theorem bN_ {psc : Scope} {PN N' : List Str} {ix : List (Option Nat)} {scope : Scope} (h : scpB psc PN N' ix scope = true) : Scp psc PN N' ix scope := by
 unfold scpB at h
 simp only [Bool.and_eq_true, List.all_eq_true, beq_iff_eq, Bool.or_eq_true, bne_iff_ne, ne_eq, List.contains_iff_mem, Bool.not_eq_true', List.mem_range] at h
 obtain ⟨⟨⟨⟨⟨⟨h1, h2⟩, h3⟩, h4⟩, h5⟩, h6⟩, h7⟩ := h
 refine ⟨h1, fun x hx e => (h2 x hx).resolve_left fun z => z e, fun x hx e => (h3 x hx).resolve_left fun z => z e, fun x hx e hm => ?_, fun x hx e => (h5 x hx).resolve_left fun z => z e, h6, fun j i x e1 e2 => ?_⟩
 ·have := (h4 x hx).resolve_left fun z => z e
  rw [List.contains_iff_mem.mpr hm] at this
  cases this
 ·have hj : j < N'.length := (List.getElem?_eq_some_iff.mp e1).1
  have := h7 j hj
  rw [e1, e2] at this
  simp only [Bool.and_eq_true, beq_iff_eq, List.contains_iff_mem] at this
  exact this
section
variable {X : Cx} {x : Str} {pos : Pos} {i : Nat} {e : Expr} {te : TE}
theorem pvc (i : Nat) (hN : X.N[i]? = some x := by rfl) (hv : X.env.scope.names.lookup x = some .cell := by rfl) (hd : (x == ("__debug__" : Str)) = false := by decide) (hcd : (x == ("__classdict__" : Str)) = false := by decide) : PE X (.Name x pos) (tVar i) := nq_ hN (.inr (.inl hv)) hd hcd
theorem hZ_ {pos' : Pos} (hN : X.N.Nodup) (hi : X.N[i]? = some x) (hx : X.env.scope.names.lookup x = some .cell) (hf : X.fn x = true) (he : PE X e te) (hs : swapsWith e (some (.Name x pos')) pos.line X.env = pure false) : PS X (.Assign [.Name x pos'] e pos) (tAsg te (gName i)) :=
 nr_ hN hi (.inr hx) he hs (.inl hf)
theorem h0_ (hN : X.N.Nodup) (hi : X.N[i]? = some x) (hx : X.env.scope.names.lookup x = some .cell) (hf : X.fn x = true) : PG X (.Name x pos) (gName i) := lq_ hN hi (.inr hx) (.inl hf)
end
end L2
namespace L2
open PySem PySem.Spec PyProof.Rows
theorem bm_ {X : Cx} {K : PySem.W.Frag} {tg l : Expr} {tl : TE} (hK : X.K = K) (hl : PE X l tl) : PI X tg l (iList K tl) := hK ▸ n2_ hl
theorem mV_ {X : Cx} {K : PySem.W.Frag} (hK : X.K = K) : IxR X (rIxL K) := hK ▸ lC_
inductive Dt where
 | non | bl (b : Bool) | int (i : Int) | str (x : Str) | tup (xs : List Dt) | lst (xs : List Dt)
mutual
def Rep (H : Hp) : V → Dt → Prop
 | v, .non => v = .non
 | v, .bl b => v = .bl b
 | v, .int i => v = .int i
 | v, .str x => v = .str x
 | v, .tup ds => ∃ p xs, v = .ref p ∧ H p = some (.tup xs) ∧ Reps H xs ds
 | v, .lst ds => ∃ p xs, v = .ref p ∧ H p = some (.lst xs) ∧ Reps H xs ds
def Reps (H : Hp) : List V → List Dt → Prop
 | xs, [] => xs = []
 | xs, d :: ds => ∃ x r, xs = x :: r ∧ Rep H x d ∧ Reps H r ds
end
mutual
theorem Rep.mono {H H' : Hp} (e : Same H H') : ∀ {v : V} (d : Dt), Rep H v d → Rep H' v d
 | v, .non, h => h
 | v, .bl b, h => h
 | v, .int i, h => h
 | v, .str x, h => h
 | v, .tup ds, ⟨p, xs, h1, h2, h3⟩ => ⟨p, xs, h1, e _ _ h2, Reps.mono e ds h3⟩
 | v, .lst ds, ⟨p, xs, h1, h2, h3⟩ => ⟨p, xs, h1, e _ _ h2, Reps.mono e ds h3⟩
theorem Reps.mono {H H' : Hp} (e : Same H H') : ∀ {xs : List V} (ds : List Dt), Reps H xs ds → Reps H' xs ds
 | xs, [], h => h
 | xs, d :: ds, ⟨x, r, h1, h2, h3⟩ => ⟨x, r, h1, Rep.mono e d h2, Reps.mono e ds h3⟩
end
mutual
theorem Rep.inj {H : Hp} : ∀ {v : V} (d e : Dt), Rep H v d → Rep H v e → d = e
 | v, .non, e, h, h' => by
  cases h
  cases e <;> first | rfl | (simp [Rep] at h')
 | v, .bl b, e, h, h' => by
  cases h
  cases e <;> simp [Rep] at h' <;> simp [h']
 | v, .int i, e, h, h' => by
  cases h
  cases e <;> simp [Rep] at h' <;> simp [h']
 | v, .str x, e, h, h' => by
  cases h
  cases e <;> simp [Rep] at h' <;> simp [h']
 | v, .tup ds, e, ⟨p, xs, h1, h2, h3⟩, h' => by
  subst h1
  cases e with
  | tup es =>
   obtain ⟨p', xs', g1, g2, g3⟩ := h'
   cases g1
   rw [h2] at g2
   cases g2
   rw [Reps.inj ds es h3 g3]
  | lst es =>
   obtain ⟨p', xs', g1, g2, g3⟩ := h'
   cases g1
   rw [h2] at g2
   cases g2
  | _ => simp [Rep] at h'
 | v, .lst ds, e, ⟨p, xs, h1, h2, h3⟩, h' => by
  subst h1
  cases e with
  | tup es =>
   obtain ⟨p', xs', g1, g2, g3⟩ := h'
   cases g1
   rw [h2] at g2
   cases g2
  | lst es =>
   obtain ⟨p', xs', g1, g2, g3⟩ := h'
   cases g1
   rw [h2] at g2
   cases g2
   rw [Reps.inj ds es h3 g3]
  | _ => simp [Rep] at h'
theorem Reps.inj {H : Hp} : ∀ {xs : List V} (ds es : List Dt), Reps H xs ds → Reps H xs es → ds = es
 | xs, [], es, h, h' => by
  cases h
  cases es with
  | nil => rfl
  | cons e es => obtain ⟨x, r, g, _⟩ := h'; cases g
 | xs, d :: ds, es, ⟨x, r, h1, h2, h3⟩, h' => by
  subst h1
  cases es with
  | nil => cases h'
  | cons e es =>
   obtain ⟨x', r', g1, g2, g3⟩ := h'
   cases g1
   rw [Rep.inj d e h2 g2, Reps.inj ds es h3 g3]
end
theorem Reps.length {H : Hp} : ∀ {xs : List V} {ds : List Dt}, Reps H xs ds → xs.length = ds.length
 | xs, [], h => by cases h; rfl
 | xs, d :: ds, ⟨x, r, h1, h2, h3⟩ => by subst h1; simp [Reps.length h3]
theorem Reps.get {H : Hp} : ∀ {xs : List V} {ds : List Dt} {i : Nat} {d : Dt}, Reps H xs ds → ds[i]? = some d → ∃ x, xs[i]? = some x ∧ Rep H x d
 | xs, [], i, d, h, e => by simp at e
 | xs, d' :: ds, 0, d, ⟨x, r, h1, h2, h3⟩, e => by
  subst h1
  simp at e
  subst e
  exact ⟨x, rfl, h2⟩
 | xs, d' :: ds, i + 1, d, ⟨x, r, h1, h2, h3⟩, e => by
  subst h1
  obtain ⟨y, hy, hr⟩ := Reps.get (i := i) (d := d) h3 (by simpa using e)
  exact ⟨y, by simpa using hy, hr⟩
theorem Reps.append {H : Hp} : ∀ {xs : List V} {ds : List Dt} {ys : List V} {es : List Dt}, Reps H xs ds → Reps H ys es → Reps H (xs ++ ys) (ds ++ es)
 | xs, [], ys, es, h, g => by cases h; exact g
 | xs, d :: ds, ys, es, ⟨x, r, h1, h2, h3⟩, g => by subst h1; exact ⟨x, r ++ ys, rfl, h2, Reps.append h3 g⟩
mutual
def deq : Dt → Dt → Option Bool
 | .non, .non => some true
 | .bl a, .bl b => some (a == b)
 | .int a, .int b => some (a == b)
 | .str a, .str b => some (a == b)
 | .tup xs, .tup ys => deqs xs ys
 | .lst xs, .lst ys => if xs.length = ys.length then deqs xs ys else some false
 | _, _ => none
def deqs : List Dt → List Dt → Option Bool
 | [], [] => some true
 | x :: xs, y :: ys => match deq x y, deqs xs ys with
  | some a, some b => some (a && b)
  | _, _ => none
 | _, _ => some false
end
mutual
def dep : Dt → Nat
 | .tup ds => deps ds + 1
 | .lst ds => deps ds + 1
 | _ => 0
def deps : List Dt → Nat
 | [] => 0
 | d :: ds => max (dep d) (deps ds)
end
def eAt (ds es : List Dt) (j : Nat) : Bool := match ds[j]?, es[j]? with
 | some d, some e => (deq d e).getD false
 | _, _ => false
theorem bR_ : ∀ (ds es : List Dt) (b : Bool), deqs ds es = some b → ((List.range (min ds.length es.length)).all (eAt ds es) && ds.length == es.length) = b
 | [], [], b, h => by cases h; rfl
 | [], _ :: _, b, h => by cases h; simp
 | _ :: _, [], b, h => by cases h; simp
 | d :: ds, e :: es, b, h => by
  rw [deqs] at h
  cases h1 : deq d e with
  | none => rw [h1] at h; cases h
  | some a =>
   cases h2 : deqs ds es with
   | none => rw [h1, h2] at h; cases h
   | some c =>
    rw [h1, h2] at h
    cases h
    rw [← bR_ ds es c h2]
    simp only [List.length_cons, Nat.succ_min_succ, List.range_succ_eq_map, List.all_cons, List.all_map, Bool.and_assoc]
    congr 1
    ·simp [eAt, h1]
    ·congr 1
     simp
mutual
theorem h1_ : ∀ (d : Dt) (b : Bool), deq d d = some b → b = true
 | .non, b, h => by cases h; rfl
 | .bl a, b, h => by simp [deq] at h; exact h
 | .int a, b, h => by simp [deq] at h; exact h
 | .str a, b, h => by simp [deq] at h; exact h
 | .tup xs, b, h => gQ_ xs b h
 | .lst xs, b, h => by
  rw [deq, if_pos rfl] at h
  exact gQ_ xs b h
theorem gQ_ : ∀ (ds : List Dt) (b : Bool), deqs ds ds = some b → b = true
 | [], b, h => by cases h; rfl
 | d :: ds, b, h => by
  rw [deqs] at h
  cases h1 : deq d d with
  | none => rw [h1] at h; cases h
  | some a =>
   cases h2 : deqs ds ds with
   | none => rw [h1, h2] at h; cases h
   | some c =>
    rw [h1, h2] at h
    cases h
    rw [h1_ d a h1, gQ_ ds c h2]
    rfl
end
def Vw (K : PySem.W.Frag) (H J : Hp) : Prop := (∀ q xs, J q = some (.tup xs) → SqT K H q xs) ∧ ∀ q xs, J q = some (.lst xs) → SqL K H q xs
theorem Vw.refl {K : PySem.W.Frag} {H : Hp} : Vw K H H := ⟨fun _ _ h => .inl (.inl h), fun _ _ h => .inl (.inl h)⟩
section
variable {X : Cx} {pins : List (Addr × Obj)} {σ : St} {H : Hp} {s : Shared}
mutual
theorem lJ_ (I : Inv X pins σ H s) {J : Hp} (hJ : Vw X.K H J) : ∀ (d e : Dt) {A : Around} {x y : V} {u v : Value} {b : Bool}, Rep J x d → Rep J y e → RelV x u → RelV y v → deq d e = some b → A.units + dep d < cLine → SeqAt.EqAt A s u v b
 | .non, e, A, x, y, u, v, b, hx, hy, rx, ry, hb, hu => by
  cases e <;> first | (cases hb; cases hx; cases hy; cases rx; cases ry; exact SeqAt.EqAt.same _) | (simp [deq] at hb)
 | .bl a, e, A, x, y, u, v, b, hx, hy, rx, ry, hb, hu => by
  cases e <;> first | (cases hb; cases hx; cases hy; cases rx; cases ry; exact SeqAt.EqAt.bool_bool _ _) | (simp [deq] at hb)
 | .int a, e, A, x, y, u, v, b, hx, hy, rx, ry, hb, hu => by
  cases e <;> first | (cases hb; cases hx; cases hy; obtain ⟨t, rfl⟩ := rx; obtain ⟨t', rfl⟩ := ry; exact SeqAt.EqAt.int_int _ _ _ _) | (simp [deq] at hb)
 | .str a, e, A, x, y, u, v, b, hx, hy, rx, ry, hb, hu => by
  cases e <;> first | (cases hb; cases hx; cases hy; obtain ⟨t, rfl⟩ := rx; obtain ⟨t', rfl⟩ := ry; exact SeqAt.EqAt.str_str _ _ _ _) | (simp [deq] at hb)
 | .tup ds, e, A, x, y, u, v, b, hx, hy, rx, ry, hb, hu => by
  cases e with
  | tup es =>
   obtain ⟨p, xs, e1, hp, hr⟩ := id hx
   obtain ⟨q, ys, e2, hq, hs⟩ := id hy
   subst e1 e2
   cases rx
   cases ry
   by_cases hpq : p = q
   ·subst hpq
    have := Rep.inj _ _ hx hy
    cases this
    rw [h1_ _ b hb]
    exact SeqAt.EqAt.same _
   ·obtain ⟨its, r1, pl1, _⟩ := I.tuple (hJ.1 _ _ hp)
    obtain ⟨its', r2, pl2, _⟩ := I.tuple (hJ.1 _ _ hq)
    have l1 := r1.length
    have l2 := r2.length
    have g1 := hr.length
    have g2 := hs.length
    have hu' : A.in1.units + deps ds < cLine := by
     have : A.units + (deps ds + 1) < cLine := hu
     rw [PySem.Around.in1_units]; omega
    have hb' : deqs ds es = some b := hb
    rw [← bR_ ds es b hb']
    have := SeqAt.RcAt.tuples (e := eAt ds es) (A := A) (s := s) pl1 pl2 (Nat.lt_of_le_of_lt (Nat.le_add_right _ _) hu) (fun j h1 h2 => by
     have := eU_ I hJ ds es hr hs r1 r2 hb' hu' j (by simpa using h1) (by simpa using h2)
     simpa using this)
    simp only [List.size_toArray, ← l1, ← l2, g1, g2] at this
    exact SeqAt.EqAt.of_refs hpq this
  | _ => simp [deq] at hb
 | .lst ds, e, A, x, y, u, v, b, hx, hy, rx, ry, hb, hu => by
  cases e with
  | lst es =>
   obtain ⟨p, xs, e1, hp, hr⟩ := id hx
   obtain ⟨q, ys, e2, hq, hs⟩ := id hy
   subst e1 e2
   cases rx
   cases ry
   by_cases hpq : p = q
   ·subst hpq
    have := Rep.inj _ _ hx hy
    cases this
    rw [h1_ _ b hb]
    exact SeqAt.EqAt.same _
   ·obtain ⟨its, r1, pl1, _⟩ := I.list (hJ.2 _ _ hp)
    obtain ⟨its', r2, pl2, _⟩ := I.list (hJ.2 _ _ hq)
    have l1 := r1.length
    have l2 := r2.length
    have g1 := hr.length
    have g2 := hs.length
    have hu0 : A.units < cLine := Nat.lt_of_le_of_lt (Nat.le_add_right _ _) hu
    have hu' : A.in1.units + deps ds < cLine := by
     have : A.units + (deps ds + 1) < cLine := hu
     rw [PySem.Around.in1_units]; omega
    rw [deq] at hb
    by_cases hl : ds.length = es.length
    ·rw [if_pos hl] at hb
     rw [← bR_ ds es b hb]
     have := SeqAt.RcAt.lists (e := eAt ds es) (A := A) (s := s) pl1.isList pl2.isList (by simp only [List.size_toArray]; omega) hu0 (fun j h1 h2 => by
      have := eU_ I hJ ds es hr hs r1 r2 hb hu' j (by simpa using h1) (by simpa using h2)
      simpa using this)
     simp only [List.size_toArray, ← l1, g1] at this
     refine SeqAt.EqAt.of_refs hpq ?_
     have e3 : min ds.length es.length = ds.length := by omega
     rw [e3, hl]
     simpa [hl] using this
    ·rw [if_neg hl] at hb
     cases hb
     exact SeqAt.EqAt.of_refs hpq (SeqAt.RcAt.lists_lengths pl1.isList pl2.isList (by simp only [List.size_toArray, bne_iff_ne, ne_eq]; omega) hu0)
  | _ => simp [deq] at hb
theorem eU_ (I : Inv X pins σ H s) {J : Hp} (hJ : Vw X.K H J) : ∀ (ds es : List Dt) {A : Around} {xs ys : List V} {us vs : List Value} {b : Bool}, Reps J xs ds → Reps J ys es → Vals xs us → Vals ys vs → deqs ds es = some b → A.units + deps ds < cLine →
  ∀ (j : Nat) (h1 : j < us.length) (h2 : j < vs.length), SeqAt.EqAt A s us[j] vs[j] (eAt ds es j)
 | [], es, A, xs, ys, us, vs, b, hx, hy, rx, ry, hb, hu, j, h1, h2 => by
  cases hx
  cases rx
  exact absurd h1 (Nat.not_lt_zero _)
 | d :: ds, es, A, xs, ys, us, vs, b, ⟨x, r, e1, hd, hr⟩, hy, rx, ry, hb, hu, j, h1, h2 => by
  subst e1
  cases es with
  | nil =>
   cases hy
   cases ry
   exact absurd h2 (Nat.not_lt_zero _)
  | cons e es =>
   obtain ⟨y, r', e2, he, hs⟩ := hy
   subst e2
   cases rx with
   | cons rx rxs =>
    cases ry with
    | cons ry rys =>
     rw [deqs] at hb
     cases g1 : deq d e with
     | none => rw [g1] at hb; cases hb
     | some a =>
      cases g2 : deqs ds es with
      | none => rw [g1, g2] at hb; cases hb
      | some c =>
       have hm : A.units + max (dep d) (deps ds) < cLine := hu
       cases j with
       | zero =>
        have := lJ_ I hJ d e (A := A) hd he rx ry g1 (by omega)
        simpa [eAt, g1] using this
       | succ j =>
        have := eU_ I hJ ds es (A := A) hr hs rxs rys g2 (by omega) j (by simpa using h1) (by simpa using h2)
        simpa [eAt] using this
end
def rEqV (K : PySem.W.Frag) : R2 := fun x y H Q => ∃ J p q d e b, Vw K H J ∧ x = .ref p ∧ y = .ref q ∧ Rep J x d ∧ Rep J y e ∧ deq d e = some b ∧ dep d ≤ 60 ∧ Q (.bl b) H
theorem oW_ {K : PySem.W.Frag} (hK : X.K = K) (hu : X.A.units + 64 < cLine) : OpR X (compareOp .Eq) (rEqV K) := by
 subst hK
 intro pins s σ H x y v u Q I rx ry h
 obtain ⟨J, p, q, d, e, b, hJ, e1, e2, hx, hy, hb, hd, k⟩ := h
 subst e1 e2
 cases rx
 cases ry
 have fin : EP X pins σ Q (.bool b) s := ⟨.bl b, H, I, rfl, k⟩
 cases d with
 | tup ds =>
  cases e with
  | tup es =>
   obtain ⟨_, xs, z, hp, hr⟩ := hx
   cases z
   obtain ⟨_, ys, z, hq, hs⟩ := hy
   cases z
   obtain ⟨its, r1, pl1, _⟩ := I.tuple (hJ.1 _ _ hp)
   obtain ⟨its', r2, pl2, _⟩ := I.tuple (hJ.1 _ _ hq)
   have l1 := r1.length
   have l2 := r2.length
   have g1 := hr.length
   have g2 := hs.length
   have hd' : deps ds + 1 ≤ 60 := hd
   have hu' : X.A.in1.units + deps ds < cLine := by rw [PySem.Around.in1_units]; omega
   have hb' : deqs ds es = some b := hb
   refine SeqAt.eq_tupleAt (e := eAt ds es) pl1 pl2 (by omega) (fun j h1 h2 => by
    have := eU_ I hJ ds es hr hs r1 r2 hb' hu' j (by simpa using h1) (by simpa using h2)
    simpa using this) ?_
   simp only [List.size_toArray, ← l1, ← l2, g1, g2]
   rw [bR_ ds es b hb']
   exact fin
  | _ => simp [deq] at hb
 | lst ds =>
  cases e with
  | lst es =>
   obtain ⟨_, xs, z, hp, hr⟩ := hx
   cases z
   obtain ⟨_, ys, z, hq, hs⟩ := hy
   cases z
   obtain ⟨its, r1, pl1, _⟩ := I.list (hJ.2 _ _ hp)
   obtain ⟨its', r2, pl2, _⟩ := I.list (hJ.2 _ _ hq)
   have l1 := r1.length
   have l2 := r2.length
   have g1 := hr.length
   have g2 := hs.length
   have hd' : deps ds + 1 ≤ 60 := hd
   have hu' : X.A.in1.units + deps ds < cLine := by rw [PySem.Around.in1_units]; omega
   rw [deq] at hb
   by_cases hl : ds.length = es.length
   ·rw [if_pos hl] at hb
    refine SeqAt.eq_listAt (e := eAt ds es) pl1.isList pl2.isList (by simp only [List.size_toArray]; omega) (by omega) (fun j h1 h2 => by
     have := eU_ I hJ ds es hr hs r1 r2 hb hu' j (by simpa using h1) (by simpa using h2)
     simpa using this) ?_
    have e3 := bR_ ds es b hb
    have e4 : min ds.length es.length = ds.length := by omega
    rw [e4, hl] at e3
    simp only [beq_self_eq_true, Bool.and_true] at e3
    simp only [List.size_toArray, ← l1, g1, hl, e3]
    exact fin
   ·rw [if_neg hl] at hb
    cases hb
    exact SeqAt.eq_list_lengthsAt pl1.isList pl2.isList (by simp only [List.size_toArray, bne_iff_ne, ne_eq]; omega) (by omega) fin
  | _ => simp [deq] at hb
 | _ => simp [Rep] at hx
def rEqD : R2 := fun x y H Q => ∃ p q d e b, x = .ref p ∧ y = .ref q ∧ Rep H x d ∧ Rep H y e ∧ deq d e = some b ∧ dep d ≤ 60 ∧ Q (.bl b) H
theorem lK_ (hu : X.A.units + 64 < cLine) : OpR X (compareOp .Eq) rEqD := fun pins s σ H x y v u Q I rx ry ⟨p, q, d, e, b, h⟩ => oW_ rfl hu pins s σ H x y v u Q I rx ry ⟨H, p, q, d, e, b, Vw.refl, h⟩
def rNeV (K : PySem.W.Frag) : R2 := fun x y H Q => ∃ J p q d e b, Vw K H J ∧ x = .ref p ∧ y = .ref q ∧ Rep J x d ∧ Rep J y e ∧ deq d e = some b ∧ dep d ≤ 60 ∧ Q (.bl (!b)) H
theorem oX_ {K : PySem.W.Frag} (hK : X.K = K) (hu : X.A.units + 64 < cLine) : OpR X (compareOp .NotEq) (rNeV K) := by
 subst hK
 intro pins s σ H x y v u Q I rx ry h
 obtain ⟨J, p, q, d, e, b, hJ, e1, e2, hx, hy, hb, hd, k⟩ := h
 subst e1 e2
 cases rx
 cases ry
 have fin : EP X pins σ Q (.bool (!b)) s := ⟨.bl (!b), H, I, rfl, k⟩
 cases d with
 | tup ds =>
  cases e with
  | tup es =>
   obtain ⟨_, xs, z, hp, hr⟩ := hx
   cases z
   obtain ⟨_, ys, z, hq, hs⟩ := hy
   cases z
   obtain ⟨its, r1, pl1, _⟩ := I.tuple (hJ.1 _ _ hp)
   obtain ⟨its', r2, pl2, _⟩ := I.tuple (hJ.1 _ _ hq)
   have l1 := r1.length
   have l2 := r2.length
   have g1 := hr.length
   have g2 := hs.length
   have hd' : deps ds + 1 ≤ 60 := hd
   have hu' : X.A.in1.units + deps ds < cLine := by rw [PySem.Around.in1_units]; omega
   have hb' : deqs ds es = some b := hb
   refine SeqAt.RcNeAt.tuples (e := eAt ds es) pl1 pl2 (by omega) (fun j h1 h2 => by
    have := eU_ I hJ ds es hr hs r1 r2 hb' hu' j (by simpa using h1) (by simpa using h2)
    simpa using this) _ _ _ _ ?_
   simp only [List.size_toArray, ← l1, ← l2, g1, g2]
   rw [bR_ ds es b hb']
   exact fin
  | _ => simp [deq] at hb
 | lst ds =>
  cases e with
  | lst es =>
   obtain ⟨_, xs, z, hp, hr⟩ := hx
   cases z
   obtain ⟨_, ys, z, hq, hs⟩ := hy
   cases z
   obtain ⟨its, r1, pl1, _⟩ := I.list (hJ.2 _ _ hp)
   obtain ⟨its', r2, pl2, _⟩ := I.list (hJ.2 _ _ hq)
   have l1 := r1.length
   have l2 := r2.length
   have g1 := hr.length
   have g2 := hs.length
   have hd' : deps ds + 1 ≤ 60 := hd
   have hu' : X.A.in1.units + deps ds < cLine := by rw [PySem.Around.in1_units]; omega
   rw [deq] at hb
   by_cases hl : ds.length = es.length
   ·rw [if_pos hl] at hb
    refine SeqAt.RcNeAt.lists (e := eAt ds es) pl1.isList pl2.isList (by simp only [List.size_toArray]; omega) (by omega) (fun j h1 h2 => by
     have := eU_ I hJ ds es hr hs r1 r2 hb hu' j (by simpa using h1) (by simpa using h2)
     simpa using this) _ _ _ _ ?_
    have e3 := bR_ ds es b hb
    have e4 : min ds.length es.length = ds.length := by omega
    rw [e4, hl] at e3
    simp only [beq_self_eq_true, Bool.and_true] at e3
    simp only [List.size_toArray, ← l1, g1, hl, e3]
    exact fin
   ·rw [if_neg hl] at hb
    cases hb
    exact SeqAt.RcNeAt.lists_lengths pl1.isList pl2.isList (by simp only [List.size_toArray, bne_iff_ne, ne_eq]; omega) (by omega) _ _ _ _ fin
  | _ => simp [deq] at hb
 | _ => simp [Rep] at hx
def rNeD : R2 := fun x y H Q => ∃ p q d e b, x = .ref p ∧ y = .ref q ∧ Rep H x d ∧ Rep H y e ∧ deq d e = some b ∧ dep d ≤ 60 ∧ Q (.bl (!b)) H
theorem gR_ (hu : X.A.units + 64 < cLine) : OpR X (compareOp .NotEq) rNeD := fun pins s σ H x y v u Q I rx ry ⟨p, q, d, e, b, h⟩ => oX_ rfl hu pins s σ H x y v u Q I rx ry ⟨H, p, q, d, e, b, Vw.refl, h⟩
end
end L2
namespace L2
open PySem PySem.Spec PyProof.Rows
section
variable {X : Cx} {pins : List (Addr × Obj)} {σ : St} {H : Hp} {s : Shared} {h' : Heap}
end
def Itz (K : PySem.W.Frag) (a b : Addr) : It :=
  ⟨fun i H => ∃ xs ys x y, SqL K H a xs ∧ SqL K H b ys ∧ xs[i]? = some x ∧ ys[i]? = some y,
   fun i H v H' => ∃ T x y, v = .ref T ∧ H T = none ∧ H' = upd H T (.tup [x, y]) ∧ (∀ xs, SqL K H a xs → xs[i]? = some x) ∧ (∀ ys, SqL K H b ys → ys[i]? = some y),
   fun i H => ∃ xs ys, SqL K H a xs ∧ SqL K H b ys ∧ (xs.length ≤ i ∨ ys.length ≤ i)⟩
def iZip (K : PySem.W.Frag) (ta : TA) : TI := fun σ H R => ta σ H fun vs H1 => ∃ a b, vs = [.ref a, .ref b] ∧ (∃ xs, SqL K H1 a xs) ∧ (∃ ys, SqL K H1 b ys) ∧ R (Itz K a b) H1
section
variable {X : Cx} {elts : List Expr} {kt : Nat} {tpos : Pos}
end
def rSum (K : PySem.W.Frag) : List V → Hp → VK → Prop := fun xs H Q => ∃ (p : Addr) (ns : List Int), xs = [V.ref p] ∧ SqL K H p (ns.map V.int) ∧ Q (.int ns.sum) H
def rListH : List V → Hp → VK → Prop := fun xs H Q => ∃ p ys, xs = [V.ref p] ∧ (H p = some (.lst ys) ∨ H p = some (.tup ys)) ∧ ∀ l, H l = none → Q (.ref l) (upd H l (.lst ys))
theorem dA_ {X : Cx} {x : Str} {e : Expr} {es : List Expr} {t : TA} {p pos : Pos} {n : String} {r : List V → Hp → VK → Prop} (hc : CallR X (.type n) r) (hg : Gl X x) (hm : X.mg x = none) (hv : bootBuiltins x = some (.type n)) (ha : PA X (e :: es) t) (hs : plainArgs (e :: es) = true := by rfl) (hn : x ≠ "__name__" := by decide) (hdb : (x == ("__debug__" : Str)) = false := by decide) :
  PE X (.Call (.Name x p) (e :: es) [] pos) (tCB r t) :=
 have h' : notStar e = true ∧ plainArgs es = true := by simpa [plainArgs] using hs
 lA_ hc hg hm hv ha hn hdb (aq_ h'.1) (bp_ h'.2)
end L2
namespace L2
open PySem PySem.Spec PyProof.Rows
def newH (B H : Hp) : Hp := fun b => match B b with | some _ => none | none => H b
def cutH (B : Hp) (D : Addr) (H : Hp) : Hp := fun b => if b = D then none else newH B H b
theorem aJ_ {B H : Hp} {b : Addr} {o : HO} (h : newH B H b = some o) : B b = none ∧ H b = some o := by
 unfold newH at h
 cases e : B b with
 | some z => rw [e] at h; cases h
 | none => rw [e] at h; exact ⟨rfl, h⟩
theorem ck_ {B H : Hp} {b : Addr} (h : B b = none) : newH B H b = H b := by
 unfold newH
 rw [h]
theorem jA_ {B H : Hp} {D b : Addr} {o : HO} (h : cutH B D H b = some o) : b ≠ D ∧ B b = none ∧ H b = some o := by
 unfold cutH at h
 by_cases e : b = D
 ·rw [if_pos e] at h; cases h
 ·rw [if_neg e] at h; exact ⟨e, aJ_ h⟩
theorem eb_ {B H : Hp} {D b : Addr} (e : b ≠ D) (h : B b = none) : cutH B D H b = H b := by
 unfold cutH
 rw [if_neg e, ck_ h]
theorem gS_ {B H : Hp} : Same (newH B H) H := fun b o h => (aJ_ h).2
theorem ks_ {B H : Hp} {D : Addr} : Same (cutH B D H) (newH B H) := fun b o h => by
 obtain ⟨h1, h2, h3⟩ := jA_ h
 rw [ck_ h2]; exact h3
theorem gT_ {B H H' : Hp} {D : Addr} (e : Same H H') : Same (cutH B D H) (cutH B D H') := fun b o h => by
 obtain ⟨h1, h2, h3⟩ := jA_ h
 rw [eb_ h1 h2]; exact e _ _ h3
theorem gU_ {B H H' : Hp} (e : Same H H') : Same (newH B H) (newH B H') := fun b o h => by
 obtain ⟨h1, h2⟩ := aJ_ h
 rw [ck_ h1]; exact e _ _ h2
theorem kt_ {B H : Hp} {D : Addr} {o : HO} : cutH B D (upd H D o) = cutH B D H := by
 funext b
 unfold cutH newH
 by_cases e : b = D
 ·rw [if_pos e, if_pos e]
 ·rw [if_neg e, if_neg e, ai_ e]
theorem b1_ {J : It} {g : TG} {te : TE} {σ : St} {H : Hp} {Q : VK} (n : Nat) (B : Hp) (Pσ : St → Prop) (ds : List Dt) (hB : Same B H) (h0 : Pσ σ) (hlen : ds.length = n) (hz : n ≤ 1000)
  (hgo : ∀ i H', i < n → Same H H' → J.go i H') (hst : ∀ H', Same H H' → J.stop n H')
  (hs : ∀ D i x d σ' H' H'', H D = none → (∃ o, H' D = some o) → Same H H' → i < n → ds[i]? = some d → J.yld i H' x H'' → Pσ σ' → ∀ R : St → V → Hp → Prop,
   (∀ σ2 v H3, Pσ σ2 → Same H' H3 → Rep (cutH B D H3) v d → R σ2 v H3) → g x σ' H'' fun σ2 H2 => te σ2 H2 fun v H3 => R σ2 v H3)
  (hd : ∀ D H', H D = none → Same H H' → Rep (newH B H') (.ref D) (.lst ds) → Q (.ref D) H') : CompGo J g tYes te σ H Q := by
 intro D hD
 have hBD : B D = none := hB.free hD
 refine ⟨fun i m σ' H' => m = n - i ∧ i ≤ n ∧ Pσ σ' ∧ Same H H' ∧ ∃ ys, H' D = some (.lst ys) ∧ Reps (cutH B D H') ys (ds.take i) ∧ ys.length = i, ⟨n, by simp, Nat.zero_le _, h0, Same.new hD, [], ad_, rfl, rfl⟩, ?_⟩
 rintro i m σ' H' ⟨rfl, hi, hp, hs', ys, hys, hr, hl⟩
 by_cases hlt : i < n
 ·refine .inr ⟨hgo i H' hlt hs', fun σ2 H2 => Pσ σ2 ∧ Same H H2 ∧ ∃ ys, H2 D = some (.lst ys) ∧ Reps (cutH B D H2) ys (ds.take (i + 1)) ∧ ys.length = i + 1, fun σ2 H2 ⟨a, b, c⟩ => ⟨n - (i + 1), by omega, rfl, hlt, a, b, c⟩, fun x H'' hy => ?_⟩
  have hdi : ds[i]? = some ds[i] := by simp [hlen, hlt]
  simp only [tYes, if_true]
  refine hs D i x ds[i] σ' H' H'' hD ⟨_, hys⟩ hs' hlt hdi hy hp _ fun σ2 v H3 hp2 s3 hv => ?_
  refine ⟨ys, s3 _ _ hys, by rw [hl]; exact small1000 (by omega), hp2, (hs'.trans s3).upd hD, ys ++ [v], ad_, ?_, by simp [hl]⟩
  rw [kt_]
  have e : ds.take (i + 1) = ds.take i ++ [ds[i]] := by rw [List.take_succ, hdi]; rfl
  rw [e]
  exact (Reps.mono (gT_ s3) _ hr).append ⟨v, [], rfl, hv, rfl⟩
 ·have e : i = n := by omega
  subst e
  refine .inl ⟨hst H' hs', hd D H' hD hs' ⟨D, ys, rfl, ?_, ?_⟩⟩
  ·rw [ck_ hBD]; exact hys
  ·rw [List.take_of_length_le (by omega)] at hr
   exact Reps.mono ks_ _ hr
theorem Reps.of_get {H : Hp} {xs : List V} {ds : List Dt} {i : Nat} {x : V} (h : Reps H xs ds) (e : xs[i]? = some x) : ∃ d, ds[i]? = some d ∧ Rep H x d := by
 have hi : i < xs.length := (List.getElem?_eq_some_iff.mp e).1
 have hi' : i < ds.length := by rw [← h.length]; exact hi
 obtain ⟨y, hy, hr⟩ := h.get (i := i) (d := ds[i]) (by simp [hi'])
 rw [e] at hy
 cases hy
 exact ⟨ds[i], by simp [hi'], hr⟩
theorem bS_ {X : Cx} {K : PySem.W.Frag} {es : List Expr} {k : Nat} {t : TGs} {n : Nat} {pos : Pos} (hK : X.K = K) (hc : X.calm = true) (h : PGs X es t)
  (hn : (assignEach es X.env).length = n := by rfl) (hst : (assignEach es X.env).findIdx? (·.1) = none := by rfl) : PG X (.Tuple es k pos) (gTup K n t) := hK ▸ oO_ hc h hn hst
end L2
namespace L2
open PySem PySem.Spec PyProof.Rows
def CXR (P : Program) (w : World) : CXT := fun outer H s E e s' =>
 ∃ (ea : Addr) (C a0 : Value) (B : Heap) (H' : Hp), e = .ref ea ∧ s'.os = s.os ∧ AllBare s'.gens ∧ Un (frs outer) [] H H' s.heap s'.heap ∧ HOk P w H' s'.heap ∧
  Heap.FlyingW B outer ea C a0 s'.heap ∧ s.heap.get? ea = none ∧ (∀ b o, s.heap.get? b = some o → b ∉ frs outer → ∃ u, B.get? b = some u) ∧ (∀ b o, H' b = some o → ∃ u, B.get? b = some u) ∧ E C none H'
theorem ObjOk.obj {P : Program} {w : World} {H : Hp} {h : Heap} {a : Addr} {o : HO} (x : ObjOk P w H h a o) : ∃ u, h.get? a = some u := by
 cases o with
 | lst xs => obtain ⟨_, _, _, _, e⟩ := x; exact ⟨_, e⟩
 | tup xs => obtain ⟨_, _, _, ob, e, _⟩ := x; exact ⟨_, e⟩
 | dK kvs => obtain ⟨_, _, _, _, o, _, _, e, _⟩ := x; exact ⟨_, e⟩
 | dT kvs => obtain ⟨_, _, _, _, o, _, _, e, _⟩ := x; exact ⟨_, e⟩
 | set S n => obtain ⟨o, _, _, _, e, _⟩ := x; exact ⟨_, e⟩
 | ins C dx fs => obtain ⟨_, _, _, e, _⟩ := x; exact ⟨_, e⟩
 | own y => exact x
 | xd fs => obtain ⟨_, ⟨_, _, _, e, _⟩, _⟩ := x; exact ⟨_, e⟩
 | rng lo hi => obtain ⟨_, _, _, e⟩ := x; exact ⟨_, e⟩
 | frz ob u => obtain ⟨e, _⟩ := x; exact ⟨_, e⟩
 | tbl ps => exact ⟨_, show h.get? a = some _ from x⟩
 | met f y => exact ⟨_, show h.get? a = some _ from x⟩
 | ext φ => obtain ⟨_, e, _⟩ := x; exact e
theorem gu_ {P : Program} {w : World} {l : List Env} {H H' : Hp} {h h1 h2 B : Heap} (u : Un (frs l) [] H H' h h1) (hok : HOk P w H' h1) (s1 : B.StaysIn h1) (s2 : B.StaysIn h2) (ff : h1.FunFrames B l) (sm : h1.UpToSlots h2)
  (b1 : ∀ b o, h.get? b = some o → b ∉ frs l → ∃ u, B.get? b = some u) (b2 : ∀ b o, H' b = some o → ∃ u, B.get? b = some u) : Un (frs l) [] H H' h h2 ∧ HOk P w H' h2 := by
 have same : ∀ {b o}, (∃ v, B.get? b = some v) → h1.get? b = some o → h2.get? b = some o := fun {b o} ⟨v, e⟩ q => by
  have := s1 b v e
  rw [q] at this
  cases this
  exact s2 b _ e
 refine ⟨⟨fun b o q n hb hx => same (b1 b o q hb) (u.keep b o q n hb hx), fun b o q n hb hx => ?_, u.free, fun b o q hx => ?_, u.tups, u.frzs, u.tbls⟩, fun a o e => ?_⟩
 ·obtain ⟨sl, e⟩ := u.slot b o q n hb hx
  obtain ⟨_, ob, e2, nf⟩ := ff.mem hb
  rw [e] at e2
  cases e2
  obtain ⟨sl', e3⟩ := sm b _ e nf
  exact ⟨sl', e3⟩
 ·by_cases hb : b ∈ frs l
  ·obtain ⟨_, ob, e2, nf⟩ := ff.mem hb
   obtain ⟨sl', e3⟩ := sm b _ e2 nf
   exact ⟨_, e3⟩
  ·obtain ⟨v, e⟩ := b1 b o q hb
   exact ⟨v, s2 b v e⟩
 ·refine (hok a o e).stay (fun b v hb q => same ?_ q) (fun _ q => q) fun _ _ q => q
  rcases hb with rfl | hb
  ·exact b2 _ _ e
  ·exact b2 _ _ hb
structure ExC (K : PySem.W.Frag) (C : Addr) : Prop where
 obj : ∀ {h : Heap}, K.In h → ∃ bm N nm q bs hdct sn sub ab col dd k0 k1 k2 k3 k5 mN, h.get? C = some (excClassObj nm q C N bs bm hdct sn sub ab col dd k0 k1 k2 k3 k5 "ValueError.__new__") ∧ h.Ns N mN ∧ mN "__init__" = none ∧
  OwnTail h [.type "ValueError", .type "Exception", .type "BaseException", .type "object"] bm
theorem oY_ {K : PySem.W.Frag} {C : Addr} (q : PySem.W.excIn K C [.type "ValueError", .type "Exception", .type "BaseException", .type "object"] "ValueError.__new__" = true) : ExC K C := by
 refine ⟨fun {h} XI => ?_⟩
 unfold PySem.W.excIn at q
 split at q
 ·rename_i dd cd sl ho
  split at q
  ·rename_i C' bm k0 k1 k2 k3 n k5 hm hs
   simp only [Bool.and_eq_true, beq_iff_eq, Bool.not_eq_true'] at q
   obtain ⟨⟨⟨⟨⟨q1, q2⟩, q3⟩, q4⟩, q5⟩, q6⟩ := q
   subst q1 q2
   obtain ⟨nm, bs, mro, ns, qn, hd, sn, sub, ab, col, del⟩ := cd
   dsimp only at hm q3 q5 q6
   subst hm q3
   have hsl : sl = #[k0, k1, k2, k3, some (.builtin "ValueError.__new__"), k5] := by
    obtain ⟨l⟩ := sl
    exact congrArg Array.mk hs
   subst hsl
   exact ⟨bm, ns, nm, qn, bs, hd, sn, sub, ab, col, dd, k0, k1, k2, k3, k5, _, XI _ _ ho, .of_isNs (PySem.W.isNs_of_in XI q5), PySem.W.nsMap_none_of_in XI q5 q6, PySem.W.tail_of_in XI q4⟩
  ·cases q
 ·cases q
theorem jB_ {M : Model} {A : Around} {EE : Value → Shared → Prop} {s : Shared} {env : Env} {fv : Value} {e₀ : Expr} {rest : List Expr} {cpos : Pos} {Q : Args → Shared → Prop} (he : starEach (e₀ :: rest) env = (false, eval e₀ env) :: starEach rest env)
  (h : wpAny M A (spliced (backTo cpos (starEach (e₀ :: rest) env))) (fun vs s' => Q ⟨vs, []⟩ s') EE s) : wpAny M A (evalArgs fv true (backTo cpos (starEach (e₀ :: rest) env)) []) Q EE s := by
 rw [he] at h ⊢
 exact Calls.evalArgs_plain h
def tRaise (C : Addr) (E : XK) (ta : TA) : TS := fun _ σ H => ta σ H fun vs H1 => vs.length ≤ sizeLine ∧ E (.ref C) none H1
section
variable {P : Program} {w : World} {K : PySem.W.Frag} {mg : Str → Option Value} {base : Heap} {N : List Str} {qual : Str} {scope : Scope} {f : Addr} {cd : Value} {A : Around} {outer : List Env} {s₀ : Shared} {H₀ : Hp} {E : XK}
theorem ey_ {x : Str} {C : Addr} {np cpos pos : Pos} {e₀ : Expr} {rest : List Expr} {ta : TA} (OC : ExC K C) (hm : mg x = some (.ref C)) (hh : A.handled = none) (hg : Gl (cxOf (CXR P w) P w K mg base N qual scope f cd A outer s₀ H₀ E) x)
  (ha : PA (cxOf (CXR P w) P w K mg base N qual scope f cd A outer s₀ H₀ E) (e₀ :: rest) ta) (hd : (x == ("__debug__" : Str)) = false := by decide)
  (he : starEach (e₀ :: rest) (envOfC qual scope s₀.heap.objs.size f cd) = (false, eval e₀ (envOfC qual scope s₀.heap.objs.size f cd)) :: starEach rest (envOfC qual scope s₀.heap.objs.size f cd) := by rfl)
  (hpl : (backTo cpos (starEach rest (envOfC qual scope s₀.heap.objs.size f cd))).any (·.1) = false := by rfl) :
  PS (cxOf (CXR P w) P w K mg base N qual scope f cd A outer s₀ H₀ E) (.Raise (some (.Call (.Name x np) (e₀ :: rest) [] cpos)) none pos) (tRaise C E ta) := by
 intro pins s σ H D I h
 obtain ⟨bm, Nn, nm, q, bs, hdct, sn, sub, ab, col, dd, k0, k1, k2, k3, k5, mN, hC, hN, hni, TL⟩ := OC.obj I.mod.kin
 refine wpAny_Raise_call_subT (C := C) (nm := nm) (q := q) (N := Nn) (bs := bs) (bm := bm) (hdct := hdct) (sn := sn) (sub := sub) (ab := ab) (col := col) (dd := dd) (k0 := k0) (k1 := k1) (k2 := k2) (k3 := k3) (k5 := k5)
  F.excBase_ValueError (mN := mN) (TL.hasType F.excBase_ValueError.hasBase) hh ?_ hni (gH_ I hg hm ⟨rfl, ?_⟩ hd)
 ·show (backTo cpos (starEach (e₀ :: rest) (envOfC qual scope s₀.heap.objs.size f cd))).any (·.1) = false
  rw [he]
  exact hpl
 have z := ha cpos pins s σ H _ I h
 refine jB_ he (thn z fun us s2 ⟨vs, H1, I1, r, hz, hE⟩ => ⟨rfl, by rw [← r.length]; exact hz, I1.bk _ _ hC, hN.keeps I1.bk, TL.keeps I1.bk, fun h' e hx => ?_⟩)
 have hin : ∀ env ∈ (envOfC qual scope s₀.heap.objs.size f cd :: outer), ∀ b, env.frame = some b → b ∈ frs (envOfC qual scope s₀.heap.objs.size f cd :: outer) := fun env he b hb => List.mem_filterMap.mpr ⟨env, he, hb⟩
 have stk : s2.heap.FunFrames base (envOfC qual scope s₀.heap.objs.size f cd :: outer) := I1.stack
 have hl := PySem.W.funFrames_hide stk hin
 refine wpAny_leaves_madeW (base := PySem.W.hideAll s2.heap (frs (envOfC qual scope s₀.heap.objs.size f cd :: outer))) I1.ok.frames rfl (fun b o q => PySem.W.of_hideAll _ q) hl hx fun h'' t x1 x2 x3 x4 => ?_
 have b2 : ∀ b o, H1 b = some o → ∃ u, (PySem.W.hideAll s2.heap (frs (envOfC qual scope s₀.heap.objs.size f cd :: outer))).get? b = some u := fun b o e => by
  obtain ⟨u, hu⟩ := (I1.hok b o e).obj
  refine ⟨u, PySem.W.hideAll_get _ hu fun z => ?_⟩
  rw [I1.stkFree b z] at e
  cases e
 have b1 : ∀ b o, s₀.heap.get? b = some o → b ∉ frs outer → ∃ u, (PySem.W.hideAll s2.heap (frs (envOfC qual scope s₀.heap.objs.size f cd :: outer))).get? b = some u := fun b o e nb => by
  obtain ⟨u, hu⟩ := I1.base.there b o e (fun z => nomatch z)
  refine ⟨u, PySem.W.hideAll_get _ hu fun z => ?_⟩
  rcases List.mem_cons.mp (I1.stkSub b z) with z | z
  ·exact absurd z (Nat.ne_of_lt (Nat.lt_of_lt_of_le (Heap.lt_size e) I1.ok.above))
  ·exact nb z
 obtain ⟨un, ok⟩ := gu_ (l := outer) I1.base I1.hok (fun b o q => PySem.W.of_hideAll _ q) x1.1 hl.2.2 ((Heap.UpToSlots.of_keeps hx.keeps).trans x4) b1 b2
 refine ⟨e, .ref C, .ref t, _, H1, rfl, I1.os, I1.bare, un, ok, x1, ?_, b1, b2, hE⟩
 cases q : s₀.heap.get? e with
 | none => rfl
 | some o =>
  obtain ⟨u, hu⟩ := I1.base.there e o q (fun z => nomatch z)
  rw [hx.new] at hu
  cases hu
theorem passR : Passes (CXR P w) (cxOf (CXR P w) P w K mg base N qual scope f cd A outer s₀ H₀ E) E := by
 intro pins σ H s e s' I ⟨ea, C, a0, B, H', e0, os, bare, un, hok, fl, new, b1, b2, hE⟩
 subst e0
 refine wpAny_leaves_onW (base := B) I.ok.frames rfl fl fun h'' x1 x2 => ?_
 obtain ⟨un2, ok2⟩ := gu_ (l := envOfC qual scope s₀.heap.objs.size f cd :: outer) un hok fl.1 x1.1 fl.2.2.1 x2 b1 b2
 have J := I.call (h' := h'') (g' := s'.gens) (d' := s'.drawn) (t' := s'.toks) (ch := []) un2 ok2 bare (fun b z => nomatch z)
 refine ⟨ea, C, a0, B, H', rfl, os.trans I.os, bare, J.base, ok2, x1, ?_, fun b o e nb => ?_, b2, hE⟩
 ·cases q : s₀.heap.get? ea with
  | none => rfl
  | some o =>
   obtain ⟨u, hu⟩ := I.base.there ea o q (fun z => nomatch z)
   rw [new] at hu
   cases hu
 ·obtain ⟨u, hu⟩ := I.base.there b o e (fun z => nomatch z)
  refine b1 b u hu fun z => ?_
  rcases List.mem_cons.mp (I.stkSub b z) with z | z
  ·exact absurd z (Nat.ne_of_lt (Nat.lt_of_lt_of_le (Heap.lt_size e) I.ok.above))
  ·exact nb z
end
def CalR (P : Program) (w : World) (K : PySem.W.Frag) (mg : Str → Option Value) (base : Heap) (x : Str) (ps : List Str) (k : Nat) (sp : Sp) : Prop :=
 ∃ f fd, mg x = some (.ref f) ∧ PySem.W.keepIn K (.ref f) = true ∧ Binds K fd ps [] ∧ FnOk P w K mg base (CXR P w) k f fd ps sp
theorem gV_ {P : Program} {w : World} {K : PySem.W.Frag} {mg : Str → Option Value} {base : Heap} {x : Str} {st : Stmt} {N ps : List Str} {k : Nat} {sp : Sp} (F : Fn0 K mg x st) (S : FnScope N ps (defScope st))
  (hb : ∀ (kV doc pm : Value) (an : Option Addr) (cdv ct : Value) (us : List Value), us.length = ps.length → bindArgs (PySem.W.fnOf x x (defArgs st) (defBody st) (defScope st) .none kV doc pm an cdv ct) ⟨us, []⟩ = pure (ps.zip us))
  (len : ∀ vs H Q E, sp vs H Q E → vs.length = ps.length)
  (hbody : ∀ (f : Addr) (cdv : Value) (A : Around) (outer : List Env) (s : Shared) (H : Hp) (vs : List V) (Q : VK) (E : XK), Room k (A.deeper (envOfC x (defScope st) s.heap.objs.size f cdv)) → sp vs H Q E →
   ∃ t, PSs (cxOf (CXR P w) P w K mg base N x (defScope st) f cdv A outer s H E) (defBody st) t ∧ t { nx := fun _ H' => Q .non H', rt := Q } (start N vs) H) : CalR P w K mg base x ps (k + 1) sp := by
 obtain ⟨f, fd, F, m⟩ := F
 refine ⟨f, fd, m, F.kp, F.binds hb, ?_⟩
 obtain ⟨oc, od, kV, doc, pm, an, cdv, ct, osl, rfl, lk, hcd⟩ := F.ex
 exact fn_of lk hcd S len fun A outer s H vs Q E hr hsp => hbody f cdv A outer s H vs Q E hr hsp
abbrev Cx.suite (X : Cx) (e : Value) : Cx := { X with A := X.A.mark (some e), calm := false, xe := fun _ _ => False }
section
variable {X : Cx} {pins : List (Addr × Obj)} {σ : List (Option V)} {H : Hp} {s : Shared}
theorem Inv.suite (I : Inv X pins σ H s) (e : Value) : Inv (X.suite e) pins σ H s :=
 ⟨⟨I.ok.mod, I.ok.kind, I.ok.glob, I.ok.blt, I.ok.above, I.ok.inj, I.ok.has, I.ok.cab, (fun z => nomatch z), I.ok.frames, I.ok.stk, I.ok.exf, I.ok.bs, I.ok.bsz, I.ok.noex, I.ok.exfs, I.ok.funs, I.ok.frf⟩, I.os, I.bare, I.base, I.loc, I.cell, I.free, I.freeC, I.pin, I.hok, I.len⟩
theorem Inv.unsuite {e : Value} (J : Inv (X.suite e) pins σ H s) (ok : X.Ok) : Inv X pins σ H s := ⟨ok, J.os, J.bare, J.base, J.loc, J.cell, J.free, J.freeC, J.pin, J.hok, J.len⟩
def exO (C : Value) (a : Addr) : HO := .ext fun h => ∃ o, h.get? a = some o ∧ o.cls = C
theorem oZ_ {P : Program} {w : World} {fs : List Addr} {H H' : Hp} {h h2 : Heap} {ea : Addr} {C : Value} (u : Un fs [] H H' h h2) (hok : HOk P w H' h2) (new : h.get? ea = none) (hn : H' ea = none) (hob : ∃ o, h2.get? ea = some o ∧ o.cls = C) :
  Un fs [] H (upd H' ea (exO C ea)) h h2 ∧ HOk P w (upd H' ea (exO C ea)) h2 := by
 have ne : ∀ {b o}, H' b = some o → b ≠ ea := fun {b o} q z => by rw [z, hn] at q; cases q
 have ne' : ∀ {b o}, h.get? b = some o → b ≠ ea := fun {b o} q z => by rw [z, new] at q; cases q
 refine ⟨⟨u.keep, u.slot, fun b o q n hx => ?_, u.there, fun b xs q => ?_, fun b o v q => ?_, fun b ps q => ?_⟩, fun b o q => ?_⟩
 ·rw [ai_ (ne' q)]; exact u.free b o q n hx
 ·have z := u.tups b xs q
  rw [ai_ (ne z)]; exact z
 ·have z := u.frzs b o v q
  rw [ai_ (ne z)]; exact z
 ·obtain ⟨m, z⟩ := u.tbls b ps q
  exact ⟨m, by rw [ai_ (ne z)]; exact z⟩
 ·by_cases e : b = ea
  ·subst e
   rw [ad_] at q
   cases q
   obtain ⟨ob, e1, e2⟩ := hob
   exact ⟨⟨ob, e1, e2⟩, ⟨ob, e1⟩, fun h1 h2 ⟨o, a, c⟩ k => ⟨o, k o a, c⟩⟩
  ·rw [ai_ e] at q
   exact (hok b o q).stay (fun _ _ _ z => z) (fun c z => by rw [ai_ (ne z)]; exact z) fun c xs z => by rw [ai_ (ne z)]; exact z
theorem h2_ {M : Model} {A : Around} {EE : Value → Shared → Prop} {n : Str} {pos : Pos} {i : Nat} {Q : Unit → Shared → Prop} (I : Inv X pins σ H s) (hN : X.N.Nodup) (hi : X.N[i]? = some n) (hk : X.env.scope.names.lookup n = some .local)
  (h : ∀ s', Inv X pins (σ.set i none) H s' → Q () s') : wpAny M A (do bindName X.env n .none; unbindBehindTheSuite X.env n pos) Q EE s := by
 obtain ⟨m, hn, hl⟩ := id I.loc
 have hcls : (X.env.scope.kind == .class || (X.env.scope.kind == .module && X.env.locals != X.env.globals)) = false := by rw [I.ok.kind]; rfl
 have hiσ : i < σ.length := by rw [I.len]; exact (List.getElem?_eq_some_iff.mp hi).1
 have cne := I.cne
 refine wpAny_nameGoes_keeps hk hn hcls fun h' v hn' hs => ?_
 obtain ⟨oL, _, _, hoL, _⟩ := id hn
 have old : ∀ {b o}, X.s₀.heap.get? b = some o → h'.get? b = s.heap.get? b := fun {b o} e => hs.2 b (Nat.ne_of_lt (Nat.lt_of_lt_of_le (Heap.lt_size e) I.ok.above))
 refine h _ ⟨I.ok, I.os, I.bare, ⟨fun b o e n hb hx => (old e).trans (I.base.keep b o e n hb hx), fun b o e n hb hx => ?_, I.base.free, fun b o e hx => ?_, I.base.tups, I.base.frzs, I.base.tbls⟩, ⟨_, hn', fun j y v' e1 e2 e3 => ?_⟩, fun y c e => ?_, I.free, I.freeC, fun p hp => ?_, fun b ob e => ?_, by simpa using I.len⟩
 ·obtain ⟨sl, e1⟩ := I.base.slot b o e n hb hx
  exact ⟨sl, (old e).trans e1⟩
 ·obtain ⟨o', e1⟩ := I.base.there b o e hx
  exact ⟨o', (old e).trans e1⟩
 ·by_cases hj : j = i
  ·subst hj
   rw [List.getElem?_set_self hiσ] at e2
   cases e2
  ·rw [List.getElem?_set_ne (Ne.symm hj)] at e2
   obtain ⟨u', r', q⟩ := hl j y v' e1 e2 e3
   refine ⟨u', r', ?_⟩
   rcases q with ⟨k, e⟩ | ⟨k, c, e, z⟩
   ·refine .inl ⟨k, ?_⟩
    have : y ≠ n := fun e => hj (hS_ hN e1 (e ▸ hi))
    simp [this, e]
   ·exact .inr ⟨k, c, e, z.sameBut hs (cne y c e)⟩
 ·obtain ⟨w', z⟩ := I.cell y c e
  exact ⟨w', z.sameBut hs (cne y c e)⟩
 ·obtain ⟨e, n, ne, nf, d⟩ := I.pin p hp
  exact ⟨(hs.2 p.1 ne).trans e, n, ne, nf, d⟩
 ·refine (I.hok b ob e).stay (fun c w' hc q => (hs.2 c ?_).trans q) (fun _ q => q) fun _ _ q => q
  intro z
  have z2 := I.free
  rw [← z] at z2
  rcases hc with hc | hc
  ·rw [hc, e] at z2; cases z2
  ·rw [hc] at z2; cases z2
end
structure HnC (K : PySem.W.Frag) (C : Addr) : Prop where
 ty : PySem.W.typeIn K (.ref C) = some (.type "type")
 cl : (PySem.W.clsIn K C).isSome = true
 ex : PySem.W.mroIn K C (.type "BaseException") = some true
theorem fY_ {K : PySem.W.Frag} {M : Model} {h : Heap} {C : Addr} (X : K.In h) (e : (PySem.W.clsIn K C).isSome = true) : PySem.W.Looks M h (isType (.ref C)) true := by
 unfold PySem.W.clsIn at e
 split at e
 ·rename_i ho
  intro A' Q' E' s' k q
  unfold isType loadHead
  exact wpAny_bind (wpAny_loadPart (k _ _ (X _ _ ho)) (wpAny_pure q))
 ·cases e
theorem jC_ {K : PySem.W.Frag} {prog : Program} {w : World} {A : Around} {EE : Value → Shared → Prop} {s : Shared} {ea C Py : Addr} {Q : Bool → Shared → Prop} (X : K.In s.heap) (HC : HnC K Py) (hsub : PySem.W.mroIn K C (.ref Py) = some true)
  (ho : ∃ o, s.heap.get? ea = some o ∧ o.cls = .ref C) (h : Q true s) : wpAny (model prog w) A (excMatches (.ref ea) (.ref Py)) Q EE s := by
 obtain ⟨hh, g, d, t, os⟩ := s
 obtain ⟨ob, ho, hc⟩ := ho
 have L1 := PySem.W.looks_typeIn (M := model prog w) X HC.ty
 have L2 := fY_ (M := model prog w) X HC.cl
 have L3 := PySem.W.looks_mroIn (M := model prog w) X HC.ex
 have L4 : PySem.W.Looks (model prog w) hh (typeOf (.ref ea)) (.ref C) := hc ▸ (PySem.W.Looks.ld ho).andThen .now
 have L5 := PySem.W.looks_mroIn (M := model prog w) X hsub
 have L6 : PySem.W.Looks (model prog w) hh (isSubtype (.type "type") (.type "tuple")) false := PySem.W.Looks.of_pure tc_notTuple
 unfold excMatches isInstance isExcClass
 repeat lk
 exact h
def Ends.unb (D : Ends) (i : Nat) : Ends := { nx := fun σ H => D.nx (σ.set i none) H, rt := D.rt, bk := fun σ H => D.bk (σ.set i none) H, ct := fun σ H => D.ct (σ.set i none) H }
def tTry (K : PySem.W.Frag) (Py : Addr) (sp : Sp) (ta : TA) (i : Nat) (ts : TS) : TS := fun D σ H => ta σ H fun vs H1 => sp vs H1 (fun _ _ => False) fun c _ H2 =>
 ∃ C, c = .ref C ∧ PySem.W.mroIn K C (.ref Py) = some true ∧ ∀ ea, H2 ea = none → ts (D.unb i) (σ.set i (some (.ref ea))) (upd H2 ea (exO (.ref C) ea))
theorem kW_ {X : Cx} {x : Str} {ps : List Str} {k : Nat} {sp : Sp} {E : XK} {e₀ : Expr} {es : List Expr} {ta : TA} {p cpos : Pos} {pins : List (Addr × Obj)} {σ : St} {H : Hp} {s : Shared} {EE : Value → Shared → Prop} {Q : Value → Shared → Prop}
  (C : CalR X.prog X.w X.K X.mg X.base x ps k sp) (hr : Room k X.A) (hg : Gl X x) (ha : PA (X.wish EE) (e₀ :: es) ta) (I : Inv X pins σ H s) (h : ta σ H fun vs H1 => sp vs H1 (fun _ _ => False) E)
  (hE : ∀ H1 s1 e s', Inv X pins σ H1 s1 → CXR X.prog X.w X.stack H1 s1 E e s' → EE e s') (hdb : (x == ("__debug__" : Str)) = false) (he : starEach (e₀ :: es) X.env = (false, eval e₀ X.env) :: starEach es X.env) (hpl : (backTo cpos (starEach es X.env)).any (·.1) = false) :
  wpAny (model X.prog X.w) X.A (eval (.Call (.Name x p) (e₀ :: es) [] cpos) X.env) Q EE s := by
 obtain ⟨f, fd, hm, hkp, hb, F⟩ := C
 refine wpAny_Call_Name_kw (gH_ I hg hm ?_ hdb)
 refine PySem.W.callWith_K (h₀ := X.base) I.ok.mod.kin hkp ?_ he hpl
 have z := ha cpos pins s σ H _ (I.wish EE) h
 refine thn z fun us s1 z1 => ?_
 obtain ⟨vs, H1, I1, r, q⟩ := z1
 refine ⟨I1.kIn, ?_⟩
 replace I1 : Inv X pins σ H1 s1 := I1.unwish
 have r2 : Vals (vs ++ []) (us ++ []) := r.append .nil
 have q2 : sp (vs ++ []) H1 (fun _ _ => False) E := by rw [List.append_nil]; exact q
 have hl : (us ++ []).length = ps.length := by rw [← r2.length]; exact F.len _ _ _ _ q2
 refine wpAny_call (codeAny_mono (F.run X.A X.stack s1 H1 ⟨us, []⟩ (us ++ []) (vs ++ []) _ _ hr I1.env0 (hb s1 us I1.kIn hl) r2 q2) fun res s' hq => ?_)
 cases res with
 | ok fl =>
  cases fl with
  | ret u => obtain ⟨_, _, _, _, _, _, _, z⟩ := hq; exact z.elim
  | next => exact False.elim hq
  | brk => exact False.elim hq
  | cont => exact False.elim hq
 | error e => exact hE H1 s1 e s' I1 hq
abbrev calmed (A : Around) : Around := { A with handled := none }
structure FnOkH (P : Program) (w : World) (K : PySem.W.Frag) (mg : Str → Option Value) (base : Heap) (k : Nat) (f : Addr) (fd : FuncData) (ps : List Str) (sp : Sp) : Prop where
 len : ∀ vs H Q E, sp vs H Q E → vs.length = ps.length
 run : ∀ (A : Around) (outer : List Env) (s : Shared) (H : Hp) (args : Args) (us : List Value) (vs : List V) (Q : VK) (E : XK), Room k (calmed A) → Env0 P w K mg base A outer s H → BindsTo s fd args (ps.zip us) → Vals vs us → sp vs H Q E →
  codeAny (model P w) A (.call (.ref f) args) (CR CX0 outer P w H s Q E) s
end L2
namespace L2
open PySem PySem.Spec PyProof.Rows
theorem h3_ : bootBuiltins "ValueError" = some (.type "ValueError") := by decide +kernel
theorem Room.suite {k : Nat} {A : Around} {h : Option Value} (r : Room k A) : Room k (calmed (A.mark h)) := ⟨rfl, r.dp, r.un⟩
section
variable {X : Cx} {x : Str} {ps : List Str} {k : Nat} {sp : Sp} {e : Expr} {es : List Expr} {t : TA} {p pos : Pos} {E : XK}
theorem ez_ (C : CalR X.prog X.w X.K X.mg X.base x ps k sp) (hr : Room k X.A) (hx : Passes (CXR X.prog X.w) X E) (hg : Gl X x) (ha : PA X (e :: es) t) (hs : plainArgs (e :: es) = true := by rfl) (hdb : (x == ("__debug__" : Str)) = false := by decide) :
  PE X (.Call (.Name x p) (e :: es) [] pos) (tCall sp [] E t) := by
 obtain ⟨f, fd, m, kp, b, F⟩ := C
 have h' : notStar e = true ∧ plainArgs es = true := by simpa [plainArgs] using hs
 exact ly_ F hr hg m kp b .nil hx ha hdb (aq_ h'.1) (bp_ h'.2)
end
structure KitE (K : PySem.W.Frag) (C : Addr) : Prop where
 cl : (PySem.W.clsIn K C).isSome = true
 ga : PySem.W.findIn K (.ref C) "__getattribute__" = some (some (.builtin "BaseException.__getattribute__"))
 gh : PySem.W.findIn K (.ref C) "__getattr__" = some none
 at_ : PySem.W.findIn K (.ref C) "__class__" = some (some (.builtin "object.__class__"))
 get : PySem.W.specialIn K (.builtin "object.__class__") "__get__" = some (some (.builtin "getset_descriptor.__get__"))
 set : PySem.W.takesIn K (.builtin "object.__class__") = some true
 obj : PySem.W.mroIn K C (.type "object") = some true
 exc : PySem.W.mroIn K C (.type "BaseException") = some true
def ObjC (x : Addr) (D : Value) (h : Heap) : Prop := ∃ o, h.get? x = some o ∧ o.cls = D
theorem ObjC.ty {x : Addr} {D : Value} {M : Model} {h : Heap} (p : ObjC x D h) : PySem.W.Looks M h (typeOf (.ref x)) D := by
 obtain ⟨o, h1, h2⟩ := p
 exact h2 ▸ (PySem.W.Looks.ld h1).andThen .now
theorem mW_ {K : PySem.W.Frag} {prog : Program} {w : World} {A : Around} {R : Result → Shared → Prop} {s : Shared} {x D : Addr} {tp : Value} (KE : KitE K D) (X : K.In s.heap) (p : ObjC x (.ref D) s.heap) (h : R (.ok (.ret (.ref D))) s) :
  codeAny (model prog w) A (.call (.builtin "getset_descriptor.__get__") ⟨[.builtin "object.__class__", .ref x, tp], []⟩) R s := by
 obtain ⟨hp, gs, dr, tks, oss⟩ := s
 have T0 := p.ty (M := model prog w)
 have T6 := PySem.W.looks_mroIn (M := model prog w) X KE.obj
 refine codeAny_call_builtin PySem.W.KF.slot_gs.plain PySem.W.KF.entry_gs (PySem.W.KF.slot_gs.check _ _ _ _ _ _ _ _ PySem.W.KF.type_class (PySem.W.KF.args_gs _ _ _) ?_)
 unfold Builtin.«getset_descriptor.__get__» Builtin.Getset_descriptor.descrGet
 rw [PySem.W.dga_obj]
 refine wpAny_bind (wpAny_pure ?_)
 unfold Builtin.Getset_descriptor.descrGetter Builtin.Getset_descriptor.descrCheckInstance Builtin.Getset_descriptor.descrNameAndClass isInstance
 simp only [PySem.W.KF.owner_class]
 repeat lk
 refine ⟨Code.quiet_builtin _ (by decide +kernel), codeAny_builtin PySem.W.KF.entry_class ?_⟩
 unfold Builtin.«object.__class__»
 unfold shownTypeOf
 repeat lk
 exact h
theorem mX_ {K : PySem.W.Frag} {prog : Program} {w : World} {A : Around} {R : Result → Shared → Prop} {s : Shared} {x D : Addr} {tk : Tok} (KE : KitE K D) (X : K.In s.heap) (p : ObjC x (.ref D) s.heap) (h : R (.ok (.ret (.ref D))) s) :
  codeAny (model prog w) A (.call (.builtin "BaseException.__getattribute__") ⟨[.ref x, .str "__class__" tk], []⟩) R s := by
 obtain ⟨hp, gs, dr, tks, oss⟩ := s
 have T0 := p.ty (M := model prog w)
 have T3 := PySem.W.looks_findIn (M := model prog w) X KE.at_
 have T4 := PySem.W.looks_specialIn (M := model prog w) X KE.get
 have T5 := PySem.W.looks_takesIn (M := model prog w) X KE.set
 have T7 := PySem.W.looks_mroIn (M := model prog w) X KE.exc
 have kd : builtinKind "BaseException.__getattribute__" = some .slot := by decide +kernel
 have spl : splitId "BaseException.__getattribute__" = some ("BaseException", "__getattribute__") := by decide +kernel
 have ha := F.args_bexc_ga (.ref x) (.str "__class__" tk)
 refine codeAny_call_builtin F.excAttr_ValueError.ga.plain F.entry_bexc_ga ?_
 simp only [checkBuiltinCall, kd, spl]
 unfold isInstance
 repeat (first | with_reducible refine wpAny_call (mW_ KE X p ?_) | lk)
 exact h
theorem lL_ {K : PySem.W.Frag} {prog : Program} {w : World} {A : Around} {EE : Value → Shared → Prop} {s : Shared} {x D : Addr} {Q : Option Value → Shared → Prop} (KE : KitE K D) (X : K.In s.heap) (p : ObjC x (.ref D) s.heap) (h : Q (some (.ref D)) { s with toks := s.toks + 1 }) :
  wpAny (model prog w) A (getAttr? (.ref x) "__class__") Q EE s := by
 obtain ⟨hp, gs, dr, tks, oss⟩ := s
 have T0 := p.ty (M := model prog w)
 have T1 := PySem.W.looks_findIn (M := model prog w) X KE.ga
 have T2 := PySem.W.looks_findIn (M := model prog w) X KE.gh
 have f3 := F.excAttr_ValueError.ga.bind (.ref x)
 have f5 : (Value.builtin "BaseException.__getattribute__" == Value.builtin "object.__getattribute__") = false := by decide +kernel
 have f4 : ¬ (onTheHeap (Value.ref D) && Value.builtin "BaseException.__getattribute__" == Value.builtin "object.__getattribute__") = true := by rw [f5, Bool.and_false]; exact Bool.false_ne_true
 unfold getAttr? getAttrBy? getAttrBy
 refine wpAny_bind (wpAny_mkText (wpAny_bind (wpAny_attempt ?_)))
 refine wpAny_holding (wpAny_bind (T0.at (wpAny_bind (T1.at ?_))))
 dsimp only
 rw [if_neg f4]
 unfold getAttrByItsOwn
 refine wpAny_bind ?_
 show wpAny _ _ (typeLookup (Value.ref D) "__getattr__") _ _ _
 refine T2.at ?_
 refine wpAny_bind (wpAny_attempt (wpAny_holding ?_))
 show wpAny _ _ (boundAndCalled _ _ _) _ _ _
 unfold boundAndCalled
 rw [f3]
 refine wpAny_bind (wpAny_pure ?_)
 refine wpAny_call (mX_ KE X p ?_)
 refine wpAny_pure ?_
 exact wpAny_pure h
theorem h4_ {K : PySem.W.Frag} {x D : Addr} (KE : KitE K D) : PySem.W.KitX K (.ref x) (.ref D) (ObjC x (.ref D)) where
 ty := fun _ _ _ p => p.ty
 it := fun _ _ X _ => fY_ X KE.cl
 ne := fun h tp dd its n sl X htp => by
  refine Bool.eq_false_iff.mpr fun q => ?_
  have e : D = tp := Value.ref.inj (beq_iff_eq.mp q)
  subst e
  have c := KE.cl
  unfold PySem.W.clsIn at c
  split at c
  ·rename_i ho
   have z := (X _ _ ho).symm.trans htp
   cases z
  ·cases c
 ca := fun X p k => lL_ KE X p k
def rIsiX (K : PySem.W.Frag) : List V → Hp → VK → Prop := fun xs H Q => ∃ (ea C : Addr) (c : V) (b : Bool), xs = [.ref ea, c] ∧ H ea = some (exO (.ref C) ea) ∧ KitE K C ∧
 ((∃ T, c = .ty T ∧ PySem.W.kitOne K (.ref C) (.type T) = some b) ∨ (∃ D, c = .ref D ∧ PySem.W.kitOne K (.ref C) (.ref D) = some b) ∨ ∃ (tp : Addr) (ys : List Addr), c = .ref tp ∧ H tp = some (.tup (ys.map V.ref)) ∧ PySem.W.kitAny K (.ref C) (ys.map Value.ref) = some b) ∧ Q (.bl b) H
theorem iS_ : ∀ {ys : List Addr} {us : List Value}, Vals (ys.map V.ref) us → us = ys.map Value.ref
 | [], _, .nil => rfl
 | y :: ys, _, .cons r q => by
  cases (show _ = Value.ref y from r)
  rw [iS_ q]
  rfl
theorem gW_ {X : Cx} {K : PySem.W.Frag} (hK : X.K = K) : CallR X (.builtin "isinstance") (rIsiX K) := by
 subst hK
 intro pins s σ H xs us Q I r h
 obtain ⟨ea, C, c, b, rfl, he, KE, hc, q⟩ := h
 obtain ⟨u, w', rfl, rx, ry⟩ := vals2 r
 cases (show u = Value.ref ea from rx)
 have ob : ObjC ea (.ref C) s.heap := (I.hok ea _ he).1
 have fin : ∀ tk, EP X pins σ Q (.bool b) { s with toks := tk } := fun tk => ⟨.bl b, H, I.tok tk, rfl, q⟩
 rcases hc with ⟨T, rfl, e⟩ | ⟨D, rfl, e⟩ | ⟨tp, ys, rfl, ht, e⟩
 ·cases (show w' = Value.type T from ry)
  exact PySem.W.kia_one (h4_ KE) I.kIn ob e (by intro z; cases z) fin
 ·cases (show w' = Value.ref D from ry)
  exact PySem.W.kia_one (h4_ KE) I.kIn ob e (by intro z; cases z) fin
 ·cases (show w' = Value.ref tp from ry)
  obtain ⟨its, rr, ⟨⟨c0, dd, dt, sl⟩, ho, hc, n, hd⟩, hz⟩ := I.tuple (xs := ys.map V.ref) (.inl (.inl ht))
  dsimp only at hc hd
  subst hc hd
  rw [iS_ rr] at ho
  exact PySem.W.kia_tup (h4_ KE) I.kIn ob ho e (by intro z; cases z) fin
def tPar3 (i j k : Nat) (ta : TA) : TS := fun D σ H => ta σ H fun vs H1 => ∃ v w y, vs = [v, w, y] ∧ D.nx (((σ.set i (some v)).set j (some w)).set k (some y)) H1
def rCatTK (K : PySem.W.Frag) : R2 := rCatT K
theorem mY_ {X : Cx} {K : PySem.W.Frag} (hK : X.K = K) : OpR X (binaryOp .Add) (rCatTK K) := by subst hK; exact n4_
end L2
namespace L2
open PySem PySem.Spec PyProof.Rows
def Itd (hi : Int) (n : Nat) : It := ⟨fun i _ => i < n, fun i H x H' => H' = H ∧ x = .int (hi - i), fun i _ => n ≤ i⟩
def iRngD (ta : TA) : TI := fun σ H R => ta σ H fun vs H1 => ∃ i j : Int, vs = [.int i, .int j, .int (-1)] ∧ (0 ≤ j ∧ j ≤ i ∧ i < 2 ^ 30) ∧ R (Itd i (i - j).toNat) H1
def rSlH : V → Option Int → Option Int → Hp → VK → Prop := fun x lo hi H Q => ∃ a xs, x = .ref a ∧ H a = some (.lst xs) ∧ ∀ p, H p = none → Q (.ref p) (upd H p (.lst (cutV xs lo hi)))
theorem bw_ {X : Cx} : SlR X rSlH := by
 intro pins s σ H x v vl vu lo hi sl Q I rx hs pl pu h
 obtain ⟨a, xs, e, hx, q⟩ := h
 exact n5_ pins s σ H x v vl vu lo hi sl Q I rx hs pl pu ⟨a, xs, e, .inl (.inl hx), q⟩
theorem ff_ (xs : List V) (k : Nat) (h : k ≤ xs.length) : cutV xs (some (k : Int)) none = xs.drop k := by
 unfold cutV
 rw [HT.sIx_nat, HT.sIx_none, Nat.min_eq_left h]
 exact List.take_of_length_le (by simp)
theorem nA_ (xs : List V) (k : Nat) (h : k ≤ xs.length) : cutV xs none (some (k : Int)) = xs.take k := by
 unfold cutV
 rw [HT.sIx_nat, HT.sIx_none, Nat.min_eq_left h]
 simp
end L2
namespace L2
open PySem PySem.Spec PyProof.Rows
theorem mZ_ {X : Cx} {body : List Stmt} {h₀ : ExceptHandler} {hs : List ExceptHandler} {t : TS} {pos : Pos} (hb : ∀ EE, PSs (X.wish EE) body t) : PS X (.Try body (h₀ :: hs) [] [] pos) t := by
 intro pins s σ H D I h
 refine wpAny_Try_except (wpAny_mono (hb (fun _ _ => False) pins s σ H D (I.wish _) h) (fun f s1 q => ?_) fun _ _ x => x.elim)
 have q' := SP.unwish q
 cases f with
 | next => exact wpAny_execs_nil q'
 | brk => exact q'
 | cont => exact q'
 | ret u => exact q'
theorem eA_ {J : It} {g : TG} {tt : TT} {te : TE} {σ : St} {H : Hp} {Q : VK} (n : Nat) (Pσ : St → Prop) (bs : Nat → Bool) (val : Nat → V) (h0 : Pσ σ) (hz : n ≤ 1000) (hgo : ∀ i H', i < n → Same H H' → J.go i H') (hst : ∀ H', Same H H' → J.stop n H')
  (hs : ∀ D i x σ' H' H'', H D = none → (∃ o, H' D = some o) → Same H H' → i < n → J.yld i H' x H'' → Pσ σ' → ∀ (Y : St → V → Hp → Prop) (R : St → Hp → Prop), (bs i = true → ∀ σ2 H3, Pσ σ2 → Same H' H3 → Y σ2 (val i) H3) → (bs i = false → ∀ σ2 H3, Pσ σ2 → Same H' H3 → R σ2 H3) →
   g x σ' H'' fun σ2 H2 => tt σ2 H2 fun b H3 => if b = true then te σ2 H3 fun v H4 => Y σ2 v H4 else R σ2 H3)
  (hd : ∀ D H', H D = none → Same H H' → H' D = some (.lst (((List.range n).filter bs).map val)) → Q (.ref D) H') : CompGo J g tt te σ H Q := by
 intro D hD
 refine ⟨fun i m σ' H' => m = n - i ∧ i ≤ n ∧ Pσ σ' ∧ Same H H' ∧ H' D = some (.lst (((List.range i).filter bs).map val)), ⟨n, by simp, Nat.zero_le _, h0, Same.new hD, ad_⟩, ?_⟩
 rintro i m σ' H' ⟨rfl, hi, hp, hs', hDD⟩
 by_cases hlt : i < n
 ·refine .inr ⟨hgo i H' hlt hs', fun σ2 H2 => Pσ σ2 ∧ Same H H2 ∧ H2 D = some (.lst (((List.range (i + 1)).filter bs).map val)), fun σ2 H2 ⟨a, b, c⟩ => ⟨n - (i + 1), by omega, rfl, hlt, a, b, c⟩, fun x H'' hy => ?_⟩
  refine hs D i x σ' H' H'' hD ⟨_, hDD⟩ hs' hlt hy hp _ _ (fun hb σ2 H3 hp2 s3 => ?_) fun hb σ2 H3 hp2 s3 => ?_
  ·refine ⟨_, s3 _ _ hDD, ?_, hp2, (hs'.trans s3).upd hD, ?_⟩
   ·rw [List.length_map]
    have := List.length_filter_le bs (List.range i)
    rw [List.length_range] at this
    exact small1000 (by omega)
   ·rw [ad_, List.range_succ, List.filter_append, List.map_append]
    simp [hb]
  ·refine ⟨hp2, hs'.trans s3, ?_⟩
   rw [List.range_succ, List.filter_append, List.map_append]
   have e : [i].filter bs = [] := by simp [hb]
   rw [e, List.map_nil, List.append_nil]
   exact s3 _ _ hDD
 ·have e : i = n := by omega
  subst e
  exact .inl ⟨hst H' hs', hd D H' hD hs' hDD⟩
end L2
namespace L2
open PySem PySem.Spec PyProof.Rows
def grow (S H H' : Hp) : Hp := fun b => match H b with | some _ => S b | none => H' b
theorem bn_ {S H H' : Hp} {b : Addr} {o : HO} (h : H b = some o) : grow S H H' b = S b := by unfold grow; rw [h]
theorem cl_ {S H H' : Hp} {b : Addr} (h : H b = none) : grow S H H' b = H' b := by unfold grow; rw [h]
theorem bq_ {S H H' : Hp} (s : Same S H) : Same S (grow S H H') := fun b o h => by rw [bn_ (s _ _ h)]; exact h
theorem ec_ {S H H' : Hp} (s : Same S H) (t : Same H H') : Same (grow S H H') H' := fun b o h => by
 unfold grow at h
 cases e : H b with
 | some z => rw [e] at h; exact t _ _ (s _ _ h)
 | none => rw [e] at h; exact h
theorem b2_ {S H : Hp} {a : Addr} {o : HO} (s : Same S H) (h : S a = none) : Same S (upd H a o) := fun b z e => by
 rw [ai_ (ag_ e h)]; exact s _ _ e
theorem h5_ {S H : Hp} {a : Addr} {o : HO} (s : Same S H) (h : H a = none) : Same (upd S a o) (upd H a o) := fun b z e => by
 by_cases q : b = a
 ·subst q; rw [ad_] at e ⊢; exact e
 ·rw [ai_ q] at e ⊢; exact s _ _ e
theorem ca_ {S H : Hp} {a : Addr} {o : HO} (s : Same S H) (h : H a = none) : Same S (upd S a o) := Same.new (s.free h)
theorem o0_ {X : Cx} {st : Stmt} {t : TS} (h : PS X.nox st t) : PS X st t := fun pins s σ H D I q => wpAny_mono (h pins s σ H D (I.wish _) q) (fun f s' z => SP.unwish z) fun _ _ z => z.elim
end L2
namespace L2
open PySem PySem.Spec PyProof.Rows
def rInsert : V → List V → Hp → VK → Prop := fun x vs H Q => ∃ (l : Addr) (xs : List V) (i : Int) (y : V), x = .ref l ∧ vs = [.int i, y] ∧ H l = some (.lst xs) ∧ 0 ≤ i ∧ i.toNat ≤ xs.length ∧ xs.length < 1000 ∧ Q .non (upd H l (.lst (xs.take i.toNat ++ y :: xs.drop i.toNat)))
theorem gX_ {X : Cx} : MtM X "list.insert" rInsert := by
 intro pins s σ H x vs v us Q I rx rv h
 obtain ⟨l, xs, i, y, rfl, rfl, hH, h0, h1, h2, q⟩ := h
 cases rx
 obtain ⟨u, w, rfl, ru, rw'⟩ := rv.two
 obtain ⟨t, rfl⟩ := ru
 obtain ⟨z, its, n, r, hl, e⟩ := I.lstM hH
 refine call_meets F.slot_list_insert ⟨_, e, rfl⟩ F.entry_list_insert (F.args_list_insert_3 _ _ _) (AutoSeq1.list_insert_list_int_val_1 l its.toArray n i t w (by rw [fitsIndex_both (k := i) (by omega) (by omega)]; decide) (by rw [List.size_toArray]; omega)) ⟨e, ?_⟩
 refine ⟨.non, _, I.lset (its' := its.take i.toNat ++ w :: its.drop i.toNat) hH e ?_ ((r.take _).append (.cons rw' (r.drop _))) ?_, rfl, q⟩
 ·dsimp only
  rw [if_neg (by omega), List.size_toArray, Nat.min_eq_left (by omega)]
  simp
  exact List.take_of_length_le (by simp)
 ·have := small1000 h2
  simp
  omega
def Ite (K : PySem.W.Frag) (a : Addr) : It :=
  ⟨fun i H => ∃ xs x, SqL K H a xs ∧ xs[i]? = some x,
   fun i H v H' => ∃ T x, v = .ref T ∧ H T = none ∧ H' = upd H T (.tup [.int i, x]) ∧ (∀ xs, SqL K H a xs → xs[i]? = some x),
   fun i H => ∃ xs, SqL K H a xs ∧ xs.length ≤ i⟩
def iEnum (K : PySem.W.Frag) (ta : TA) : TI := fun σ H R => ta σ H fun vs H1 => ∃ a, vs = [.ref a] ∧ (∃ xs, SqL K H1 a xs) ∧ R (Ite K a) H1
end L2
namespace L2
open PySem PySem.Spec PyProof.Rows
end L2
namespace L2
open PySem PySem.Spec PyProof.Rows
end L2
namespace L2
open PySem PySem.Spec PyProof.Rows
end L2
namespace L2
open PySem PySem.Spec PyProof.Rows
end L2
namespace L2
open PySem PySem.Spec PyProof.Rows
end L2
namespace L2
open PySem PySem.Spec PyProof.Rows
end L2
namespace L2
open PySem PySem.Spec PyProof.Rows
end L2
namespace L2
open PySem PySem.Spec PyProof.Rows
end L2
namespace L2
open PySem PySem.Spec PyProof.Rows
end L2
namespace L2
open PySem PySem.Spec PyProof.Rows
end L2
namespace L2
open PySem PySem.Spec PyProof.Rows
section
variable {κ : Type} [DecidableEq κ]
def valV (kvs : List (κ × V)) (k : κ) : Option V := (kvs.find? fun kv => decide (kv.1 = k)).map (·.2)
def putK (kvs : List (κ × V)) (k : κ) (v : V) : List (κ × V) :=
 if (kvs.any fun kv => decide (kv.1 = k)) = true then kvs.map (fun kv => if kv.1 = k then (kv.1, v) else kv) else kvs ++ [(k, v)]
def dropK (kvs : List (κ × V)) (k : κ) : List (κ × V) := kvs.filter fun kv => decide (kv.1 ≠ k)
theorem bF_ {p : κ × V} {r : List (κ × V)} {k : κ} (e : p.1 = k) : valV (p :: r) k = some p.2 := by simp [valV, List.find?_cons, e]
theorem bG_ {p : κ × V} {r : List (κ × V)} {k : κ} (e : ¬ p.1 = k) : valV (p :: r) k = valV r k := by simp [valV, List.find?_cons, e]
theorem gv_ (k : κ) : ∀ kvs : List (κ × V), (kvs.any fun kv => decide (kv.1 = k)) = (valV kvs k).isSome
 | [] => rfl
 | p :: r => by
  rw [List.any_cons]
  by_cases e : p.1 = k
  ·simp only [bF_ e, decide_eq_true e, Bool.true_or, Option.isSome_some]
  ·rw [bG_ e, decide_eq_false e, Bool.false_or]; exact gv_ k r
theorem ku_ (k j : κ) (y : V) : ∀ kvs : List (κ × V), valV (kvs.map fun kv => if kv.1 = k then (kv.1, y) else kv) j = (valV kvs j).map fun x => if j = k then y else x
 | [] => rfl
 | p :: r => by
  have ih := ku_ k j y r
  rw [List.map_cons]
  by_cases h : p.1 = k
  ·rw [if_pos h]
   by_cases e : p.1 = j
   ·rw [bF_ (p := (p.1, y)) e, bF_ e, Option.map_some, if_pos (e.symm.trans h)]
   ·rw [bG_ (p := (p.1, y)) e, bG_ e, ih]
  ·rw [if_neg h]
   by_cases e : p.1 = j
   ·rw [bF_ (p := p) e, bF_ e, Option.map_some, if_neg (fun z => h (e.trans z))]
   ·rw [bG_ (p := p) e, bG_ e, ih]
theorem iT_ (k j : κ) (y : V) : ∀ kvs : List (κ × V), valV kvs k = none → valV (kvs ++ [(k, y)]) j = if j = k then some y else valV kvs j
 | [], _ => by
  by_cases e : k = j
  ·rw [if_pos e.symm]; exact bF_ (p := (k, y)) e
  ·rw [if_neg (fun z => e z.symm)]; exact bG_ (p := (k, y)) e
 | p :: r, hn => by
  rw [List.cons_append]
  have hk : ¬ p.1 = k := fun z => by rw [bF_ z] at hn; cases hn
  rw [bG_ hk] at hn
  have ih := iT_ k j y r hn
  by_cases e : p.1 = j
  ·rw [bF_ e, bF_ e, if_neg (fun z => hk (e.trans z))]
  ·rw [bG_ e, bG_ e, ih]
theorem h6_ (kvs : List (κ × V)) (k j : κ) (y : V) : valV (putK kvs k y) j = if j = k then some y else valV kvs j := by
 unfold putK
 by_cases a : (kvs.any fun kv => decide (kv.1 = k)) = true
 ·rw [if_pos a, ku_]
  rw [gv_] at a
  by_cases e : j = k
  ·obtain ⟨x, hx⟩ := Option.isSome_iff_exists.mp a
   rw [if_pos e, e, hx, Option.map_some, if_pos rfl]
  ·rw [if_neg e]
   cases valV kvs j with
   | none => rfl
   | some x => rw [Option.map_some, if_neg e]
 ·rw [if_neg a]
  refine iT_ k j y kvs ?_
  rw [gv_] at a
  cases q : valV kvs k with
  | none => rfl
  | some x => rw [q] at a; exact (a rfl).elim
theorem cD_ (kvs : List (κ × V)) (k : κ) (v : V) : (putK kvs k v).length ≤ kvs.length + 1 := by
 unfold putK
 split
 ·rw [List.length_map]; omega
 ·rw [List.length_append, List.length_cons, List.length_nil]; omega
theorem RelO.isSome_eq {o : Option V} {u : Option Value} (r : RelO o u) : o.isSome = u.isSome := by
 cases o with
 | none => cases u with
  | none => rfl
  | some _ => exact (show False from r).elim
 | some _ => cases u with
  | none => exact (show False from r).elim
  | some _ => rfl
theorem RelO.getD {o : Option V} {u : Option Value} {d : V} {d' : Value} (r : RelO o u) (rd : RelV d d') : RelV (o.getD d) (u.getD d') := by
 cases o with
 | none => cases u with
  | none => exact rd
  | some _ => exact (show False from r).elim
 | some _ => cases u with
  | none => exact (show False from r).elim
  | some _ => exact r
theorem KV.val {kvs : List (κ × V)} {vs : List (κ × Value)} (r : KV kvs vs) (k : κ) : RelO (valV kvs k) (valueAt vs k) := by
 unfold KV at r
 induction r with
 | nil => exact True.intro
 | @cons p q ps qs h t ih =>
  obtain ⟨h1, h2⟩ := h
  by_cases e : p.1 = k
  ·have e' : q.1 = k := h1.symm.trans e
   have b : valueAt (q :: qs) k = some q.2 := by simp [valueAt, List.find?_cons, e']
   rw [bF_ e, b]; exact h2
  ·have e' : ¬ q.1 = k := fun z => e (h1.trans z)
   have b : valueAt (q :: qs) k = valueAt qs k := by simp [valueAt, List.find?_cons, e']
   rw [bG_ e, b]; exact ih
theorem KV.any {kvs : List (κ × V)} {vs : List (κ × Value)} (r : KV kvs vs) (k : κ) : (kvs.any fun kv => decide (kv.1 = k)) = vs.any fun kv => decide (kv.1 = k) := by
 unfold KV at r
 induction r with
 | nil => rfl
 | cons h t ih => rw [List.any_cons, List.any_cons, ih, h.1]
theorem KV.repl {kvs : List (κ × V)} {vs : List (κ × Value)} (r : KV kvs vs) (k : κ) {y : V} {u : Value} (ry : RelV y u) :
  KV (kvs.map fun kv => if kv.1 = k then (kv.1, y) else kv) (vs.map fun kv => if kv.1 = k then (kv.1, u) else kv) := by
 unfold KV at r ⊢
 induction r with
 | nil => exact .nil
 | @cons p q ps qs h t ih =>
  rw [List.map_cons, List.map_cons]
  refine .cons ?_ ih
  obtain ⟨h1, h2⟩ := h
  by_cases e : p.1 = k
  ·rw [if_pos e, if_pos (h1.symm.trans e)]; exact ⟨h1, ry⟩
  ·rw [if_neg e, if_neg (fun z => e (h1.trans z))]; exact ⟨h1, h2⟩
theorem KV.put {kvs : List (κ × V)} {vs : List (κ × Value)} (r : KV kvs vs) (k : κ) {y : V} {u : Value} (ry : RelV y u) : KV (putK kvs k y) (stored vs k u) := by
 unfold putK stored
 rw [r.any k]
 by_cases e : (vs.any fun kv => decide (kv.1 = k)) = true
 ·rw [if_pos e, if_pos e]; exact r.repl k ry
 ·rw [if_neg e, if_neg e]; exact Paired.snoc r ⟨rfl, ry⟩
theorem KV.drop {kvs : List (κ × V)} {vs : List (κ × Value)} (r : KV kvs vs) (k : κ) : KV (dropK kvs k) (without vs k) := by
 unfold KV at r ⊢
 unfold dropK without
 induction r with
 | nil => exact .nil
 | @cons p q ps qs h t ih =>
  obtain ⟨h1, h2⟩ := h
  rw [List.filter_cons, List.filter_cons]
  by_cases e : p.1 = k
  ·have a : ¬ decide (p.1 ≠ k) = true := by simp [e]
   have b : ¬ decide (q.1 ≠ k) = true := by simp [h1.symm.trans e]
   rw [if_neg a, if_neg b]; exact ih
  ·have e' : ¬ q.1 = k := fun z => e (h1.trans z)
   have a : decide (p.1 ≠ k) = true := by simp [e]
   have b : decide (q.1 ≠ k) = true := by simp [e']
   rw [if_pos a, if_pos b]; exact .cons ⟨h1, h2⟩ ih
theorem KV.length {kvs : List (κ × V)} {vs : List (κ × Value)} (r : KV kvs vs) : kvs.length = vs.length := Paired.length r
end
theorem kV_is {P : Program} {w : World} {k : Key} {u : Value} (r : RelV (kV k) u) : (mixKind P w).is k u = true := by
 cases k with
 | inl i => obtain ⟨t, e⟩ := (show ∃ t, u = Value.int i t from r); subst e; exact jt_ P w i t
 | inr x => obtain ⟨t, e⟩ := (show ∃ t, u = Value.str x t from r); subst e; exact ju_ P w x t
theorem iU_ {P : Program} {w : World} : ∀ {ks : List Key} {us : List Value}, Vals (ks.map kV) us → ItemsAre (mixKind P w) ks us
 | [], _, r => by rw [List.map_nil] at r; cases r; exact .nil
 | k :: ks, _, r => by
  rw [List.map_cons] at r
  cases r with
  | cons h t => exact .cons (kV_is h) (iU_ t)
abbrev KT (H : Hp) : List (List Key × V) → List (List Key × Addr × Value) → Prop := Paired fun p q => p.1 = q.1 ∧ H q.2.1 = some (.tup (p.1.map kV)) ∧ RelV p.2 q.2.2
theorem KT.val {H : Hp} {kvs : List (List Key × V)} {xs : List (List Key × Addr × Value)} (r : KT H kvs xs) (k : List Key) : RelO (valV kvs k) ((atKey xs k).map (·.2)) := by
 induction r with
 | nil => exact True.intro
 | @cons p q ps qs h t ih =>
  obtain ⟨h1, _, h2⟩ := h
  by_cases e : p.1 = k
  ·have e' : q.1 = k := h1.symm.trans e
   have b : atKey (q :: qs) k = some q.2 := by simp [atKey, List.find?_cons, e']
   rw [bF_ e, b]; exact h2
  ·have e' : ¬ q.1 = k := fun z => e (h1.trans z)
   have b : atKey (q :: qs) k = atKey qs k := by simp [atKey, List.find?_cons, e']
   rw [bG_ e, b]; exact ih
theorem KT.repl {H : Hp} {kvs : List (List Key × V)} {xs : List (List Key × Addr × Value)} (r : KT H kvs xs) (k : List Key) {y : V} {u : Value} (ry : RelV y u) :
  KT H (kvs.map fun kv => if kv.1 = k then (kv.1, y) else kv) (xs.map (putAt k u)) := by
 induction r with
 | nil => exact .nil
 | @cons p q ps qs h t ih =>
  rw [List.map_cons, List.map_cons]
  refine .cons ?_ ih
  obtain ⟨h1, h2, h3⟩ := h
  unfold putAt
  by_cases e : p.1 = k
  ·rw [if_pos e, if_pos (h1.symm.trans e)]; exact ⟨h1, h2, ry⟩
  ·rw [if_neg e, if_neg (fun z => e (h1.trans z))]; exact ⟨h1, h2, h3⟩
theorem KT.put {H : Hp} {kvs : List (List Key × V)} {xs : List (List Key × Addr × Value)} (r : KT H kvs xs) (k : List Key) {b : Addr} {y : V} {u : Value} (hb : H b = some (.tup (k.map kV))) (ry : RelV y u) :
  KT H (putK kvs k y) (storedH xs k b u) := by
 have e : (kvs.any fun kv => decide (kv.1 = k)) = (atKey xs k).isSome := by
  rw [gv_, (r.val k).isSome_eq, Option.isSome_map]
 unfold putK storedH
 rw [e]
 by_cases q : (atKey xs k).isSome = true
 ·rw [if_pos q, if_pos q]; exact r.repl k ry
 ·rw [if_neg q, if_neg q]; exact Paired.snoc r ⟨rfl, hb, ry⟩
theorem KT.keeps {H H' : Hp} {kvs : List (List Key × V)} {xs : List (List Key × Addr × Value)} (r : KT H kvs xs) (ht : ∀ b ys, H b = some (.tup ys) → H' b = some (.tup ys)) : KT H' kvs xs :=
 Paired.mapP r fun _ _ z => ⟨z.1, ht _ _ z.2.1, z.2.2⟩
section
variable {P : Program} {w : World} {H : Hp} {h : Heap} {a : Addr}
theorem rd_of {u : HO} (ok : HOk P w H h) (e : Rd H a u) : ObjOk P w H h a u := e.ok ok
theorem dk_rd {kvs : List (Key × V)} (ok : HOk P w H h) (e : Rd H a (.dK kvs)) : kvs.length ≤ sizeLine ∧ (a == sysModules) = false ∧ ∃ vs, KV kvs vs ∧ h.DictOf (mixKind P w) a vs :=
 show ObjOk P w H h a (.dK kvs) from rd_of ok e
theorem dk_of {kvs : List (Key × V)} (ok : HOk P w H h) (e : H a = some (.dK kvs)) : kvs.length ≤ sizeLine ∧ (a == sysModules) = false ∧ ∃ vs, KV kvs vs ∧ h.DictOf (mixKind P w) a vs := dk_rd ok (.inl e)
theorem kv_ {ks : List Key} (ok : HOk P w H h) (e : H a = some (.tup (ks.map kV))) : (tupleKind (mixKind P w)).is h ks a := by
 obtain ⟨_, its, r, o, h1, h2, n, h3⟩ := (show ObjOk P w H h a (.tup (ks.map kV)) from ok a _ e)
 exact ⟨o, its.toArray, n, h1, h2, h3, by simpa using iU_ r⟩
theorem dt_rd {kvs : List (List Key × V)} (ok : HOk P w H h) (e : Rd H a (.dT kvs)) : kvs.length ≤ sizeLine ∧ (a == sysModules) = false ∧
  ∃ xs, KT H kvs xs ∧ h.DictOfH (tupleKind (mixKind P w)) a xs := by
 obtain ⟨z, y, xs, r, o, es, ep, h1, h2, h3, h4, h5⟩ := (show ObjOk P w H h a (.dT kvs) from rd_of ok e)
 refine ⟨z, y, xs, r, o, es, ep, h1, h2, h3, h4, fun x hx => ?_, h5⟩
 have all : ∀ {l : List (List Key × V)} {m : List (List Key × Addr × Value)}, KT H l m → ∀ x ∈ m, (tupleKind (mixKind P w)).is h x.1 x.2.1 := by
  intro l m q
  induction q with
  | nil => intro x hx; exact nomatch hx
  | @cons p q ps qs hq t ih =>
   intro x hx
   rcases List.mem_cons.mp hx with e | hx
   ·subst e
    exact kv_ ok (by rw [← hq.1]; exact hq.2.1)
   ·exact ih x hx
 exact all r x hx
theorem dt_of {kvs : List (List Key × V)} (ok : HOk P w H h) (e : H a = some (.dT kvs)) : kvs.length ≤ sizeLine ∧ (a == sysModules) = false ∧
  ∃ xs, KT H kvs xs ∧ h.DictOfH (tupleKind (mixKind P w)) a xs := dt_rd ok (.inl e)
end
def DGet (H : Hp) (a : Addr) (y : V) (r : Option V) : Prop :=
 (∃ kvs k, Rd H a (.dK kvs) ∧ y = kV k ∧ r = valV kvs k) ∨ ∃ kvs k b, Rd H a (.dT kvs) ∧ y = .ref b ∧ H b = some (.tup (k.map kV)) ∧ r = valV kvs k
def DPut (H : Hp) (a : Addr) (y v : V) (H' : Hp) : Prop :=
 (∃ kvs k, H a = some (.dK kvs) ∧ y = kV k ∧ kvs.length < sizeLine ∧ H' = upd H a (.dK (putK kvs k v))) ∨
 ∃ kvs k b, H a = some (.dT kvs) ∧ y = .ref b ∧ H b = some (.tup (k.map kV)) ∧ kvs.length < sizeLine ∧ H' = upd H a (.dT (putK kvs k v))
theorem DGet.k {H : Hp} {a : Addr} {kvs : List (Key × V)} {k : Key} (e : H a = some (.dK kvs)) : DGet H a (kV k) (valV kvs k) := .inl ⟨kvs, k, .inl e, rfl, rfl⟩
theorem DGet.t {H : Hp} {a b : Addr} {kvs : List (List Key × V)} {k : List Key} (e : H a = some (.dT kvs)) (eb : H b = some (.tup (k.map kV))) : DGet H a (.ref b) (valV kvs k) := .inr ⟨kvs, k, b, .inl e, rfl, eb, rfl⟩
theorem DPut.k {H : Hp} {a : Addr} {kvs : List (Key × V)} {k : Key} {v : V} (e : H a = some (.dK kvs)) (hl : kvs.length < sizeLine) : DPut H a (kV k) v (upd H a (.dK (putK kvs k v))) := .inl ⟨kvs, k, e, rfl, hl, rfl⟩
theorem DPut.t {H : Hp} {a b : Addr} {kvs : List (List Key × V)} {k : List Key} {v : V} (e : H a = some (.dT kvs)) (eb : H b = some (.tup (k.map kV))) (hl : kvs.length < sizeLine) :
  DPut H a (.ref b) v (upd H a (.dT (putK kvs k v))) := .inr ⟨kvs, k, b, e, rfl, eb, hl, rfl⟩
section
variable {X : Cx} {pins : List (Addr × Obj)} {σ : St} {H : Hp} {s : Shared} {a : Addr} {y v : V} {u r : Value} {o : Option V} {A : Around} {E : Value → Shared → Prop}
theorem Inv.big (I : Inv X pins σ H s) : sysModules < s.heap.objs.size := by
 have h : mainGlobals < s.heap.objs.size := (I.mod.glob.keeps I.bk).lt
 exact Nat.lt_trans (by decide) h
theorem lM_ {Q : Value → Shared → Prop} (hu : A.units + 1 < cLine) (I : Inv X pins σ H s) (g : DGet H a y (some v)) (ry : RelV y u) (h : ∀ w' s', Inv X pins σ H s' → RelV v w' → Q w' s') :
  wpAny (model X.prog X.w) A (getItem (.ref a) u) Q E s := by
 rcases g with ⟨kvs, k, e, ey, l⟩ | ⟨kvs, k, b, e, ey, eb, l⟩
 ·subst ey
  obtain ⟨z, hd, vs, rel, dd⟩ := dk_rd I.hok e
  obtain ⟨w', hw, rw'⟩ := RelO.some_of (v := v) (o := valueAt vs k) (by rw [l]; exact rel.val k)
  exact wpAny_getItem_of (kV_is ry) dd.mapOf hw (h w' _ (I.tok _) rw')
 ·subst ey
  cases (show u = Value.ref b from ry)
  obtain ⟨z, hd, xs, rel, dd⟩ := dt_rd I.hok e
  obtain ⟨w', hw, rw'⟩ := RelO.some_of (v := v) (o := (atKey xs k).map (·.2)) (by rw [l]; exact rel.val k)
  obtain ⟨p, hp, hp2⟩ := Option.map_eq_some_iff.mp hw
  refine wpAny_getItem_heap (tupleKind_room_in1 hu) (kv_ I.hok eb) dd hp ?_
  rw [hp2]
  exact h w' _ (I.tok _) rw'
theorem d_in {Q : Value → Shared → Prop} (hu : A.units + 1 < cLine) (I : Inv X pins σ H s) (g : DGet H a y o) (ry : RelV y u) (h : ∀ s', Inv X pins σ H s' → Q (.bool o.isSome) s') :
  wpAny (model X.prog X.w) A (compareOp .In u (.ref a)) Q E s := by
 rcases g with ⟨kvs, k, e, ey, l⟩ | ⟨kvs, k, b, e, ey, eb, l⟩
 ·subst ey
  obtain ⟨z, hd, vs, rel, dd⟩ := dk_rd I.hok e
  refine wpAny_in_of (kV_is ry) hd dd.mapOf ?_
  rw [← (rel.val k).isSome_eq, ← l]
  exact h _ (I.tok _)
 ·subst ey
  cases (show u = Value.ref b from ry)
  obtain ⟨z, hd, xs, rel, dd⟩ := dt_rd I.hok e
  refine wpAny_in_heap (tupleKind_room_in1 hu) (kv_ I.hok eb) hd dd ?_
  have q := (rel.val k).isSome_eq
  rw [Option.isSome_map] at q
  rw [← q, ← l]
  exact h _ (I.tok _)
theorem lN_ {h' : Heap} {t' : Nat} {ob : HO} (I : Inv X pins σ H s) (mu : Mut (H a)) (hs : Heap.SameBut a s.heap h') (he : ∃ q, h'.get? a = some q) (new : ObjOk X.prog X.w (upd H a ob) h' a ob) :
  Inv X pins σ (upd H a ob) { s with heap := h', toks := t' } :=
 I.write (x := a) (e := a) mu (.inl rfl) (fun b q hb z => (hs.2 b hb).trans z) he new
theorem o1_ {P : Program} {w : World} {H' : Hp} {h' : Heap} {kvs : List (Key × V)} {vs : List (Key × Value)} (z : kvs.length ≤ sizeLine) (hd : (a == sysModules) = false) (rel : KV kvs vs) (dd : h'.DictOf (mixKind P w) a vs) :
  ObjOk P w H' h' a (.dK kvs) := ⟨z, hd, vs, rel, dd⟩
theorem lO_ {H' : Hp} {Q : Unit → Shared → Prop} (hu : A.units + 1 < cLine) (I : Inv X pins σ H s) (g : DPut H a y v H') (ry : RelV y u) (rv : RelV v r) (h : ∀ s', Inv X pins σ H' s' → Q () s') :
  wpAny (model X.prog X.w) A (setItem (.ref a) u r) Q E s := by
 rcases g with ⟨kvs, k, e, ey, l, eH⟩ | ⟨kvs, k, b, e, ey, eb, l, eH⟩
 ·subst ey eH
  obtain ⟨z, hd, vs, rel, dd⟩ := dk_of I.hok e
  have hz : vs.length ≤ sizeLine := by rw [← rel.length]; exact z
  have hl : (putK kvs k v).length ≤ sizeLine := by have := cD_ kvs k v; omega
  refine wpAny_setItem_pairs (hsz := hz) (kV_is ry) dd fun h' dd' hs => h _ ?_
  have he : ∃ q, h'.get? a = some q := let ⟨q, _, _, hq, _⟩ := dd'; ⟨q, hq⟩
  exact lN_ I (by rw [e]; exact True.intro) hs he (o1_ hl hd (rel.put k rv) dd')
 ·subst ey eH
  cases (show u = Value.ref b from ry)
  obtain ⟨z, hd, xs, rel, dd⟩ := dt_of I.hok e
  have hz : xs.length ≤ sizeLine := by rw [← Paired.length rel]; exact z
  have hl : (putK kvs k v).length ≤ sizeLine := by have := cD_ kvs k v; omega
  refine wpAny_setItem_heap (hsz := hz) (tupleKind_room_in1 hu) (kv_ I.hok eb) dd fun h' dd' hs => h _ ?_
  obtain ⟨q, es, ep, hq, h2, h3, h4, _, h5⟩ := dd'
  refine lN_ I (by rw [e]; exact True.intro) hs ⟨q, hq⟩ ⟨hl, hd, _, (rel.put k eb rv).keeps fun c ys ec => ?_, q, es, ep, hq, h2, h3, h4, h5⟩
  rw [ai_ (ne_of ec e (fun z => nomatch z))]
  exact ec
end
section
variable {X : Cx} {pins : List (Addr × Obj)} {σ : St} {H : Hp} {s : Shared} {a : Addr} {kvs : List (Key × V)} {k : Key} {u : Value} {A : Around} {E : Value → Shared → Prop}
end
def NoSl (i : Expr) : Prop := ∀ ov iv, subscripted i false ov iv = operate [ov, iv] (getItem ov iv)
theorem ob_ {prog : Program} {w : World} {A : Around} {E : Value → Shared → Prop} {s : Shared} {env : Env} {value slice : Expr} {pos : Pos} {T id : String} {Q : Value → Shared → Prop}
  (hl : typeLookup (.type T) "__getitem__" = pure (some (.builtin id))) (hs : NoSl slice)
  (h : wpAny (model prog w) A (eval value env) (fun o s₁ => wpAny (model prog w) A (eval slice env) (fun i s₂ => s₂.TypeIs o T ∧ wpAny (model prog w) A (getItem o i) Q E s₂) E s₁) E s) :
  wpAny (model prog w) A (eval (.Subscript value slice pos) env) Q E s := by
 refine Subscript_ (wpAny_mono h (fun o s₁ h₁ => wpAny_mono h₁ (fun i s₂ h₂ => ?_) fun _ _ x => x) fun _ _ x => x)
 obtain ⟨hT, h₂⟩ := h₂
 unfold subscriptTail
 refine wpAny_bind ?_
 rw [getitemInPython_of_ne hT.not_modules]
 refine wpAny_bind (wpAny_specialOf hT hl ?_)
 have fin : wpAny (model prog w) A (subscripted slice false o i) (fun r s₃ => wpAny (model prog w) A (letTemporaryGo value o r >>= fun _ => pure r) Q E s₃) E s₂ := by
  rw [hs o i]
  exact wpAny_operating (wpAny_mono h₂ (fun r s₃ h₃ => wpAny_bind (wpAny_letTemporaryGo (wpAny_pure h₃))) fun _ _ x => x)
 first
  | exact wpAny_pure (wpAny_bind fin)
  | exact wpAny_bind (wpAny_pure (wpAny_bind fin))
  | exact wpAny_bind fin
theorem jD_ {X : Cx} {pins : List (Addr × Obj)} {σ : St} {H : Hp} {s : Shared} {a : Addr} {y : V} {o : Option V} (I : Inv X pins σ H s) (g : DGet H a y o) : s.TypeIs (.ref a) "dict" := by
 rcases g with ⟨kvs, k, e, _, _⟩ | ⟨kvs, k, b, e, _, _, _⟩
 ·obtain ⟨_, _, vs, _, dd⟩ := dk_rd I.hok e
  exact dd.typeIs
 ·obtain ⟨_, _, xs, _, dd⟩ := dt_rd I.hok e
  exact dd.typeIs
def tDGet (td ty : TE) : TE := fun σ H Q => td σ H fun x H1 => ty σ H1 fun y H2 => ∃ a v, x = .ref a ∧ DGet H2 a y (some v) ∧ Q v H2
def tDIn (ty td : TE) : TE := fun σ H Q => ty σ H fun y H1 => td σ H1 fun x H2 => ∃ a o, x = .ref a ∧ DGet H2 a y o ∧ Q (.bl o.isSome) H2
def tDNotIn (ty td : TE) : TE := fun σ H Q => ty σ H fun y H1 => td σ H1 fun x H2 => ∃ a o, x = .ref a ∧ DGet H2 a y o ∧ Q (.bl (!o.isSome)) H2
def sDPut (td ty tv : TE) : TS := fun D σ H => tv σ H fun v H1 => td σ H1 fun x H2 => ty σ H2 fun y H3 => ∃ a H4, x = .ref a ∧ DPut H3 a y v H4 ∧ D.nx σ H4
section
variable {X : Cx} {o i e value : Expr} {pos pos' tpos : Pos} {td ty tv : TE}
theorem jE_ (hu : X.A.units + 1 < cLine) (ho : PE X o td) (hi : PE X i ty) (hs : NoSl i) : PE X (.Subscript o i pos) (tDGet td ty) := by
 intro pins s σ H Q I h
 refine ob_ PySem.F.slot_dict_getitem.lookup hs (thn (ho pins s σ H _ I h) fun u s1 ⟨x, H1, I1, rx, q1⟩ => thn (hi pins s1 σ H1 _ I1 q1) fun iv s2 ⟨y, H2, I2, ry, a, v, ex, g, q2⟩ => ?_)
 subst ex
 obtain rfl : u = Value.ref a := rx
 exact ⟨jD_ I2 g, lM_ hu I2 g ry fun w' s3 I3 rw' => ⟨v, H2, I3, rw', q2⟩⟩
theorem o2_ (hu : X.A.units + 1 < cLine) (hi : PE X i ty) (ho : PE X o td) : PC X .In i o (tDIn ty td) := by
 intro pins s σ H Q I h
 refine thn (hi pins s σ H _ I h) fun iv s1 ⟨y, H1, I1, ry, q1⟩ => thn (ho pins s1 σ H1 _ I1 q1) fun u s2 ⟨x, H2, I2, rx, a, ov, ex, g, q2⟩ => ?_
 subst ex
 obtain rfl : u = Value.ref a := rx
 exact d_in hu I2 g ry fun s3 I3 => ⟨.bl ov.isSome, H2, I3, rfl, q2⟩
theorem jF_ (hu : X.A.units + 1 < cLine) (ho : PE X o td) (hi : PE X i ty) (hv : PE X value tv) (hs : swapsWith value (some (.Subscript o i pos')) pos.line X.env = pure false) :
  PS X (.Assign [.Subscript o i pos'] value pos) (sDPut td ty tv) := by
 intro pins s σ H D I h
 refine wpAny_Assign_Subscript (thn (hv pins s σ H _ I h) fun r s1 ⟨v, H1, I1, rv, q1⟩ => thn (ho pins s1 σ H1 _ I1 q1) fun u s2 ⟨x, H2, I2, rx, q2⟩ => thn (hi pins s2 σ H2 _ I2 q2) fun iv s3 ⟨y, H3, I3, ry, a, H4, ex, g, q3⟩ => ?_) hs
 subst ex
 obtain rfl : u = Value.ref a := rx
 exact lO_ hu I3 g ry rv fun s4 I4 => ⟨σ, H4, I4, q3⟩
end
theorem m0_ {P : Program} {w : World} {H : Hp} (h : Heap) (hb : sysModules < h.objs.size) : ObjOk P w H (h.push { cls := .type "dict", data := .dict #[] }) h.objs.size (.dK []) :=
 ⟨Nat.zero_le _, beq_eq_false_iff_ne.mpr (Ne.symm (Nat.ne_of_lt hb)), [], .nil, Heap.DictOf.new h⟩
theorem m1_ {P : Program} {w : World} {H : Hp} (h : Heap) (hb : sysModules < h.objs.size) : ObjOk P w H (h.push { cls := .type "dict", data := .dict #[] }) h.objs.size (.dT []) :=
 ⟨Nat.zero_le _, beq_eq_false_iff_ne.mpr (Ne.symm (Nat.ne_of_lt hb)), [], .nil, _, #[], 0, Heap.get?_push_size _ rfl, ⟨rfl, rfl, rfl⟩, rfl, rfl, List.nodup_nil⟩
def tDNewK : TE := fun _ H Q => ∀ p, H p = none → Q (.ref p) (upd H p (.dK []))
def tDNewT : TE := fun _ H Q => ∀ p, H p = none → Q (.ref p) (upd H p (.dT []))
section
variable {X : Cx} {pos : Pos}
theorem m2_ : PE X (.Dict [] [] pos) tDNewK := fun pins s σ H Q I h =>
 wpAny_Dict_empty ⟨.ref s.heap.objs.size, _, I.laid (a := s.heap.objs.size) (o := .dK []) (t' := s.toks) (fun _ _ q => Heap.get?_push_of_some _ q) (Nat.le_refl _) (m0_ s.heap I.big), rfl, h _ (I.hok.fresh (Nat.le_refl _))⟩
theorem m3_ : PE X (.Dict [] [] pos) tDNewT := fun pins s σ H Q I h =>
 wpAny_Dict_empty ⟨.ref s.heap.objs.size, _, I.laid (a := s.heap.objs.size) (o := .dT []) (t' := s.toks) (fun _ _ q => Heap.get?_push_of_some _ q) (Nat.le_refl _) (m1_ s.heap I.big), rfl, h _ (I.hok.fresh (Nat.le_refl _))⟩
end
structure M1 (X : Cx) (o : Expr) (m : Str) (apos : Pos) (e : Expr) (cpos : Pos) : Prop where
 base : attributeBase o m X.env (eval o X.env) = eval o X.env
 few : ((backTo cpos (starEach [e] X.env)).all (fun x => !x.1) && (backToKw cpos (keywordEach [] X.env)).all (fun x => x.1.isSome)
  && decide (([e] : List Expr).length + ([] : List Keyword).length + (if ([] : List Keyword).isEmpty then 0 else 1) < 30)) = true
 line : (apos.endLine == cpos.line) = true
 trees : backTo cpos (starEach [e] X.env) = [(false, eval e X.env)]
structure M2 (X : Cx) (o : Expr) (m : Str) (apos : Pos) (e f : Expr) (cpos : Pos) : Prop where
 base : attributeBase o m X.env (eval o X.env) = eval o X.env
 few : ((backTo cpos (starEach [e, f] X.env)).all (fun x => !x.1) && (backToKw cpos (keywordEach [] X.env)).all (fun x => x.1.isSome)
  && decide (([e, f] : List Expr).length + ([] : List Keyword).length + (if ([] : List Keyword).isEmpty then 0 else 1) < 30)) = true
 line : (apos.endLine == cpos.line) = true
 trees : backTo cpos (starEach [e, f] X.env) = [(false, eval e X.env), (false, eval f X.env)]
section
variable {X : Cx} {pins : List (Addr × Obj)} {σ : St} {H : Hp} {s : Shared} {a : Addr} {y d : V} {u r : Value} {o : Option V} {A : Around} {E : Value → Shared → Prop}
end
section
variable {X : Cx} {o e f : Expr} {apos cpos : Pos} {td ty tx : TE}
end
section
variable {X : Cx} {pins : List (Addr × Obj)} {σ : St} {H : Hp} {s : Shared} {a : Addr} {kvs : List (Key × V)} {A : Around} {E : Value → Shared → Prop}
end
section
variable {X : Cx} {pins : List (Addr × Obj)} {σ : St} {H : Hp} {s : Shared} {a : Addr} {y : V} {u : Value} {A : Around} {E : Value → Shared → Prop}
end
end L2
namespace Att
open PySem PySem.W PySem.Calls PyProof.Rows
end Att
namespace L2
open PySem PySem.Spec PyProof.Rows
end L2
namespace L2
open PySem PySem.Spec PyProof.Rows
end L2
namespace L2
open PySem PySem.Spec PyProof.Rows
section
variable {X : Cx}
end
section
variable {κ : Type} [DecidableEq κ]
end
end L2
namespace RimM
def nf (t b : Int) : Int × Int := if b < 0 then (t / -(Int.gcd t b : Int), b / -(Int.gcd t b : Int)) else (t / (Int.gcd t b : Int), b / (Int.gcd t b : Int))
theorem gpos {t b : Int} (hb : b ≠ 0) : 0 < (Int.gcd t b : Int) := by
 have := Int.gcd_pos_of_ne_zero_right t hb
 omega
theorem nB_ {t b : Int} (h : b < 0) : nf t b = nf (-t) (-b) := by
 have e : Int.gcd (-t) (-b) = Int.gcd t b := by rw [Int.gcd_neg, Int.neg_gcd]
 unfold nf
 rw [if_pos h, if_neg (by omega), e, Int.ediv_neg, Int.ediv_neg, Int.neg_ediv_of_dvd (Int.gcd_dvd_left ..), Int.neg_ediv_of_dvd (Int.gcd_dvd_right ..)]
theorem kw_ {t b : Int} (h : 0 < b) : nf t b = (t / (Int.gcd t b : Int), b / (Int.gcd t b : Int)) := by
 unfold nf
 rw [if_neg (by omega)]
structure Low (p : Int × Int) : Prop where
 pos : 0 < p.2
 co : Int.gcd p.1 p.2 = 1
theorem iV_ {t b : Int} (hb : b ≠ 0) : Low (nf t b) ∧ t * (nf t b).2 = (nf t b).1 * b := by
 have key : ∀ {t b : Int}, 0 < b → Low (nf t b) ∧ t * (nf t b).2 = (nf t b).1 * b := fun {t b} h => by
  have g := gpos (t := t) (b := b) (by omega)
  rw [kw_ h]
  refine ⟨⟨Int.ediv_pos_of_pos_of_dvd h (Int.le_of_lt g) (Int.gcd_dvd_right ..), Int.gcd_ediv_gcd_ediv_gcd (by omega)⟩, ?_⟩
  show t * (b / (Int.gcd t b : Int)) = t / (Int.gcd t b : Int) * b
  obtain ⟨x, hx⟩ := Int.gcd_dvd_left (a := t) (b := b)
  obtain ⟨y, hy⟩ := Int.gcd_dvd_right (a := t) (b := b)
  have e1 : t / (Int.gcd t b : Int) = x := by
   conv => lhs; arg 1; rw [hx]
   exact Int.mul_ediv_cancel_left _ (by omega)
  have e2 : b / (Int.gcd t b : Int) = y := by
   conv => lhs; arg 1; rw [hy]
   exact Int.mul_ediv_cancel_left _ (by omega)
  rw [e1, e2]
  conv => lhs; arg 1; rw [hx]
  conv => rhs; arg 2; rw [hy]
  rw [Int.mul_assoc, Int.mul_left_comm]
 rcases Int.lt_or_lt_of_ne hb with h | h
 ·rw [nB_ h]
  obtain ⟨a, e⟩ := key (t := -t) (b := -b) (by omega)
  refine ⟨a, ?_⟩
  rw [Int.neg_mul, Int.mul_neg] at e
  omega
 ·exact key h
theorem nC_ {k n m : Int} (h : k ∣ n * m) (g : Int.gcd k n = 1) : k ∣ m := by
 have := Int.dvd_gcd_mul_iff_dvd_mul.mpr h
 rw [g] at this
 simpa using this
theorem o3_ {p q : Int × Int} (hp : Low p) (hq : Low q) (h : p.1 * q.2 = q.1 * p.2) : p = q := by
 have d1 : p.2 ∣ q.2 := by
  have : p.2 ∣ p.1 * q.2 := ⟨q.1, by rw [h, Int.mul_comm]⟩
  exact nC_ this (by rw [Int.gcd_comm]; exact hp.co)
 have d2 : q.2 ∣ p.2 := by
  have : q.2 ∣ q.1 * p.2 := ⟨p.1, by rw [← h, Int.mul_comm]⟩
  exact nC_ this (by rw [Int.gcd_comm]; exact hq.co)
 have e : p.2 = q.2 := Int.dvd_antisymm (Int.le_of_lt hp.pos) (Int.le_of_lt hq.pos) d1 d2
 have e1 : p.1 = q.1 := by
  rw [e] at h
  exact Int.eq_of_mul_eq_mul_right (by have := hq.pos; omega) h
 exact Prod.ext e1 e
theorem nf_eq {t b t' b' : Int} (hb : b ≠ 0) (hb' : b' ≠ 0) (h : t * b' = t' * b) : nf t b = nf t' b' := by
 obtain ⟨l, e⟩ := iV_ (t := t) hb
 obtain ⟨l', e'⟩ := iV_ (t := t') hb'
 refine o3_ l l' ?_
 have : ((nf t b).1 * (nf t' b').2) * (b * b') = ((nf t' b').1 * (nf t b).2) * (b * b') := by
  calc ((nf t b).1 * (nf t' b').2) * (b * b') = ((nf t b).1 * b) * ((nf t' b').2 * b') := by ac_rfl
   _ = (t * (nf t b).2) * ((nf t' b').2 * b') := by rw [e]
   _ = (t * b') * ((nf t b).2 * (nf t' b').2) := by ac_rfl
   _ = (t' * b) * ((nf t b).2 * (nf t' b').2) := by rw [h]
   _ = (t' * (nf t' b').2) * ((nf t b).2 * b) := by ac_rfl
   _ = ((nf t' b').1 * b') * ((nf t b).2 * b) := by rw [e']
   _ = ((nf t' b').1 * (nf t b).2) * (b * b') := by ac_rfl
 exact Int.eq_of_mul_eq_mul_right (Int.mul_ne_zero hb hb') this
theorem lP_ {p : Int × Int} (h : Low p) : nf p.1 p.2 = p := by
 rw [kw_ h.pos, h.co]
 simp
end RimM
namespace RimT
variable {α : Type} [DecidableEq α]
def rowE (p : Nat) : Nat → List α → List ((Nat × Nat) × α)
 | _, [] => []
 | k, w :: l => ((p, k), w) :: rowE p (k + 1) l
def endsF : Nat → List (List α) → List ((Nat × Nat) × α)
 | _, [] => []
 | o, l :: T => rowE o 0 l ++ endsF (o + 1) T
abbrev ends (T : List (List α)) := endsF 0 T
def wi (T : List (List α)) (e : Nat × Nat) : Option α := (T.getD e.1 [])[e.2]?
theorem gw_ {p : Nat} {e : Nat × Nat} {w : α} : ∀ {l : List α} {k : Nat}, (e, w) ∈ rowE p k l ↔ e.1 = p ∧ k ≤ e.2 ∧ l[e.2 - k]? = some w
 | [], k => by simp [rowE]
 | a :: l, k => by
  rw [rowE, List.mem_cons, gw_]
  constructor
  ·rintro (h | ⟨h1, h2, h3⟩)
   ·cases h; simp
   ·refine ⟨h1, by omega, ?_⟩
    rw [show e.2 - k = (e.2 - (k + 1)) + 1 by omega, List.getElem?_cons_succ]
    exact h3
  ·rintro ⟨h1, h2, h3⟩
   by_cases z : e.2 = k
   ·left
    rw [z, Nat.sub_self, List.getElem?_cons_zero] at h3
    cases h3
    exact Prod.ext (Prod.ext h1 z) rfl
   ·right
    refine ⟨h1, by omega, ?_⟩
    rw [show e.2 - k = (e.2 - (k + 1)) + 1 by omega, List.getElem?_cons_succ] at h3
    exact h3
theorem gY_ {e : Nat × Nat} {w : α} : ∀ {T : List (List α)} {o : Nat}, (e, w) ∈ endsF o T ↔ o ≤ e.1 ∧ (T.getD (e.1 - o) [])[e.2]? = some w
 | [], o => by simp [endsF]
 | l :: T, o => by
  rw [endsF, List.mem_append, gw_, gY_]
  constructor
  ·rintro (⟨h1, h2, h3⟩ | ⟨h1, h2⟩)
   ·refine ⟨by omega, ?_⟩
    rw [h1, Nat.sub_self]
    exact h3
   ·refine ⟨by omega, ?_⟩
    rw [show e.1 - o = (e.1 - (o + 1)) + 1 by omega]
    exact h2
  ·rintro ⟨h1, h2⟩
   by_cases z : e.1 = o
   ·left
    rw [z, Nat.sub_self] at h2
    exact ⟨z, by omega, h2⟩
   ·right
    refine ⟨by omega, ?_⟩
    rw [show e.1 - o = (e.1 - (o + 1)) + 1 by omega] at h2
    exact h2
theorem h7_ {T : List (List α)} {e : Nat × Nat} {w : α} : (e, w) ∈ ends T ↔ wi T e = some w := by
 unfold ends
 rw [gY_]
 simp [wi]
theorem kx_ (p : Nat) : ∀ (l : List α) (k : Nat), (rowE p k l).map (·.2) = l
 | [], _ => rfl
 | a :: l, k => by rw [rowE, List.map_cons, kx_ p l]
theorem gZ_ : ∀ (T : List (List α)) (o : Nat), (endsF o T).map (·.2) = T.flatten
 | [], _ => rfl
 | l :: T, o => by rw [endsF, List.map_append, kx_, gZ_ T, List.flatten_cons]
theorem hL_ (p : Nat) : ∀ (l : List α) (k : Nat), ((rowE p k l).map (·.1)).Nodup
 | [], _ => List.nodup_nil
 | a :: l, k => by
  rw [rowE, List.map_cons, List.nodup_cons]
  refine ⟨fun h => ?_, hL_ p l (k + 1)⟩
  obtain ⟨⟨e, w⟩, he, q⟩ := List.mem_map.mp h
  have := (gw_.mp he).2.1
  dsimp only at q
  rw [q] at this
  dsimp only at this
  omega
theorem g0_ : ∀ (T : List (List α)) (o : Nat), ((endsF o T).map (·.1)).Nodup
 | [], _ => List.nodup_nil
 | l :: T, o => by
  rw [endsF, List.map_append, List.nodup_append]
  refine ⟨hL_ o l 0, g0_ T (o + 1), fun a ha b hb e => ?_⟩
  subst e
  obtain ⟨⟨e, w⟩, he, q⟩ := List.mem_map.mp ha
  obtain ⟨⟨e', w'⟩, he', q'⟩ := List.mem_map.mp hb
  have h1 := (gw_.mp he).1
  have h2 := (gY_.mp he').1
  dsimp only at q q'
  rw [q] at h1
  rw [q'] at h2
  omega
theorem fZ_ (w : α) : ∀ l : List ((Nat × Nat) × α), (l.map (·.2)).count w = (l.filter fun x => decide (x.2 = w)).length
 | [] => rfl
 | a :: l => by
  rw [List.map_cons, List.count_cons, fZ_ w l, List.filter_cons]
  by_cases h : a.2 = w
  ·simp [h]
  ·simp [h]
theorem ky_ {T : List (List α)} {w : α} (h : T.flatten.count w = 2) : ∃ a b, (ends T).filter (fun x => decide (x.2 = w)) = [(a, w), (b, w)] ∧ a ≠ b ∧ ∀ e, wi T e = some w ↔ e = a ∨ e = b := by
 have hl : ((ends T).filter fun x => decide (x.2 = w)).length = 2 := by rw [← fZ_, gZ_]; exact h
 have nd : (((ends T).filter fun x => decide (x.2 = w)).map (·.1)).Nodup := (g0_ T 0).sublist (List.Sublist.map _ List.filter_sublist)
 have mem : ∀ x, x ∈ (ends T).filter (fun x => decide (x.2 = w)) ↔ wi T x.1 = some w ∧ x.2 = w := fun x => by
  rw [List.mem_filter, decide_eq_true_eq]
  constructor
  ·rintro ⟨h1, h2⟩
   refine ⟨?_, h2⟩
   rw [← h7_, ← h2]
   exact h1
  ·rintro ⟨h1, h2⟩
   refine ⟨?_, h2⟩
   rw [← h7_, ← h2] at h1
   exact h1
 generalize (ends T).filter (fun x => decide (x.2 = w)) = f at hl nd mem
 match f, hl with
 | [a, b], _ =>
  have ha := (mem a).mp (by simp)
  have hb := (mem b).mp (by simp)
  refine ⟨a.1, b.1, ?_, ?_, fun e => ⟨fun he => ?_, ?_⟩⟩
  ·rw [show (a.1, w) = a from Prod.ext rfl ha.2.symm, show (b.1, w) = b from Prod.ext rfl hb.2.symm]
  ·simp at nd; exact nd
  ·have := (mem (e, w)).mpr ⟨he, rfl⟩
   rcases List.mem_cons.mp this with z | z
   ·exact .inl (by rw [← z])
   ·exact .inr (by rw [← List.mem_singleton.mp z])
  ·rintro (rfl | rfl)
   ·exact ha.1
   ·exact hb.1
def Tw (T : List (List α)) : Prop := ∀ w, w ∈ T.flatten → T.flatten.count w = 2
theorem nD_ {T : List (List α)} {e : Nat × Nat} {w : α} (h : wi T e = some w) : w ∈ T.flatten := by
 rw [← gZ_ T 0]
 exact List.mem_map.mpr ⟨_, h7_.mpr h, rfl⟩
def Mate (T : List (List α)) (a b : Nat × Nat) : Prop := a ≠ b ∧ ∃ w, wi T a = some w ∧ wi T b = some w
theorem Mate.symm {T : List (List α)} {a b : Nat × Nat} (h : Mate T a b) : Mate T b a := ⟨fun e => h.1 e.symm, h.2.elim fun w q => ⟨w, q.2, q.1⟩⟩
theorem oc_ {T : List (List α)} (h : Tw T) {a : Nat × Nat} {w : α} (ha : wi T a = some w) : ∃ b, Mate T a b := by
 obtain ⟨x, y, _, ne, all⟩ := ky_ (h w (nD_ ha))
 rcases (all a).mp ha with e | e
 ·exact ⟨y, e ▸ ne, w, ha, (all y).mpr (.inr rfl)⟩
 ·exact ⟨x, fun z => ne (by rw [← z, e]), w, ha, (all x).mpr (.inl rfl)⟩
theorem gx_ {T : List (List α)} (h : Tw T) {a b c : Nat × Nat} (hb : Mate T a b) (hc : Mate T a c) : b = c := by
 obtain ⟨n1, w, a1, b1⟩ := hb
 obtain ⟨n2, w', a2, c2⟩ := hc
 rw [a1] at a2
 cases a2
 obtain ⟨x, y, _, ne, all⟩ := ky_ (h w (nD_ a1))
 rcases (all a).mp a1 with e | e <;> rcases (all b).mp b1 with e1 | e1 <;> rcases (all c).mp c2 with e2 | e2 <;> subst e <;> subst e1 <;> subst e2 <;> first | rfl | exact absurd rfl n1 | exact absurd rfl n2
def rl (T : List (List α)) (p : Nat) : Nat := (T.getD p []).length
def IsC (T : List (List α)) (P : Nat) (c : Nat × Nat) : Prop := c.1 < T.length ∧ c.2 < rl T c.1 + (if c.1 < P then 1 else 0)
theorem od_ {T : List (List α)} {e : Nat × Nat} (h : e.2 < rl T e.1) : ∃ w, wi T e = some w := ⟨_, List.getElem?_eq_getElem h⟩
theorem wi_lt {T : List (List α)} {e : Nat × Nat} {w : α} (h : wi T e = some w) : e.2 < rl T e.1 ∧ e.1 < T.length := by
 have h1 : e.2 < rl T e.1 := (List.getElem?_eq_some_iff.mp h).1
 refine ⟨h1, ?_⟩
 rcases Nat.lt_or_ge e.1 T.length with z | z
 ·exact z
 ·unfold rl at h1
  rw [List.getD_eq_getElem?_getD, List.getElem?_eq_none z] at h1
  simp at h1
def nx (T : List (List α)) (P : Nat) (c m : Nat × Nat) : Nat × Nat :=
 if c.2 = rl T c.1 then ((c.1 + P - 1) % P, 0) else if m.1 < P then (m.1, m.2 + 1) else (m.1, (m.2 + 1) % rl T m.1)
def Nx (T : List (List α)) (P : Nat) (c c' : Nat × Nat) : Prop := (c.2 = rl T c.1 ∧ c' = ((c.1 + P - 1) % P, 0)) ∨ (c.2 < rl T c.1 ∧ ∃ m, Mate T c m ∧ c' = if m.1 < P then (m.1, m.2 + 1) else (m.1, (m.2 + 1) % rl T m.1))
theorem nx_c {T : List (List α)} {P : Nat} (hP : 0 < P) (hPT : P ≤ T.length) {c c' : Nat × Nat} (hc : IsC T P c) (h : Nx T P c c') : IsC T P c' := by
 rcases h with ⟨h1, rfl⟩ | ⟨h1, m, ⟨_, w, _, hm⟩, rfl⟩
 ·have := Nat.mod_lt (c.1 + P - 1) hP
  exact ⟨by show (c.1 + P - 1) % P < _; omega, by show 0 < _; simp only [this, if_true]; omega⟩
 ·obtain ⟨a, b⟩ := wi_lt hm
  split
  ·rename_i z
   exact ⟨b, by show m.2 + 1 < _; simp only [z, if_true]; omega⟩
  ·refine ⟨b, ?_⟩
   have := Nat.mod_lt (m.2 + 1) (show 0 < rl T m.1 by omega)
   exact Nat.lt_of_lt_of_le this (Nat.le_add_right _ _)
theorem oe_ {m a b : Nat} (ha : a < m) (hb : b < m) (h : (a + 1) % m = (b + 1) % m) : a = b := by
 by_cases z1 : a + 1 = m <;> by_cases z2 : b + 1 = m
 ·omega
 ·rw [z1, Nat.mod_self, Nat.mod_eq_of_lt (by omega)] at h; omega
 ·rw [z2, Nat.mod_self, Nat.mod_eq_of_lt (by omega)] at h; omega
 ·rw [Nat.mod_eq_of_lt (by omega), Nat.mod_eq_of_lt (by omega)] at h; omega
theorem m4_ {P a b : Nat} (ha : a < P) (hb : b < P) (h : (a + P - 1) % P = (b + P - 1) % P) : a = b := by
 have e : ∀ x, x < P → (x + P - 1) % P = if x = 0 then P - 1 else x - 1 := fun x hx => by
  by_cases z : x = 0
  ·rw [if_pos z, z, Nat.zero_add, Nat.mod_eq_of_lt (by omega)]
  ·rw [if_neg z, show x + P - 1 = (x - 1) + P by omega, Nat.add_mod_right, Nat.mod_eq_of_lt (by omega)]
 rw [e a ha, e b hb] at h
 split at h <;> split at h <;> omega
theorem nE_ {T : List (List α)} {P : Nat} (h : Tw T) (hP : 0 < P) {c d x : Nat × Nat} (hc : IsC T P c) (hd : IsC T P d) (h1 : Nx T P c x) (h2 : Nx T P d x) : c = d := by
 have post : ∀ {c : Nat × Nat}, IsC T P c → c.2 = rl T c.1 → c.1 < P := fun {c} hc e => by
  have := hc.2
  split at this
  ·assumption
  ·omega
 rcases h1 with ⟨a1, a2⟩ | ⟨a1, m, am, a2⟩ <;> rcases h2 with ⟨b1, b2⟩ | ⟨b1, m', bm, b2⟩
 ·rw [a2] at b2
  have e := m4_ (post hc a1) (post hd b1) (congrArg Prod.fst b2)
  exact Prod.ext e (by rw [a1, b1, e])
 ·exfalso
  rw [a2] at b2
  have lt := Nat.mod_lt (c.1 + P - 1) hP
  split at b2
  ·have := congrArg Prod.snd b2; dsimp only at this; omega
  ·have := congrArg Prod.fst b2; dsimp only at this; omega
 ·exfalso
  rw [b2] at a2
  have lt := Nat.mod_lt (d.1 + P - 1) hP
  split at a2
  ·have := congrArg Prod.snd a2; dsimp only at this; omega
  ·have := congrArg Prod.fst a2; dsimp only at this; omega
 ·rw [a2] at b2
  obtain ⟨_, w, _, wm⟩ := id am
  obtain ⟨_, w', _, wm'⟩ := id bm
  have l1 := (wi_lt wm).1
  have l2 := (wi_lt wm').1
  have e : m = m' := by
   split at b2 <;> split at b2
   ·have e1 := congrArg Prod.fst b2; have e2 := congrArg Prod.snd b2; dsimp only at e1 e2
    exact Prod.ext e1 (by omega)
   ·have e1 := congrArg Prod.fst b2; dsimp only at e1; omega
   ·have e1 := congrArg Prod.fst b2; dsimp only at e1; omega
   ·have e1 := congrArg Prod.fst b2; have e2 := congrArg Prod.snd b2; dsimp only at e1 e2
    rw [← e1] at e2 l2
    exact Prod.ext e1 (oe_ l1 l2 e2)
  subst e
  exact gx_ h am.symm bm.symm
def corners (T : List (List α)) (P : Nat) : List (Nat × Nat) := (List.range T.length).flatMap fun p => (List.range (rl T p + (if p < P then 1 else 0))).map fun k => (p, k)
theorem eV_ {T : List (List α)} {P : Nat} {c : Nat × Nat} : c ∈ corners T P ↔ IsC T P c := by
 unfold corners IsC
 rw [List.mem_flatMap]
 constructor
 ·rintro ⟨p, hp, hc⟩
  obtain ⟨k, hk, rfl⟩ := List.mem_map.mp hc
  exact ⟨List.mem_range.mp hp, List.mem_range.mp hk⟩
 ·rintro ⟨h1, h2⟩
  exact ⟨c.1, List.mem_range.mpr h1, List.mem_map.mpr ⟨c.2, List.mem_range.mpr h2, rfl⟩⟩
inductive Way (T : List (List α)) (P : Nat) : List (Nat × Nat) → Nat × Nat → Prop
 | one {c d} : Nx T P c d → Way T P [c] d
 | more {l c d} : Way T P l c → Nx T P c d → Way T P (l ++ [c]) d
theorem kz_ {T : List (List α)} {P : Nat} {l : List (Nat × Nat)} {d : Nat × Nat} (w : Way T P l d) : l ≠ [] := by
 cases w with
 | one _ => simp
 | more _ _ => simp
theorem kA_ {β : Type} {l m : List β} {c : β} (h : l ≠ []) (e : (l ++ m).head? = some c) : l.head? = some c := by
 cases l with
 | nil => exact absurd rfl h
 | cons a r => exact e
theorem hM_ {β : Type} [DecidableEq β] : ∀ {l m : List β}, l.Nodup → (∀ x ∈ l, x ∈ m) → l.length ≤ m.length
 | [], _, _, _ => Nat.zero_le _
 | a :: l, m, nd, h => by
  rw [List.nodup_cons] at nd
  have := hM_ (l := l) (m := m.erase a) nd.2 fun x hx => by
   have hne : x ≠ a := fun e => by subst e; exact nd.1 hx
   exact (List.mem_erase_of_ne hne).mpr (h x (List.mem_cons_of_mem _ hx))
  have ha := h a List.mem_cons_self
  rw [List.length_erase_of_mem ha] at this
  have : 0 < m.length := List.length_pos_of_mem ha
  simp only [List.length_cons]
  omega
theorem h8_ {T : List (List α)} {P : Nat} (h : Tw T) (hP : 0 < P) (hPT : P ≤ T.length) {c : Nat × Nat} : ∀ {l : List (Nat × Nat)} {d : Nat × Nat}, Way T P l d → l.head? = some c → IsC T P c → IsC T P d ∧ (∀ x ∈ l, IsC T P x) ∧ (∀ x ∈ l, x = c ∨ ∃ y ∈ l, Nx T P y x)
  ∧ ∃ z ∈ l, Nx T P z d := by
 intro l d w
 induction w with
 | @one a b hn =>
  intro hc ic
  cases hc
  exact ⟨nx_c hP hPT ic hn, fun x hx => by rw [List.mem_singleton.mp hx]; exact ic, fun x hx => .inl (List.mem_singleton.mp hx), c, by simp, hn⟩
 | @more l' x y w hn ih =>
  intro hc ic
  have hc' : l'.head? = some c := kA_ (kz_ w) hc
  obtain ⟨i1, i2, i3, z, hz, i4⟩ := ih hc' ic
  refine ⟨nx_c hP hPT i1 hn, fun q hq => ?_, fun q hq => ?_, x, by simp, hn⟩
  ·rcases List.mem_append.mp hq with q' | q'
   ·exact i2 q q'
   ·rw [List.mem_singleton.mp q']; exact i1
  ·rcases List.mem_append.mp hq with q' | q'
   ·exact (i3 q q').imp id fun ⟨y, hy, e⟩ => ⟨y, List.mem_append_left _ hy, e⟩
   ·rw [List.mem_singleton.mp q']
    exact .inr ⟨z, List.mem_append_left _ hz, i4⟩
theorem of_ {T : List (List α)} {P : Nat} (h : Tw T) (hP : 0 < P) (hPT : P ≤ T.length) {c d : Nat × Nat} {l : List (Nat × Nat)} (w : Way T P l d) (hc : l.head? = some c) (ic : IsC T P c) (nd : l.Nodup) (hd : d ≠ c) : d ∉ l := fun hm => by
 obtain ⟨i1, i2, i3, z, hz, i4⟩ := h8_ h hP hPT w hc ic
 -- d = x in l; x ≠ c so x is behind some y in l; y = z, the last one; so by the order of the way ..
 have key : ∀ {l : List (Nat × Nat)} {d : Nat × Nat}, Way T P l d → l.head? = some c → l.Nodup → d ∈ l → d = c := by
  intro l d w
  induction w with
  | @one a b hn =>
   intro hc nd hm
   cases hc
   exact List.mem_singleton.mp hm
  | @more l' x y w hn ih =>
   intro hc nd hm
   have hc' : l'.head? = some c := kA_ (kz_ w) hc
   obtain ⟨j1, j2, j3, z, hz, j4⟩ := h8_ h hP hPT w hc' ic
   rw [List.nodup_append] at nd
   have xnew : x ∉ l' := fun q => nd.2.2 x q x (by simp) rfl
   rcases List.mem_append.mp hm with q | q
   ·rcases j3 y q with e | ⟨u, hu, e⟩
    ·exact e
    ·have : u = x := nE_ h hP (j2 u hu) j1 e hn
     exact absurd (this ▸ hu) xnew
   ·have e := List.mem_singleton.mp q
    subst e
    -- x behind z in l' and x behind x: z = x
    have : z = y := nE_ h hP (j2 z hz) j1 j4 hn
    exact absurd (this ▸ hz) xnew
 exact hd (key w hc nd hm)
theorem og_ {T : List (List α)} {P : Nat} (h : Tw T) (hP : 0 < P) (hPT : P ≤ T.length) {c d : Nat × Nat} {l : List (Nat × Nat)} (w : Way T P l d) (hc : l.head? = some c) (ic : IsC T P c) (nd : l.Nodup) : l.length ≤ (corners T P).length :=
 hM_ nd fun x hx => eV_.mpr ((h8_ h hP hPT w hc ic).2.1 x hx)
end RimT
namespace RimT
variable {α : Type} [DecidableEq α]
def ins (l : List α) (k : Nat) (w : α) : List α := l.take k ++ w :: l.drop k
theorem fE_ (l : List α) (k : Nat) (w : α) : (ins l k w).length = l.length + 1 := by
 unfold ins
 simp only [List.length_append, List.length_take, List.length_cons, List.length_drop]
 omega
theorem lQ_ (l : List α) (k : Nat) (w x : α) : (ins l k w).count x = l.count x + if w = x then 1 else 0 := by
 unfold ins
 rw [List.count_append, List.count_cons]
 have := List.take_append_drop k l
 have e : l.count x = (l.take k).count x + (l.drop k).count x := by rw [← List.count_append, this]
 rw [e]
 by_cases h : w = x
 ·simp [h]; omega
 ·simp [h]
def insAt (T : List (List α)) (c : Nat × Nat) (w : α) : List (List α) := T.set c.1 (ins (T.getD c.1 []) c.2 w)
theorem g1_ (x : α) (l' : List α) : ∀ (T : List (List α)) (p : Nat), p < T.length → (T.set p l').flatten.count x + (T.getD p []).count x = T.flatten.count x + l'.count x
 | [], p, h => absurd h (by simp)
 | l :: T, 0, h => by
  simp only [List.set_cons_zero, List.flatten_cons, List.count_append, List.getD_cons_zero]
  omega
 | l :: T, p + 1, h => by
  have := g1_ x l' T p (by simpa using h)
  simp only [List.set_cons_succ, List.flatten_cons, List.count_append, List.getD_cons_succ]
  omega
theorem jG_ (l' : List α) : ∀ (T : List (List α)) (p : Nat), p < T.length → (T.set p l').flatten.length + (T.getD p []).length = T.flatten.length + l'.length
 | [], p, h => absurd h (by simp)
 | l :: T, 0, h => by
  simp only [List.set_cons_zero, List.flatten_cons, List.length_append, List.getD_cons_zero]
  omega
 | l :: T, p + 1, h => by
  have := jG_ l' T p (by simpa using h)
  simp only [List.set_cons_succ, List.flatten_cons, List.length_append, List.getD_cons_succ]
  omega
theorem dB_ {T : List (List α)} {c : Nat × Nat} (h : c.1 < T.length) (w x : α) : (insAt T c w).flatten.count x = T.flatten.count x + if w = x then 1 else 0 := by
 have := g1_ x (ins (T.getD c.1 []) c.2 w) T c.1 h
 rw [lQ_] at this
 unfold insAt
 omega
theorem g2_ {T : List (List α)} {c : Nat × Nat} (h : c.1 < T.length) (w : α) : (insAt T c w).flatten.length = T.flatten.length + 1 := by
 have := jG_ (ins (T.getD c.1 []) c.2 w) T c.1 h
 rw [fE_] at this
 unfold insAt
 omega
theorem aK_ (T : List (List α)) (c : Nat × Nat) (w : α) : (insAt T c w).length = T.length := by unfold insAt; simp
theorem gy_ {T : List (List α)} {c : Nat × Nat} (w : α) (p : Nat) : rl T p ≤ rl (insAt T c w) p := by
 unfold insAt rl
 rw [List.getD_eq_getElem?_getD, List.getD_eq_getElem?_getD, List.getElem?_set]
 by_cases h : c.1 = p
 ·subst h
  by_cases h2 : c.1 < T.length
  ·simp only [if_true, h2, Option.getD_some, fE_]
   rw [List.getD_eq_getElem?_getD]
   omega
  ·simp [h2, List.getElem?_eq_none (Nat.not_lt.mp h2)]
 ·simp [h]
structure Gr (P W : Nat) (T : List (List Nat)) : Prop where
 len : P ≤ T.length
 most : T.length ≤ P + 10
 two : ∀ w, w < W → T.flatten.count w = 2
 lt : ∀ w ∈ T.flatten, w < W
 ne : ∀ p, P ≤ p → p < T.length → 0 < rl T p
 tot : T.flatten.length = 2 * W
theorem Gr.tw {P W : Nat} {T : List (List Nat)} (g : Gr P W T) : Tw T := fun w h => g.two w (g.lt w h)
theorem m5_ (P : Nat) : Gr P 0 (List.replicate P []) := by
 have e : (List.replicate P ([] : List Nat)).flatten = [] := by
  induction P with
  | zero => rfl
  | succ n ih => rw [List.replicate_succ, List.flatten_cons, ih]; rfl
 exact ⟨by simp, by simp, fun w h => absurd h (by omega), fun w h => (by rw [e] at h; cases h), fun p h1 h2 => (by simp at h2; omega), (by rw [e]; rfl)⟩
theorem g3_ {T : List (List Nat)} {c : Nat × Nat} (h : c.1 < T.length) {w x : Nat} (hx : x ∈ (insAt T c w).flatten) : x = w ∨ x ∈ T.flatten := by
 by_cases e : x = w
 ·exact .inl e
 ·right
  have := List.count_pos_iff.mpr hx
  rw [dB_ h, if_neg (fun z => e z.symm)] at this
  exact List.count_pos_iff.mp (by omega)
theorem oh_ {P W : Nat} {T : List (List Nat)} {c : Nat × Nat} (g : Gr P W T) (hc : c.1 < T.length) (h : T.length < P + 10) : Gr P (W + 1) (insAt T c W ++ [[W]]) := by
 have fl : (insAt T c W ++ [[W]]).flatten = (insAt T c W).flatten ++ [W] := by rw [List.flatten_append]; simp
 refine ⟨by simp [aK_]; have := g.len; omega, by simp [aK_]; omega, fun w hw => ?_, fun w hw => ?_, fun p h1 h2 => ?_, ?_⟩
 ·rw [fl, List.count_append, dB_ hc]
  by_cases e : w = W
  ·subst e
   have : T.flatten.count w = 0 := List.count_eq_zero.mpr fun z => absurd (g.lt w z) (by omega)
   simp [this]
  ·have := g.two w (by omega)
   rw [if_neg (fun z => e z.symm), this]
   rw [List.count_eq_zero.mpr fun z => e (List.mem_singleton.mp z)]
 ·rw [fl] at hw
  rcases List.mem_append.mp hw with hw | hw
  ·rcases g3_ hc hw with e | e
   ·omega
   ·have := g.lt w e; omega
  ·have := List.mem_singleton.mp hw; omega
 ·simp only [List.length_append, aK_, List.length_singleton] at h2
  by_cases e : p < T.length
  ·have := g.ne p h1 e
   have a := gy_ (T := T) (c := c) W p
   unfold rl at a ⊢
   rw [List.getD_eq_getElem?_getD, List.getElem?_append_left (by rw [aK_]; exact e), ← List.getD_eq_getElem?_getD]
   unfold rl at this
   omega
  ·have e : p = T.length := by omega
   subst e
   unfold rl
   rw [List.getD_eq_getElem?_getD, List.getElem?_append_right (by rw [aK_]; exact Nat.le_refl _), aK_]
   simp
 ·rw [fl, List.length_append, g2_ hc, g.tot]
  simp
  omega
theorem o4_ {P W : Nat} {T : List (List Nat)} {c d : Nat × Nat} (g : Gr P W T) (hc : c.1 < T.length) (hd : d.1 < T.length) : Gr P (W + 1) (insAt (insAt T c W) d W) := by
 have hd' : d.1 < (insAt T c W).length := by rw [aK_]; exact hd
 refine ⟨by rw [aK_, aK_]; exact g.len, by rw [aK_, aK_]; exact g.most, fun w hw => ?_, fun w hw => ?_, fun p h1 h2 => ?_, ?_⟩
 ·rw [dB_ hd', dB_ hc]
  by_cases e : w = W
  ·subst e
   have : T.flatten.count w = 0 := List.count_eq_zero.mpr fun z => absurd (g.lt w z) (by omega)
   simp [this]
  ·rw [if_neg (fun z => e z.symm), g.two w (by omega)]
 ·rcases g3_ hd' hw with e | e
  ·omega
  ·rcases g3_ hc e with e | e
   ·omega
   ·have := g.lt w e; omega
 ·rw [aK_, aK_] at h2
  have := g.ne p h1 h2
  have a := gy_ (T := T) (c := c) W p
  have b := gy_ (T := insAt T c W) (c := d) W p
  omega
 ·rw [g2_ hd', g2_ hc, g.tot]
  omega
theorem jH_ {T : List (List α)} {P : Nat} : (corners T P).length ≤ T.flatten.length + P := by
 have key : ∀ n, n ≤ T.length → ((List.range n).flatMap fun p => (List.range (rl T p + (if p < P then 1 else 0))).map fun k => (p, k)).length ≤ (T.take n).flatten.length + min n P := fun n => by
  induction n with
  | zero => intro _; simp
  | succ n ih =>
   intro h
   have i := ih (by omega)
   have e : T[n]? = some T[n] := List.getElem?_eq_getElem (by omega)
   rw [List.range_succ, List.flatMap_append, List.length_append, List.take_succ, e, List.flatten_append, List.length_append]
   have r : rl T n = T[n].length := by unfold rl; rw [List.getD_eq_getElem?_getD, e]; rfl
   simp only [List.flatMap_cons, List.flatMap_nil, List.append_nil, List.length_map, List.length_range, Option.toList_some, List.flatten_cons, List.flatten_nil, r]
   split <;> omega
 have := key T.length (Nat.le_refl _)
 rw [List.take_length] at this
 unfold corners
 omega
theorem Gr.corners {P W : Nat} {T : List (List Nat)} (g : Gr P W T) : (corners T P).length ≤ 2 * W + P := by
 have := jH_ (T := T) (P := P)
 rw [g.tot] at this
 exact this
end RimT
namespace L2
open PySem PySem.Spec PyProof.Rows
def numsV (n : Nat) : List V := (List.range n).map fun i : Nat => V.int (i : Int)
def tLRange (ta : TA) : TE := fun σ H Q => ta σ H fun vs H1 => ∃ n : Nat, vs = [.int (n : Int)] ∧ n ≤ 1000 ∧ ∀ l, H1 l = none → Q (.ref l) (upd H1 l (.lst (numsV n)))
theorem kB_ : ∀ {xs : List V} {us : List Value}, xs.length = us.length → (∀ (j : Nat) x u, xs[j]? = some x → us[j]? = some u → RelV x u) → Vals xs us
 | [], [], _, _ => .nil
 | [], _ :: _, h, _ => by simp at h
 | _ :: _, [], h, _ => by simp at h
 | x :: xs, u :: us, h, k => .cons (k 0 x u rfl rfl) (kB_ (by simpa using h) fun j y v e e' => k (j + 1) y v (by simpa using e) (by simpa using e'))
theorem iW_ {X : Cx} {a : Expr} {ta : TA} {p p' pos pos' : Pos} (hc : X.calm = true) (hg : Gl X "list") (hm : X.mg "list" = none) (hg' : Gl X "range") (hm' : X.mg "range" = none) (ha : PA X [a] ta) (hs : plainArgs [a] = true := by rfl) :
  PE X (.Call (.Name "list" p) [.Call (.Name "range" p') [a] [] pos'] [] pos) (tLRange ta) := by
 have h' : notStar a = true := by simpa [plainArgs] using hs
 intro pins s σ H Q I h
 refine wpAny_Call_Name_kw (d8_ I hg hm oa_ ?_ (by decide) (by decide))
 refine PyProof.Rows.callWith_type1 ?_ (aq_ rfl) rfl
 rw [aq_ (e := .Call (.Name "range" p') [a] [] pos') (es := []) rfl]
 show wpAny _ _ (spliced ((false, eval (.Call (.Name "range" p') [a] [] pos') X.env) :: backTo pos (starEach [] X.env))) _ _ s
 refine Calls.spliced_cons ?_
 refine Call_ (d8_ I hg' hm' boot_range (PyProof.Rows.callWith_type1 (thn (ha pos' pins s σ H _ I h) fun us s1 ⟨vs, H1, I1, r1, q1⟩ => ?_) (aq_ h') rfl))
 obtain ⟨n, e, n1, q⟩ := q1
 subst e
 cases r1 with
 | cons r rr =>
  cases rr
  obtain ⟨t, rfl⟩ := r
  refine call_range_1 ?_
  refine Calls.spliced_nil ?_
  have I2 : Inv X pins σ H1 { s1 with heap := s1.heap.push { cls := .type "range", data := .fields #[.int 0 s1.toks, .int (n : Int) t, .int 1 (s1.toks + 1)] }, toks := s1.toks + 1 + 1 } := I1.kept fun b o e => Heap.get?_push_of_some _ e
  refine call_list_range (n := n) (I2.ok.hd hc) (IsRange.new ..) (small_one (by omega) (by omega) (by omega) (by omega)) (by rw [rangeSize_one]; split <;> omega) (by omega) fun h2 tk acc c hk hS hacc => ?_
  refine ⟨.ref _, _, I2.laid (t' := tk) hk (Nat.le_refl _) (show ObjOk X.prog X.w _ h2 _ (.lst (numsV n)) from ⟨?_, acc.toList, c, kB_ ?_ ?_, by simpa using hS⟩), rfl, q _ (I2.hok.fresh (Nat.le_refl _))⟩
  ·exact Nat.le_of_lt (small1000 (by simp [numsV]; omega))
  ·simp [numsV, hacc.1]
  ·intro j x u hx hu
   have hj : j < n := by
    have := (List.getElem?_eq_some_iff.mp hx).1
    simpa [numsV] using this
   have hx' : x = V.int (j : Int) := by
    rw [numsV, List.getElem?_map, List.getElem?_range hj] at hx
    exact (Option.some.inj hx).symm
   obtain ⟨tk', rfl⟩ := hacc.2 j u (by simpa using hu)
   rw [hx']
   exact ⟨tk', by rw [Int.zero_add, Int.mul_one]⟩
end L2
namespace L2
open PySem PySem.Spec PyProof.Rows PySem.W
def runT {α : Type} (lt : Nat → Nat → Bool) (n : Nat) : KasT α → Option α
 | .ret a => some a
 | .ask i j k => if i < n ∧ j < n then runT lt n (k (lt i j)) else none
theorem lR_ {α : Type} {ask : Nat → Nat → (Bool → Shared → Prop) → Shared → Prop} {lt : Nat → Nat → Bool} {n : Nat} {Q : α → Shared → Prop} {s : Shared} (hc : ∀ i j (C : Bool → Shared → Prop), i < n → j < n → C (lt i j) s → ask i j C s) :
  ∀ (t : KasT α) {p : α}, runT lt n t = some p → Q p s → t.kasWp ask Q s
 | .ret a, p, e, q => by
  cases e
  exact q
 | .ask i j k, p, e, q => by
  unfold runT at e
  split at e
  ·rename_i h
   exact hc i j _ h.1 h.2 (lR_ hc (k (lt i j)) e q)
  ·cases e
section
variable {X : Cx} {pins : List (Addr × Obj)} {σ : St} {H : Hp} {s : Shared}
theorem o5_ {h : Heap} {a : Addr} {m m' : Str → Option Value} (x : h.Ns a m) (y : h.Ns a m') : m = m' := by
 obtain ⟨o, es, ep, ho, hd, _, hf⟩ := x
 obtain ⟨o', es', ep', ho', hd', _, hf'⟩ := y
 rw [ho] at ho'
 cases ho'
 rw [hd] at hd'
 cases hd'
 funext z
 rw [← hf z, hf' z]
theorem Inv.keeps (I : Inv X pins σ H s) {m : Str → Option Value} {h' : Heap} (F : Fr X.base X.env.locals h' m) (N : News X.base X.env.locals h' (allNews X.base s.heap X.env.locals)) :
  ∀ b o, b ≠ X.env.locals → s.heap.get? b = some o → h'.get? b = some o := fun b o hb e => by
 cases q : X.base.get? b with
 | some u =>
  have z := I.bk b u q
  rw [e] at z
  cases z
  exact F.keep b _ q
 | none => exact (N (b, o) (dx_ hb q e)).1
theorem Inv.led {H' : Hp} {t' : Nat} (I : Inv X pins σ H s) {m : Str → Option Value} (hn : s.heap.Ns X.env.locals m) {h' : Heap} (F : Fr X.base X.env.locals h' m) (N : News X.base X.env.locals h' (allNews X.base s.heap X.env.locals))
  (free : ∀ b o, s.heap.get? b = some o → H b = none → H' b = none) (old : ∀ b o, H b = some o → H' b = some o) (new : ∀ b o, H' b = some o → H b = none → ObjOk X.prog X.w H' h' b o) : Inv X pins σ H' { s with heap := h', toks := t' } := by
 have kp := I.keeps F N
 refine I.step (g' := s.gens) (d' := s.drawn) (ch := []) (fun _ z => nomatch z) (fun b o hb _ _ e _ => kp b o hb e) (fun b o hb _ _ e _ => ⟨o.slots, kp b o hb e⟩) (fun b o _ e n => free b o e n) (fun b o _ e => ?_) (fun b xs q => old b _ q) (fun b o u q => old b _ q) (fun b ps q => ⟨#[], by simpa using old b _ q⟩) (fun m' hm => ?_) ?_ I.bare
 ·by_cases hb : b = X.env.locals
  ·subst hb
   obtain ⟨o', _, _, ho', _⟩ := F.ns
   exact ⟨o', ho'⟩
  ·exact ⟨o, kp b o hb e⟩
 ·rw [o5_ hm hn]
  exact F.ns
 ·intro b o e
  cases q : H b with
  | none => exact new b o e q
  | some u =>
   have z := old b u q
   rw [e] at z
   cases z
   refine (I.hok b o q).stay (fun c v hc r => kp c v (fun w => ?_) r) (fun c r => old c _ r) fun c xs r => old c _ r
   rcases hc with rfl | hc
   ·rw [w, I.free] at q; cases q
   ·rw [w, I.free] at hc; cases hc
theorem iX_ {ys : List V} {its : List Value} (r : Vals ys its) (is : List Nat) : Vals (is.map fun i => ys.getD i .non) (is.map fun i => its.getD i Value.none) := by
 induction is with
 | nil => exact .nil
 | cons i is ih =>
  refine .cons ?_ ih
  show RelV (ys.getD i .non) (its.getD i Value.none)
  rw [List.getD_eq_getElem?_getD, List.getD_eq_getElem?_getD]
  have hl := r.length
  cases e : ys[i]? with
  | none =>
   have : ys.length ≤ i := List.getElem?_eq_none_iff.mp e
   rw [List.getElem?_eq_none_iff.mpr (by omega)]
   exact rfl
  | some x =>
   obtain ⟨u, hu, ru⟩ := r.get e
   rw [hu]
   exact ru
theorem ob_is {P : Program} {w : World} {H : Hp} {h : Heap} {a : Addr} {o : HO} (x : ObjOk P w H h a o) : ∃ ob, h.get? a = some ob := by
 cases o with
 | lst xs => obtain ⟨_, _, _, _, e⟩ := x; exact ⟨_, e⟩
 | tup xs => obtain ⟨_, _, _, ob, e, _⟩ := x; exact ⟨_, e⟩
 | dK kvs => obtain ⟨_, _, _, _, ob, _, _, e, _⟩ := x; exact ⟨_, e⟩
 | dT kvs => obtain ⟨_, _, _, _, ob, _, _, e, _⟩ := x; exact ⟨_, e⟩
 | set S n => obtain ⟨ob, _, _, _, e, _⟩ := x; exact ⟨_, e⟩
 | ins C dx fs => obtain ⟨_, _, _, e, _⟩ := x; exact ⟨_, e⟩
 | own y => exact x
 | xd fs => obtain ⟨_, ⟨ob, _, _, e, _⟩, _⟩ := x; exact ⟨_, e⟩
 | rng lo hi => obtain ⟨_, _, _, e⟩ := x; exact ⟨_, e⟩
 | frz ob u => exact ⟨_, x.1⟩
 | tbl ps => exact ⟨_, show h.get? a = some _ from x⟩
 | met f y => exact ⟨_, show h.get? a = some _ from x⟩
 | ext φ => exact x.2.1
theorem lS_ {Q : VK} {p : Addr} {ys : List V} {lt : Nat → Nat → Bool} {κ : SortKind} {pm : Array Nat} (I : Inv X pins σ H s) (hq : SqL X.K H p ys) (h2 : 2 ≤ ys.length) (h64 : ys.length < 64)
  (kind : ∀ (its : List Value) (s' : Shared), Vals ys its → Inv X pins σ H s' → ∀ C : SortKind → Shared → Prop, C κ s' → wpAny (model X.prog X.w) X.A.in1.in1 (keyKind' its.toArray) C (fun _ _ => False) s')
  (less : ∀ (its : List Value) (s' : Shared) (i j : Nat), Vals ys its → Inv X pins σ H s' → i < ys.length → j < ys.length → ∀ C : Bool → Shared → Prop, C (lt i j) s' → wpAny (model X.prog X.w) X.A.in1.in1 (keyLt' κ (its.getD i Value.none) (its.getD j Value.none)) C (fun _ _ => False) s')
  (run : runT lt ys.length (kas_sort ys.length) = some pm) (hz : pm.size ≤ 1000) (q : ∀ l, H l = none → Q (.ref l) (upd H l (.lst (pm.toList.map fun i => ys.getD i .non)))) :
  wpAny (model X.prog X.w) X.A (call (.builtin "sorted") [.ref p]) (EP X pins σ Q) X.xe s := by
 obtain ⟨its, rv, pl, _⟩ := I.list hq
 have hl := rv.length
 obtain ⟨m, hn, _⟩ := id I.loc
 have F0 : Fr X.base X.env.locals s.heap m := ⟨hn, I.bk, Nat.le_trans I.ok.bsz I.ok.above⟩
 refine kat_sorted F0 gq_ pl.isList (by omega) (by omega) fun D e1 h1 F1 N1 lt1 => ?_
 have N1' : News X.base X.env.locals h1 (allNews X.base s.heap X.env.locals) := fun z hz' => N1 z (List.mem_cons_of_mem _ hz')
 have ND := N1 (D, _) List.mem_cons_self
 have fr : ∀ b o, s.heap.get? b = some o → b ≠ D := fun b o e w => by
  subst w
  exact absurd (lt1 (b, o) (dx_ ND.2.1 ND.2.2 e)) (Nat.lt_irrefl _)
 have HD : H D = none := by
  cases w : H D with
  | none => rfl
  | some u =>
   obtain ⟨o, g⟩ := ob_is (I.hok D u w)
   exact absurd rfl (fr D o g)
 have I1 : Inv X pins σ H { s with heap := h1, toks := s.toks } := I.led hn F1 N1' (fun _ _ _ n => n) (fun _ _ w => w) (fun b o w n => by rw [w] at n; cases n)
 refine kind its _ rv I1 _ ?_
 rw [← hl]
 refine lR_ (lt := lt) (n := ys.length) (fun i j C hi hj hC => less its _ i j rv I1 hi hj C hC) _ run ?_
 refine KasFin.intro F1 N1 (.head fun z hz' w => ?_) fun h2' c F2 N2 => ?_
 ·exact absurd (lt1 z hz') (by rw [w]; exact Nat.lt_irrefl _)
 ·have N2' : News X.base X.env.locals h2' (allNews X.base s.heap X.env.locals) := fun z hz' => N2 z (List.mem_cons_of_mem _ hz')
  have hD := (N2 (D, _) List.mem_cons_self).1
  refine ⟨.ref D, upd H D (.lst (pm.toList.map fun i => ys.getD i .non)), I.led (t' := s.toks) hn F2 N2' (fun b o e n => by rw [ai_ (fr b o e)]; exact n) (fun b o e => by rw [ai_ (ag_ e HD)]; exact e) (fun b o e n => ?_), rfl, q D HD⟩
  by_cases hb : b = D
  ·subst hb
   rw [ad_] at e
   cases e
   exact ⟨Nat.le_of_lt (small1000 (by simp; omega)), _, c, iX_ rv _, hD⟩
  ·rw [ai_ hb, n] at e
   cases e
end
end L2
namespace L2
open PySem PySem.Spec PyProof.Rows PySem.W HT
section
open PySem.SeqAt
open PySem.AutoSeq1 (wpAny_loadPart')
open PySem.MeetsSeq PySem.MeetsSeq2 PySem.MeetsSeq3
end
section
variable {prog : Program} {w : World} {A : Around} {E : Value → Shared → Prop} {s : Shared}
end
end L2
namespace L2
open PySem PySem.Spec PyProof.Rows PySem.W HT
section
variable {X : Cx} {pins : List (Addr × Obj)} {σ : St} {H : Hp} {s : Shared}
end
end L2
namespace L2
open PySem PyProof.Rows PySem.W
theorem dj_ {α β : Type} {lt : Nat → Nat → Bool} {N : Nat} {f : α → KasT β} : ∀ (t : KasT α) {a : α}, runT lt N t = some a → runT lt N (t.bind f) = runT lt N (f a)
 | .ret b, a, e => by cases e; rfl
 | .ask i j k, a, e => by
  unfold runT at e
  show (if i < N ∧ j < N then runT lt N ((k (lt i j)).bind f) else none) = _
  split at e
  ·rename_i h
   rw [if_pos h]
   exact dj_ (k (lt i j)) e
  ·cases e
section
variable {lt : Nat → Nat → Bool} {N : Nat}
def Pm (N : Nat) (p : Array Nat) : Prop := p.Perm (List.toArray (List.range N))
theorem Pm.below {p : Array Nat} (h : Pm N p) (h0 : 0 < N) (i : Nat) : p.getD i 0 < N := by
 by_cases hi : i < p.size
 ·have e : p.getD i 0 = p[i] := by simp [Array.getD, hi]
  have m : p[i] ∈ (List.range N) := by
   have : p[i] ∈ p.toList := by simp
   exact (Array.perm_iff_toList_perm.mp h).mem_iff.mp this
  rw [e]
  exact List.mem_range.mp m
 ·have e : p.getD i 0 = 0 := by simp [Array.getD, hi]
  rw [e]
  exact h0
theorem jI_ {p : Array Nat} (h : Pm N p) (h0 : 0 < N) : ∀ (f n : Nat), ∃ m, runT lt N (kas_asc p f n) = some m
 | 0, n => ⟨n, rfl⟩
 | f + 1, n => by
  unfold kas_asc runT
  rw [if_pos ⟨h.below h0 _, h.below h0 _⟩]
  cases lt (p.getD n 0) (p.getD (n - 1) 0) with
  | true => exact ⟨n, rfl⟩
  | false => exact jI_ h h0 f (n + 1)
theorem Pm.rev {p : Array Nat} (h : Pm N p) (i j : Nat) : Pm N (kas_rev p i j) := (mirror_perm _ _ _ _).trans h
theorem gz_ (h0 : 0 < N) : ∀ (f : Nat) (p : Array Nat) (n q : Nat), Pm N p → ∃ r, runT lt N (kas_desc f p n q) = some r ∧ Pm N r.1
 | 0, p, n, q, h => ⟨_, rfl, h⟩
 | f + 1, p, n, q, h => by
  unfold kas_desc runT
  rw [if_pos ⟨h.below h0 _, h.below h0 _⟩]
  cases lt (p.getD n 0) (p.getD (n - 1) 0) with
  | true =>
   simp only [if_true]
   split
   ·exact gz_ h0 f _ _ _ (h.rev _ _)
   ·exact gz_ h0 f _ _ _ h
  | false =>
   simp only [Bool.false_eq_true, if_false]
   unfold runT
   rw [if_pos ⟨h.below h0 _, h.below h0 _⟩]
   cases lt (p.getD (n - 1) 0) (p.getD n 0) with
   | true => exact ⟨_, rfl, h⟩
   | false => exact gz_ h0 f _ _ _ h
theorem iY_ (h0 : 0 < N) {n r : Nat} {p : Array Nat} (h : Pm N p) : ∃ z, runT lt N (kas_tail3 n r p) = some z ∧ Pm N z.2 := by
 obtain ⟨m, hm⟩ := jI_ (lt := lt) (h.rev 0 n) h0 (r - n) n
 unfold kas_tail3
 exact ⟨_, (dj_ _ hm).trans rfl, h.rev 0 n⟩
theorem f0_ (h0 : 0 < N) {n r : Nat} {p : Array Nat} (h : Pm N p) : ∃ z, runT lt N (kas_descPart n r p) = some z ∧ Pm N z.2 := by
 obtain ⟨d, hd, hp⟩ := gz_ (lt := lt) h0 (r - (n + 1)) p (n + 1) 0 h
 unfold kas_descPart
 rw [dj_ _ hd]
 split
 ·exact iY_ h0 (hp.rev _ _)
 ·exact iY_ h0 hp
theorem lT_ (h0 : 0 < N) {r : Nat} {p : Array Nat} (h : Pm N p) : ∃ z, runT lt N (kas_count r p) = some z ∧ Pm N z.2 := by
 obtain ⟨m, hm⟩ := jI_ (lt := lt) h h0 (r - 1) 1
 unfold kas_count
 rw [dj_ _ hm]
 split
 ·exact ⟨_, rfl, h⟩
 ·split
  ·unfold runT
   rw [if_pos ⟨h.below h0 _, h.below h0 _⟩]
   cases lt (p.getD 0 0) (p.getD (m - 1) 0) with
   | true => exact ⟨_, rfl, h⟩
   | false => exact f0_ h0 (h.rev _ _)
  ·exact f0_ h0 h
theorem g4_ (h0 : 0 < N) {p : Array Nat} (h : Pm N p) (k : Nat) : ∀ (f l r : Nat), ∃ m, runT lt N (kas_place p k f l r) = some m
 | 0, l, r => ⟨l, rfl⟩
 | f + 1, l, r => by
  unfold kas_place
  split
  ·exact ⟨l, rfl⟩
  ·unfold runT
   rw [if_pos ⟨h.below h0 _, h.below h0 _⟩]
   cases lt (p.getD k 0) (p.getD ((l + r) / 2) 0) with
   | true => exact g4_ h0 h k f l _
   | false => exact g4_ h0 h k f _ r
theorem lU_ (h0 : 0 < N) : ∀ (f : Nat) (p : Array Nat) (k : Nat), Pm N p → ∃ z, runT lt N (kas_bin f p k) = some z ∧ Pm N z
 | 0, p, k, h => ⟨p, rfl, h⟩
 | f + 1, p, k, h => by
  obtain ⟨l, hl⟩ := g4_ (lt := lt) h0 h k k 0 k
  unfold kas_bin
  rw [dj_ _ hl]
  exact lU_ h0 f _ _ ((bubble_perm _ _ _).trans h)
theorem kC_ (h0 : 0 < N) : ∃ z, runT lt N (kas_sort N) = some z ∧ Pm N z := by
 obtain ⟨r, hr, hp⟩ := lT_ (lt := lt) h0 (r := N) (p := List.toArray (List.range N)) (Array.Perm.refl _)
 unfold kas_sort
 rw [dj_ _ hr]
 split
 ·exact lU_ h0 _ _ _ hp
 ·exact ⟨_, rfl, hp⟩
end
end L2
namespace L2
open PySem PySem.Spec PyProof.Rows PySem.W
theorem lV_ {J : It} {g : TG} {tt : TT} {te : TE} {σ : St} {H : Hp} {Q : VK} (n : Nat) (B : Hp) (Pσ : St → Prop) (bs : Nat → Bool) (val : Nat → Dt) (hB : Same B H) (h0 : Pσ σ) (hz : n ≤ 1000) (hgo : ∀ i H', i < n → Same H H' → J.go i H') (hst : ∀ H', Same H H' → J.stop n H')
  (hs : ∀ D i x σ' H' H'', H D = none → (∃ o, H' D = some o) → Same H H' → i < n → J.yld i H' x H'' → Pσ σ' → ∀ (Y : St → V → Hp → Prop) (R : St → Hp → Prop), (bs i = true → ∀ σ2 v H3, Pσ σ2 → Same H' H3 → Rep (cutH B D H3) v (val i) → Y σ2 v H3) → (bs i = false → ∀ σ2 H3, Pσ σ2 → Same H' H3 → R σ2 H3) →
   g x σ' H'' fun σ2 H2 => tt σ2 H2 fun b H3 => if b = true then te σ2 H3 fun v H4 => Y σ2 v H4 else R σ2 H3)
  (hd : ∀ D H', H D = none → Same H H' → Rep (newH B H') (.ref D) (.lst (((List.range n).filter bs).map val)) → Q (.ref D) H') : CompGo J g tt te σ H Q := by
 intro D hD
 have hBD : B D = none := hB.free hD
 refine ⟨fun i m σ' H' => m = n - i ∧ i ≤ n ∧ Pσ σ' ∧ Same H H' ∧ ∃ ys, H' D = some (.lst ys) ∧ Reps (cutH B D H') ys (((List.range i).filter bs).map val), ⟨n, by simp, Nat.zero_le _, h0, Same.new hD, [], ad_, rfl⟩, ?_⟩
 rintro i m σ' H' ⟨rfl, hi, hp, hs', ys, hys, hr⟩
 have hl : ys.length ≤ i := by
  rw [hr.length, List.length_map]
  have := List.length_filter_le bs (List.range i)
  rw [List.length_range] at this
  exact this
 by_cases hlt : i < n
 ·refine .inr ⟨hgo i H' hlt hs', fun σ2 H2 => Pσ σ2 ∧ Same H H2 ∧ ∃ ys, H2 D = some (.lst ys) ∧ Reps (cutH B D H2) ys (((List.range (i + 1)).filter bs).map val), fun σ2 H2 ⟨a, b, c⟩ => ⟨n - (i + 1), by omega, rfl, hlt, a, b, c⟩, fun x H'' hy => ?_⟩
  refine hs D i x σ' H' H'' hD ⟨_, hys⟩ hs' hlt hy hp _ _ (fun hb σ2 v H3 hp2 s3 hv => ?_) fun hb σ2 H3 hp2 s3 => ?_
  ·refine ⟨ys, s3 _ _ hys, small1000 (by omega), hp2, (hs'.trans s3).upd hD, ys ++ [v], ad_, ?_⟩
   rw [kt_, List.range_succ, List.filter_append, List.map_append]
   have e : ([i].filter bs).map val = [val i] := by simp [hb]
   rw [e]
   exact (Reps.mono (gT_ s3) _ hr).append ⟨v, [], rfl, hv, rfl⟩
  ·refine ⟨hp2, hs'.trans s3, ys, s3 _ _ hys, ?_⟩
   rw [List.range_succ, List.filter_append, List.map_append]
   have e : ([i].filter bs).map val = [] := by simp [hb]
   rw [e, List.append_nil]
   exact Reps.mono (gT_ s3) _ hr
 ·have e : i = n := by omega
  subst e
  refine .inl ⟨hst H' hs', hd D H' hD hs' ⟨D, ys, rfl, ?_, Reps.mono ks_ _ hr⟩⟩
  rw [ck_ hBD]
  exact hys
theorem Inv.frm {X : Cx} {pins : List (Addr × Obj)} {σ : St} {H : Hp} {s : Shared} (I : Inv X pins σ H s) : ∃ m, s.heap.Ns X.env.locals m ∧ Fr X.base X.env.locals s.heap m := by
 obtain ⟨m, hn, _⟩ := id I.loc
 exact ⟨m, hn, hn, I.bk, Nat.le_trans I.ok.bsz I.ok.above⟩
theorem Inv.led_new {X : Cx} {pins : List (Addr × Obj)} {σ : St} {H : Hp} {s : Shared} {t' : Nat} {m : Str → Option Value} {h' : Heap} {D : Addr} {o : HO} {ob : Obj} (I : Inv X pins σ H s) (hn : s.heap.Ns X.env.locals m) (F : Fr X.base X.env.locals h' m)
  (N : News X.base X.env.locals h' ((D, ob) :: allNews X.base s.heap X.env.locals)) (lt1 : ∀ q ∈ allNews X.base s.heap X.env.locals, q.1 < D) (new : ObjOk X.prog X.w (upd H D o) h' D o) : H D = none ∧ Inv X pins σ (upd H D o) { s with heap := h', toks := t' } := by
 have ND := N (D, ob) List.mem_cons_self
 have fr : ∀ b o, s.heap.get? b = some o → b ≠ D := fun b o e w => by
  subst w
  exact absurd (lt1 (b, o) (dx_ ND.2.1 ND.2.2 e)) (Nat.lt_irrefl _)
 have HD : H D = none := by
  cases w : H D with
  | none => rfl
  | some u =>
   obtain ⟨o', g⟩ := ob_is (I.hok D u w)
   exact absurd rfl (fr D o' g)
 refine ⟨HD, I.led hn F (fun z hz' => N z (List.mem_cons_of_mem _ hz')) (fun b o' e n => by rw [ai_ (fr b o' e)]; exact n) (fun b o' e => by rw [ai_ (ag_ e HD)]; exact e) (fun b o' e n => ?_)⟩
 by_cases hb : b = D
 ·subst hb
  rw [ad_] at e
  cases e
  exact new
 ·rw [ai_ hb, n] at e
  cases e
def rSortI : List V → Hp → VK → Prop := fun vs H Q => ∃ (p : Addr) (ns : List Int), vs = [.ref p] ∧ H p = some (.lst (ns.map V.int)) ∧ ns.length < 64 ∧ ∀ (l : Addr) (zs : List Int), H l = none → zs.Perm ns → zs.Pairwise (· ≤ ·) → Q (.ref l) (upd H l (.lst (zs.map V.int)))
theorem f1_ : ∀ {us : List Value} {ns : List Int}, IntsAre us ns → Vals (ns.map V.int) us
 | _, _, .nil => .nil
 | _, _, .cons n t h => .cons ⟨t, rfl⟩ (f1_ h)
theorem kX_ {X : Cx} : CallR X (.builtin "sorted") rSortI := by
 intro pins s σ H xs us Q I r h
 obtain ⟨p, ns, rfl, hp, h64, q⟩ := h
 obtain ⟨u, rfl, e⟩ := vals1 r
 cases e
 obtain ⟨its, rv, pl, _⟩ := I.list (.inl (.inl hp))
 obtain ⟨m, hn, F0⟩ := I.frm
 refine kso_sorted F0 gq_ pl.isList (hI_ rv) h64 fun D vs' zs c h' F N lt1 hz hlz hpm hpw _ => ?_
 have hD := (N (D, _) List.mem_cons_self).1
 obtain ⟨HD, I2⟩ := I.led_new (t' := s.toks) (o := .lst (zs.map V.int)) hn F N lt1 ⟨Nat.le_of_lt (small1000 (by rw [List.length_map]; omega)), vs', c, f1_ hz, hD⟩
 exact ⟨.ref D, _, I2, rfl, q D zs HD hpm hpw⟩
end L2
namespace L2
open PySem PySem.Spec PyProof.Rows PySem.W
section
variable {prog : Program} {w : World} {A : Around} {E : Value → Shared → Prop} {s : Shared}
theorem sort1 {a : Addr} {v : Value} {n : Nat} {P : PySem.Fin → Shared → Prop} (ho : s.heap.get? a = some (seqObj "list" #[v] n))
  (h : ∀ h' c, (∀ b o, b ≠ a → s.heap.get? b = some o → h'.get? b = some o) → h'.get? a = some (seqObj "list" #[v] c) → P (.done (.ret .none)) { s with heap := h' }) : wpAny (model prog w) A (Builtin.«list.sort» ⟨[.ref a], []⟩) P E s := by
 have s1 := Heap.SameBut.update s.heap a (Obj.mapSeq fun _ => (#[] : Array Value))
 obtain ⟨e1, o1⟩ : ∃ e1, (s.heap.update a (Obj.mapSeq fun _ => (#[] : Array Value))).get? a = some (seqObj "list" #[] e1) := ⟨_, get?_update_seq ho fun _ => #[]⟩
 rw [list_sort_plain]
 refine wpAny_bind (listItems_at ho rfl (wpAny_bind (listUpdate_at ho rfl (wpAny_bind (seqEpoch_at o1 rfl (wpAny_bind (wpAny_newTuple (wpAny_bind (wpAny_newList (wpAny_holding ?_) (Nat.zero_le _))) ?_)))) ?_ (Nat.zero_le _))))
 ·dsimp only
  have lt2 : (#[v] : Array Value).size < 2 := by show 1 < 2; decide
  rw [if_pos lt2]
  refine wpAny_bind (wpAny_pure ?_)
  rw [if_pos lt2]
  have k3 : ∀ b o, (s.heap.update a (Obj.mapSeq fun _ => (#[] : Array Value))).get? b = some o → (((s.heap.update a (Obj.mapSeq fun _ => (#[] : Array Value))).push (seqObj "tuple" #[v] 0)).push (seqObj "list" #[] 0)).get? b = some o := fun b o e => Heap.get?_push_of_some _ (Heap.get?_push_of_some _ e)
  have o3 := k3 _ _ o1
  have st : failedOf (SortSt.mk' general' ((#[v] : Array Value).zip #[v]) #[] 7 none) = none := rfl
  have ar : (arrOf (SortSt.mk' general' ((#[v] : Array Value).zip #[v]) #[] 7 none)).map (fun x => x.snd) = #[v] := by
   rw [show arrOf (SortSt.mk' general' ((#[v] : Array Value).zip #[v]) #[] 7 none) = (#[v] : Array Value).zip #[v] from rfl]
   simp
  refine wpAny_bind (wpAny_pure (a := ((), SortSt.mk' general' ((#[v] : Array Value).zip #[v]) #[] 7 none)) ?_)
  refine wpAny_bind (seqEpoch_at o3 rfl (wpAny_bind (listUpdate_at o3 rfl ?_ (Nat.zero_le _) ?_)))
  ·dsimp only
   rw [ar, if_neg (by simp)]
   obtain ⟨c2, o4⟩ : ∃ c2, ((((s.heap.update a (Obj.mapSeq fun _ => (#[] : Array Value))).push (seqObj "tuple" #[v] 0)).push (seqObj "list" #[] 0)).update a (Obj.mapSeq fun _ => (#[v] : Array Value))).get? a = some (seqObj "list" #[v] c2) := ⟨_, get?_update_seq o3 fun _ => #[v]⟩
   refine wpAny_pure (h _ c2 (fun b o hb e => ?_) o4)
   rw [Heap.get?_update_other _ _ (Ne.symm hb)]
   refine k3 b o ?_
   rw [Heap.get?_update_other _ _ (Ne.symm hb)]
   exact e
  ·rw [ar]
   exact (show 1 ≤ sizeLine + 1 from Nat.le_add_left 1 _)
 ·exact (show 1 ≤ sizeLine from Nat.le_of_lt (small1000 (by decide)))
 ·exact (show 1 ≤ sizeLine from Nat.le_of_lt (small1000 (by decide)))
theorem sorted1 {l : Addr} {v : Value} {Q : Value → Shared → Prop} (hl : s.heap.IsList l #[v])
  (h : ∀ D h' c, s.heap.objs.size ≤ D → (∀ b o, s.heap.get? b = some o → h'.get? b = some o) → h'.get? D = some (seqObj "list" #[v] c) → Q (.ref D) { s with heap := h' }) : wpAny (model prog w) A (call (.builtin "sorted") [.ref l]) Q E s := by
 refine Calls.call_function_entry kind_sorted plain_sorted entry_sorted (args_sorted1 _) ?_
 unfold Builtin.«sorted»
 have z1 : (#[v] : Array Value).size ≤ sizeLine := (show 1 ≤ sizeLine from Nat.le_of_lt (small1000 (by decide)))
 refine wpAny_bind (m := checkCount "sorted" 1 1 _) (wpAny_pure (wpAny_bind (collect_list hl (wpAny_bind (wpAny_newList ?_ z1)) z1)))
 have hz : ((s.heap.push (seqObj "list" #[] 0)).update s.heap.objs.size (Obj.mapSeq fun x => x ++ #[v])).objs.size = s.heap.objs.size + 1 := by rw [Heap.size_update, size_push']
 have kp : ∀ b o, s.heap.get? b = some o → (((s.heap.push (seqObj "list" #[] 0)).update s.heap.objs.size (Obj.mapSeq fun x => x ++ #[v])).push (seqObj "list" #[v] 0)).get? b = some o := fun b o q => by
  have hlt := Heap.lt_size q
  refine Heap.get?_push_of_some _ ?_
  rw [Heap.get?_update_other _ _ (Nat.ne_of_gt hlt)]
  exact Heap.get?_push_of_some _ q
 have ho := Heap.get?_push_size ((s.heap.push (seqObj "list" #[] 0)).update s.heap.objs.size (Obj.mapSeq fun x => x ++ #[v])) (o := seqObj "list" #[v] 0) rfl
 refine wpAny_bind (wpAny_holding (wpAny_call_entry slot_list_sort ⟨_, ho, rfl⟩ entry_list_sort (sort1 (n := 0) ho fun h' c k2 hD => ⟨_, rfl, wpAny_pure ⟨_, rfl, h _ h' c ?_ (fun b o e => k2 b o ?_ (kp b o e)) hD⟩⟩) (args_list_sort _)))
 ·show s.heap.objs.size ≤ ((s.heap.push (seqObj "list" #[] 0)).update s.heap.objs.size (Obj.mapSeq fun x => x ++ #[v])).objs.size
  rw [hz]
  exact Nat.le_succ _
 ·have := Heap.lt_size e
  show b ≠ ((s.heap.push (seqObj "list" #[] 0)).update s.heap.objs.size (Obj.mapSeq fun x => x ++ #[v])).objs.size
  rw [hz]
  exact Nat.ne_of_lt (Nat.lt_succ_of_lt this)
end
def rSort1 : List V → Hp → VK → Prop := fun vs H Q => ∃ (p : Addr) (y : V), vs = [.ref p] ∧ H p = some (.lst [y]) ∧ ∀ l, H l = none → Q (.ref l) (upd H l (.lst [y]))
theorem kY_ {X : Cx} : CallR X (.builtin "sorted") rSort1 := by
 intro pins s σ H xs us Q I r h
 obtain ⟨p, y, rfl, hp, q⟩ := h
 obtain ⟨u, rfl, e⟩ := vals1 r
 cases e
 obtain ⟨its, rv, pl, _⟩ := I.list (.inl (.inl hp))
 obtain ⟨v, rfl, ry⟩ := vals1 rv
 refine sorted1 pl.isList fun D h' c hD kp ho => ?_
 exact ⟨.ref D, _, I.laid (t' := s.toks) kp hD (show ObjOk X.prog X.w _ h' _ (.lst [y]) from ⟨(show 1 ≤ sizeLine from Nat.le_of_lt (small1000 (by decide))), [v], c, rv, ho⟩), rfl, q _ (I.hok.fresh hD)⟩
end L2
namespace L2
open PySem PySem.Spec PyProof.Rows PySem.W
theorem lW_ : typeLookup (.type "list_reverseiterator") "__len__" = pure none := by
 rw [typeLookup_type, builtinLookup_eq_fast]; kernel_rfl
theorem m6_ : typeLookup (.type "list_reverseiterator") "__length_hint__" = pure (some (.builtin "list_reverseiterator.__length_hint__")) := by
 rw [typeLookup_type, builtinLookup_eq_fast]; kernel_rfl
section
variable {prog : Program} {w : World} {A : Around} {E : Value → Shared → Prop} {s : Shared}
abbrev lstObj (acc : Array Value) (c : Nat) : Obj := { cls := .type "list", dict := none, data := .seq acc c, slots := #[] }
end
theorem jJ_ : bootBuiltins "reversed" = some (.type "reversed") := by decide +kernel
end L2
namespace L2
open PySem PySem.Spec PyProof.Rows PySem.W
section
variable {prog : Program} {w : World} {A : Around} {E : Value → Shared → Prop} {s : Shared} {h₀ : Heap} {L a : Addr} {m : Str → Option Value} {news : List (Addr × Obj)} {vs : List Value}
abbrev revKw : List (Str × Value) := [(Str.ofString "reverse", .bool true)]
def revEnd (a : Addr) (before : Nat) (st : SortSt) : Sem PySem.Fin := do
 let out := (arrOf st).map (·.2)
 let moved := (← seqEpoch a) != before
 Builtin.List.listUpdate (.ref a) fun _ => out.reverse
 if let some x := failedOf st then rule "list.sort.comparison-raised"; throw x
 if moved then rule "list.sort.modified"; raiseError "ValueError" "list modified during sort"
 ret .none
def revMid (a : Addr) (xs : Array Value) (before : Nat) : Sem PySem.Fin := do
 let two := xs.zip xs
 rule "list.sort.reverse"
 let kd ← if xs.size < 2 then pure general' else keyKind' xs
 let ((), st) ← (if xs.size < 2 then pure () else sortRuns').run (SortSt.mk' kd two.reverse #[] 7 none)
 revEnd a before st
theorem h9_ (a : Addr) : Builtin.«list.sort» ⟨[.ref a], revKw⟩ = (Builtin.List.listItems (.ref a) >>= fun xs => Builtin.List.listUpdate (.ref a) (fun _ => #[]) >>= fun _ => seqEpoch a >>= fun before => newTuple xs.toList >>= fun held => newList [] >>= fun store => holding [held, store] (revMid a xs before)) := rfl
theorem oi_ (xs : List Value) : ((List.toArray xs).zip (List.toArray xs)).reverse = (List.toArray xs.reverse).zip (List.toArray xs.reverse) := by
 have e := kat_pairs (ks := xs) (vs := xs) true rfl
 rw [if_pos rfl] at e
 exact e
theorem m7_ {n : Nat} {P : PySem.Fin → Shared → Prop} (F0 : Fr h₀ L s.heap m) (N0 : News h₀ L s.heap news) (got : s.heap.get? a = some (seqObj "list" vs.toArray n)) (aL : a ≠ L) (a0 : h₀.get? a = none) (na : ∀ q ∈ news, q.1 ≠ a) (two : 2 ≤ vs.length) (few : vs.length < 64)
  (ask : ∀ c h', Fr h₀ L h' m → News h₀ L h' ((a, seqObj "list" #[] c) :: news) → wpAny (model prog w) A (keyKind' vs.toArray) (fun κ s1 => (kas_sort vs.length).kasWp (kas_ask prog w A κ vs.reverse) (fun p s2 => KasFin h₀ L m a c ((p.toList.map fun i => vs.reverse.getD i Value.none).reverse) (fun s3 => P (.done (.ret .none)) s3) s2) s1) (fun _ _ => False) { s with heap := h' }) :
  wpAny (model prog w) A (Builtin.«list.sort» ⟨[.ref a], revKw⟩) P E s := by
 have lt := Heap.lt_size got
 have b1 := Heap.SameBut.update s.heap a (Obj.mapSeq fun _ => (#[] : Array Value))
 obtain ⟨c, got1⟩ : ∃ c, (s.heap.update a (Obj.mapSeq fun _ => (#[] : Array Value))).get? a = some (seqObj "list" #[] c) := ⟨_, get?_update_seq got fun _ => #[]⟩
 have F1 := ((kas_fr F0 b1 aL a0).push (seqObj "tuple" vs.toArray 0)).push (seqObj "list" #[] 0)
 have N1 := (kas_news N0 b1 na).grown (h' := ((s.heap.update a (Obj.mapSeq fun _ => (#[] : Array Value))).push (seqObj "tuple" vs.toArray 0)).push (seqObj "list" #[] 0)) fun b x e => Heap.get?_push_of_some _ (Heap.get?_push_of_some _ e)
 have N2 : News h₀ L (((s.heap.update a (Obj.mapSeq fun _ => (#[] : Array Value))).push (seqObj "tuple" vs.toArray 0)).push (seqObj "list" #[] 0)) ((a, seqObj "list" #[] c) :: news) := fun q hq => by
  rcases List.mem_cons.mp hq with rfl | hq
  ·exact ⟨Heap.get?_push_of_some _ (Heap.get?_push_of_some _ got1), aL, a0⟩
  ·exact N1 q hq
 have asked := ask c _ F1 N2
 have big : 64 ≤ sizeLine := by rw [sizeLine_eq]; decide
 rw [h9_]
 refine wpAny_bind (listItems_at got rfl (wpAny_bind (listUpdate_at got rfl (wpAny_bind (seqEpoch_at got1 rfl (wpAny_bind (wpAny_newTuple (wpAny_bind (wpAny_newList (wpAny_holding ?_) (Nat.zero_le _))) (by show vs.length ≤ _; omega))))) (by rw [List.size_toArray]; omega) (Nat.zero_le _))))
 show wpAny (model prog w) A (revMid a vs.toArray c) P E { s with heap := ((s.heap.update a (Obj.mapSeq fun _ => (#[] : Array Value))).push (seqObj "tuple" vs.toArray 0)).push (seqObj "list" #[] 0) }
 unfold revMid
 dsimp only
 have n2 : ¬ vs.toArray.size < 2 := by rw [List.size_toArray]; omega
 rw [if_neg n2, if_neg n2, oi_]
 refine wpAny_bind (wpAny_rule (wpAny_bind (wpAny_mono asked (fun κ s0 hk => ?_) fun _ _ x => x.elim)))
 have rl : vs.reverse.length = vs.length := List.length_reverse
 refine wpAny_bind (wpAny_mono (kat_run (ks := vs.reverse) (vs := vs.reverse) (Q := fun st s1 => ∃ p : Array Nat, p.size = vs.length ∧ arrOf st = p.map (kas_item (vs.reverse.toArray.zip vs.reverse.toArray)) ∧ failedOf st = none ∧ KasFin h₀ L m a c ((p.toList.map fun i => vs.reverse.getD i Value.none).reverse) (fun s2 => P (.done (.ret .none)) s2) s1)
  rfl (by omega) (by omega) (fun p st s1 x1 x2 x3 x4 => ⟨p, by rw [x1, rl], x2, x3, x4⟩) (by rw [rl]; exact hk)) ?_ fun _ _ e => e)
 rintro ⟨⟨⟩, st⟩ s1 ⟨p, hp, har, hf, news1, g, F2, N3, U, k⟩
 obtain ⟨pre, post, e0, hg, x1, x2⟩ := U.split
 rw [e0] at N3
 have now := N3 (a, seqObj "list" #[] c) (List.mem_append_right _ (.head _))
 have out := kat_snds (ks := vs.reverse) (vs := vs.reverse) rfl har
 have outr : ((arrOf st).map (·.2)).reverse = List.toArray ((p.toList.map fun i => vs.reverse.getD i Value.none).reverse) := by rw [out]; simp
 unfold revEnd
 dsimp only
 rw [outr]
 have sz : (List.toArray ((p.toList.map fun i => vs.reverse.getD i Value.none).reverse)).size = vs.length := by rw [List.size_toArray, List.length_reverse, List.length_map, Array.length_toList, hp]
 have b2 := Heap.SameBut.update s1.heap a (Obj.mapSeq fun _ => List.toArray ((p.toList.map fun i => vs.reverse.getD i Value.none).reverse))
 obtain ⟨c2, got2⟩ : ∃ c2, (s1.heap.update a (Obj.mapSeq fun _ => List.toArray ((p.toList.map fun i => vs.reverse.getD i Value.none).reverse))).get? a = some (seqObj "list" (List.toArray ((p.toList.map fun i => vs.reverse.getD i Value.none).reverse)) c2) := ⟨_, get?_update_seq now.1 fun _ => List.toArray ((p.toList.map fun i => vs.reverse.getD i Value.none).reverse)⟩
 refine wpAny_bind (seqEpoch_at now.1 rfl (wpAny_bind (listUpdate_at now.1 rfl ?_ (Nat.zero_le _) (by rw [sz]; omega))))
 rw [hf]
 simp only [bne_self_eq_false, Bool.false_eq_true, if_false]
 refine wpAny_pure (k _ c2 (kas_fr F2 b2 now.2.1 now.2.2) ?_)
 rw [hg]
 exact news_set N3 x1 x2 b2 got2
theorem iZ_ (x : Value) : argsOk "sorted" ⟨[x], revKw⟩ := by unfold argsOk; kernel_rfl
theorem kZ_ (x : Value) : argsOk "list.sort" ⟨[x], revKw⟩ := by unfold argsOk; kernel_rfl
theorem k0_ {l : Addr} {Q : Value → Shared → Prop} (F0 : Fr h₀ L s.heap m) (N0 : News h₀ L s.heap news) (isl : s.heap.IsList l vs.toArray) (two : 2 ≤ vs.length) (few : vs.length < 64)
  (ask : ∀ D c h', Fr h₀ L h' m → News h₀ L h' ((D, seqObj "list" #[] c) :: news) → (∀ q ∈ news, q.1 < D) → wpAny (model prog w) A.in1.in1 (keyKind' vs.toArray) (fun κ s1 => (kas_sort vs.length).kasWp (kas_ask prog w A.in1.in1 κ vs.reverse) (fun p s2 => KasFin h₀ L m D c ((p.toList.map fun i => vs.reverse.getD i Value.none).reverse) (fun s3 => Q (.ref D) s3) s2) s1) (fun _ _ => False) { s with heap := h' }) :
  wpAny (model prog w) A (call (.builtin "sorted") [.ref l] revKw) Q E s := by
 have big : 64 ≤ sizeLine := by rw [sizeLine_eq]; decide
 refine call_function_entry_kw kind_sorted plain_sorted entry_sorted (iZ_ _) ?_
 unfold Builtin.«sorted»
 refine wpAny_bind (m := checkCount "sorted" 1 1 _) (wpAny_pure (wpAny_bind (collect_list isl (wpAny_bind (wpAny_newList ?_ (by omega))) (by omega))))
 have sz : ((s.heap.push (seqObj "list" #[] 0)).update s.heap.objs.size (Obj.mapSeq (· ++ vs.toArray))).objs.size = s.heap.objs.size + 1 := (Heap.size_update ..).trans (size_push' ..)
 obtain ⟨hx, ex⟩ : ∃ hx, hx = (s.heap.push (seqObj "list" #[] 0)).update s.heap.objs.size (Obj.mapSeq (· ++ vs.toArray)) := ⟨_, rfl⟩
 rw [← ex] at sz
 have got : (hx.push (seqObj "list" vs.toArray 0)).get? (s.heap.objs.size + 1) = some (seqObj "list" vs.toArray 0) := by
  rw [← sz]
  exact Heap.get?_push_size _ rfl
 have kp : ∀ b o, s.heap.get? b = some o → (hx.push (seqObj "list" vs.toArray 0)).get? b = some o := fun b o q => by
  have hb := Heap.lt_size q
  rw [Heap.get?_push_ne _ _ _ (by rw [sz]; exact Nat.ne_of_lt (Nat.lt_succ_of_lt hb)), ex, Heap.get?_update_ne _ _ _ _ (Nat.ne_of_lt hb), Heap.get?_push_ne _ _ _ (Nat.ne_of_lt hb)]
  exact q
 have hL := F0.ns.lt
 show wpAny _ _ _ _ _ { s with heap := ((s.heap.push (seqObj "list" #[] 0)).update s.heap.objs.size (Obj.mapSeq (· ++ vs.toArray))).push (seqObj "list" vs.toArray 0) }
 rw [← ex, sz]
 refine wpAny_bind (wpAny_holding (wpAny_call_entry_kw slot_list_sort ⟨_, got, rfl⟩ entry_list_sort ?body (kZ_ _)))
 case body =>
  show wpAny (model prog w) A.in1.in1 (Builtin.«list.sort» ⟨[.ref (s.heap.objs.size + 1)], revKw⟩) _ _ _
  refine m7_ (s := { s with heap := hx.push (seqObj "list" vs.toArray 0) }) (F0.kept kp) (N0.grown kp) got (Nat.ne_of_gt (Nat.lt_succ_of_lt hL)) (Heap.get?_none_of_le (Nat.le_trans F0.above (Nat.le_succ_of_le (Nat.le_of_lt hL)))) (fun q hq => Nat.ne_of_lt (Nat.lt_succ_of_lt (Heap.lt_size (N0 q hq).1))) two few fun c h' F' N' => ?_
  refine wpAny_mono (ask _ c h' F' N' fun q hq => Nat.lt_succ_of_lt (Heap.lt_size (N0 q hq).1)) (fun κ s1 hk => ?_) fun _ _ x => x
  rw [kat_ask_eq (vs := vs.reverse) rfl] at hk ⊢
  exact kas_wp_mono hk fun p s2 hk2 => hk2.mono fun s3 hq => ⟨_, rfl, wpAny_pure ⟨_, rfl, hq⟩⟩
end
section
variable {X : Cx} {pins : List (Addr × Obj)} {σ : St} {H : Hp} {s : Shared}
theorem k1_ {Q : VK} {p : Addr} {ys : List V} {lt : Nat → Nat → Bool} {κ : SortKind} {pm : Array Nat} (I : Inv X pins σ H s) (hq : SqL X.K H p ys) (h2 : 2 ≤ ys.length) (h64 : ys.length < 64)
  (kind : ∀ (its : List Value) (s' : Shared), Vals ys its → Inv X pins σ H s' → ∀ C : SortKind → Shared → Prop, C κ s' → wpAny (model X.prog X.w) X.A.in1.in1 (keyKind' its.toArray) C (fun _ _ => False) s')
  (less : ∀ (its : List Value) (s' : Shared) (i j : Nat), Vals ys.reverse its → Inv X pins σ H s' → i < ys.length → j < ys.length → ∀ C : Bool → Shared → Prop, C (lt i j) s' → wpAny (model X.prog X.w) X.A.in1.in1 (keyLt' κ (its.getD i Value.none) (its.getD j Value.none)) C (fun _ _ => False) s')
  (run : runT lt ys.length (kas_sort ys.length) = some pm) (hz : pm.size ≤ 1000) (q : ∀ l, H l = none → Q (.ref l) (upd H l (.lst (pm.toList.map fun i => ys.reverse.getD i .non).reverse))) :
  wpAny (model X.prog X.w) X.A (call (.builtin "sorted") [.ref p] revKw) (EP X pins σ Q) X.xe s := by
 obtain ⟨its, rv, pl, _⟩ := I.list hq
 have hl := rv.length
 obtain ⟨m, hn, F0⟩ := I.frm
 refine k0_ F0 gq_ pl.isList (by omega) (by omega) fun D e1 h1 F1 N1 lt1 => ?_
 have N1' : News X.base X.env.locals h1 (allNews X.base s.heap X.env.locals) := fun z hz' => N1 z (List.mem_cons_of_mem _ hz')
 have ND := N1 (D, _) List.mem_cons_self
 have fr : ∀ b o, s.heap.get? b = some o → b ≠ D := fun b o e w => by
  subst w
  exact absurd (lt1 (b, o) (dx_ ND.2.1 ND.2.2 e)) (Nat.lt_irrefl _)
 have HD : H D = none := by
  cases w : H D with
  | none => rfl
  | some u =>
   obtain ⟨o, g⟩ := ob_is (I.hok D u w)
   exact absurd rfl (fr D o g)
 have I1 : Inv X pins σ H { s with heap := h1, toks := s.toks } := I.led hn F1 N1' (fun _ _ _ n => n) (fun _ _ w => w) (fun b o w n => by rw [w] at n; cases n)
 have rvr : Vals ys.reverse its.reverse := rv.reverse
 refine kind its _ rv I1 _ ?_
 rw [← hl]
 refine lR_ (lt := lt) (n := ys.length) (fun i j C hi hj hC => less its.reverse _ i j rvr I1 hi hj C hC) _ run ?_
 refine KasFin.intro F1 N1 (.head fun z hz' w => ?_) fun h2' c F2 N2 => ?_
 ·exact absurd (lt1 z hz') (by rw [w]; exact Nat.lt_irrefl _)
 ·have N2' : News X.base X.env.locals h2' (allNews X.base s.heap X.env.locals) := fun z hz' => N2 z (List.mem_cons_of_mem _ hz')
  have hD := (N2 (D, _) List.mem_cons_self).1
  refine ⟨.ref D, upd H D (.lst (pm.toList.map fun i => ys.reverse.getD i .non).reverse), I.led (t' := s.toks) hn F2 N2' (fun b o e n => by rw [ai_ (fr b o e)]; exact n) (fun b o e => by rw [ai_ (ag_ e HD)]; exact e) (fun b o e n => ?_), rfl, q D HD⟩
  by_cases hb : b = D
  ·subst hb
   rw [ad_] at e
   cases e
   exact ⟨Nat.le_of_lt (small1000 (by simp; omega)), _, c, (iX_ rvr _).reverse, hD⟩
  ·rw [ai_ hb, n] at e
   cases e
end
end L2
namespace L2
open PySem PySem.Spec PyProof.Rows PySem.W
section
variable {X : Cx} {pins : List (Addr × Obj)} {σ : St} {H : Hp} {s : Shared}
def firT (T : String) : V → Prop
 | .int _ => T = "int"
 | .str _ => T = "str"
 | _ => False
theorem g5_ (T : String) (I : Inv X pins σ H s) : ∀ {ys : List V} {its : List Value}, Vals ys its → (∀ y ∈ ys, ∃ a x z, y = .ref a ∧ H a = some (.tup [x, z]) ∧ firT T x) →
  ∃ fs, KatTups s.heap its fs ∧ fs.length = its.length ∧ ∀ v ∈ fs, Looks (model X.prog X.w) s.heap (typeOf v) (.type T)
 | [], _, .nil, _ => ⟨[], .nil, rfl, fun v hv => nomatch hv⟩
 | y :: ys, _, .cons r1 r2, h => by
  obtain ⟨fs, t, hl, hf⟩ := g5_ T I r2 fun y hy => h y (List.mem_cons_of_mem _ hy)
  obtain ⟨a, x, z, rfl, ha, fx⟩ := h _ List.mem_cons_self
  cases r1
  obtain ⟨zs, rz, ⟨ob, ho, hcl, n, hd⟩, _⟩ := I.tuple (.inl (.inl ha))
  obtain ⟨u, w', rfl, ru, rw'⟩ := vals2 rz
  refine ⟨u :: fs, .cons ho hcl hd rfl t, by simp [hl], fun v hv => ?_⟩
  rcases List.mem_cons.mp hv with rfl | hv
  ·cases x with
   | int i => obtain ⟨t, rfl⟩ := ru; cases fx; exact .now
   | str i => obtain ⟨t, rfl⟩ := ru; cases fx; exact .now
   | _ => exact absurd fx (by simp [firT])
  ·exact hf v hv
theorem i0_ (I : Inv X pins σ H s) {a b : Addr} {x1 x2 y1 y2 : V} {d1 d2 e1 e2 : Dt} {b1 b2 : Bool} {C : Bool → Shared → Prop} {A : Around} {E : Value → Shared → Prop} (hu : A.units + 60 < cLine)
  (ha : H a = some (.tup [x1, x2])) (hb : H b = some (.tup [y1, y2])) (r1 : Rep H x1 d1) (r2 : Rep H x2 d2) (q1 : Rep H y1 e1) (q2 : Rep H y2 e2) (h1 : deq d1 e1 = some b1) (h2 : deq d2 e2 = some b2) (z1 : dep d1 ≤ 50) (z2 : dep d2 ≤ 50)
  (c1 : b1 = false → ∀ u v, RelV x1 u → RelV y1 v → wpAny (model X.prog X.w) A (oneLt' true u v) C (fun _ _ => False) s)
  (c2 : b1 = true → b2 = false → ∀ u v, RelV x2 u → RelV y2 v → wpAny (model X.prog X.w) A (oneLt' false u v) C (fun _ _ => False) s)
  (c3 : b1 = true → b2 = true → C false s) : wpAny (model X.prog X.w) A (keyLt' (tuples' true) (.ref a) (.ref b)) C E s := by
 obtain ⟨zs, rz, ⟨ob, ho, hcl, n, hd⟩, _⟩ := I.tuple (.inl (.inl ha))
 obtain ⟨u1, u2, rfl, ru1, ru2⟩ := vals2 rz
 obtain ⟨ws, rw, ⟨ob', ho', hcl', n', hd'⟩, _⟩ := I.tuple (.inl (.inl hb))
 obtain ⟨v1, v2, rfl, rv1, rv2⟩ := vals2 rw
 refine kat_lt ho hd ho' hd' ?_
 refine kat_cons (lJ_ I Vw.refl d1 e1 r1 q1 ru1 rv1 h1 (by omega) _ _ _ _ ?_)
 cases b1 with
 | false => exact kat_no (c1 rfl _ _ ru1 rv1)
 | true =>
  refine kat_yes (kat_cons (lJ_ I Vw.refl d2 e2 r2 q2 ru2 rv2 h2 (by omega) _ _ _ _ ?_))
  cases b2 with
  | false => exact kat_no (c2 rfl rfl _ _ ru2 rv2)
  | true => exact kat_yes (kat_nil (c3 rfl rfl))
end
def tSortRev (ta : TA) : TE := fun σ H Q => ta σ H fun vs H1 => ∃ (p x y : Addr) (c d : Int × Int), vs = [.ref p] ∧ H1 p = some (.lst [.ref x, .ref y]) ∧ H1 x = some (.tup [.int c.1, .int c.2]) ∧ H1 y = some (.tup [.int d.1, .int d.2]) ∧ ∀ l zs, H1 l = none → (zs = [V.ref x, V.ref y] ∨ zs = [V.ref y, V.ref x]) → Q (.ref l) (upd H1 l (.lst zs))
theorem m8_ {p : Array Nat} (h : Pm 2 p) : p.toList = [0, 1] ∨ p.toList = [1, 0] := by
 have e := Array.perm_iff_toList_perm.mp h
 have hl : p.toList.length = 2 := by simpa using e.length_eq
 match hp : p.toList, hl with
 | [a, b], _ =>
  rw [hp] at e
  have m0 := e.mem_iff (a := 0)
  have m1 := e.mem_iff (a := 1)
  have ma := e.mem_iff (a := a)
  have mb := e.mem_iff (a := b)
  simp [List.range, List.range.loop] at m0 m1 ma mb
  rcases ma with rfl | rfl <;> rcases mb with rfl | rfl <;> simp_all
theorem i1_ {X : Cx} (hu : X.A.units + 64 < cLine) {pins : List (Addr × Obj)} {s : Shared} {σ : St} {H : Hp} {p x y : Addr} {c d : Int × Int} {Q : VK} (I : Inv X pins σ H s) (hp : H p = some (.lst [.ref x, .ref y])) (hx : H x = some (.tup [.int c.1, .int c.2])) (hy : H y = some (.tup [.int d.1, .int d.2]))
  (q : ∀ l zs, H l = none → (zs = [V.ref x, V.ref y] ∨ zs = [V.ref y, V.ref x]) → Q (.ref l) (upd H l (.lst zs))) : wpAny (model X.prog X.w) X.A (call (.builtin "sorted") [.ref p] revKw) (EP X pins σ Q) X.xe s := by
 have all : ∀ z ∈ [V.ref x, V.ref y], ∃ (a : Addr) (e : Int × Int), z = .ref a ∧ H a = some (.tup [.int e.1, .int e.2]) := fun z hz => by
  rcases List.mem_cons.mp hz with rfl | hz
  ·exact ⟨x, c, rfl, hx⟩
  ·rw [List.mem_singleton.mp hz]; exact ⟨y, d, rfl, hy⟩
 let lt : Nat → Nat → Bool := fun i j => let e := if i = 0 then d else c; let f := if j = 0 then d else c; if e.1 = f.1 then (if e.2 = f.2 then false else decide (e.2 < f.2)) else decide (e.1 < f.1)
 obtain ⟨pm, hr, hpm⟩ := kC_ (lt := lt) (N := 2) (by decide)
 have pz : pm.size = 2 := by simpa using (Array.perm_iff_toList_perm.mp hpm).length_eq
 refine k1_ (lt := lt) (κ := tuples' true) (pm := pm) I (.inl (.inl hp)) (Nat.le_refl _) (by show 2 < 64; decide) ?kind ?less hr (by omega) fun l nl => q l _ nl ?_
 case kind =>
  intro its s' rv I' C hC
  obtain ⟨fs, t, hf, lk⟩ := g5_ "int" I' rv fun z hz => by
   obtain ⟨a, e, rfl, ha⟩ := all z hz
   exact ⟨a, _, _, rfl, ha, rfl⟩
  have hl := rv.length
  have hl2 : fs.length = 2 := by rw [hf, ← hl]; rfl
  exact kat_kind t (by omega) lk (by decide) hC
 case less =>
  intro its s' i j rv I' hi hj C hC
  have u2 : X.A.in1.in1.units + 60 < cLine := by rw [PySem.Around.in1_units, PySem.Around.in1_units]; omega
  have pick : ∀ i, i < 2 → ∃ a, its.getD i Value.none = .ref a ∧ H a = some (.tup [.int (if i = 0 then d else c).1, .int (if i = 0 then d else c).2]) := fun i hi => by
   obtain ⟨u, w', rfl, ru, rw'⟩ := vals2 (show Vals [V.ref y, V.ref x] its from rv)
   cases ru
   cases rw'
   match i, hi with
   | 0, _ => exact ⟨y, rfl, hy⟩
   | 1, _ => exact ⟨x, rfl, hx⟩
  obtain ⟨a, ea, ha⟩ := pick i hi
  obtain ⟨b, eb, hb⟩ := pick j hj
  rw [ea, eb]
  have hlt : lt i j = if (if i = 0 then d else c).1 = (if j = 0 then d else c).1 then (if (if i = 0 then d else c).2 = (if j = 0 then d else c).2 then false else decide ((if i = 0 then d else c).2 < (if j = 0 then d else c).2)) else decide ((if i = 0 then d else c).1 < (if j = 0 then d else c).1) := rfl
  rw [hlt] at hC
  generalize (if i = 0 then d else c) = e at *
  generalize (if j = 0 then d else c) = f at *
  refine i0_ I' u2 ha hb (d1 := .int e.1) (d2 := .int e.2) (e1 := .int f.1) (e2 := .int f.2) (b1 := decide (e.1 = f.1)) (b2 := decide (e.2 = f.2)) rfl rfl rfl rfl (by rw [deq]; rfl) (by rw [deq]; rfl) (by simp [dep]) (by simp [dep]) (fun h u v ru rv => ?_) (fun h1 h2 u v ru rv => ?_) (fun h1 h2 => ?_)
  ·obtain ⟨t, rfl⟩ := ru
   obtain ⟨t', rfl⟩ := rv
   rw [if_neg (of_decide_eq_false h)] at hC
   exact oneLt_int hC
  ·obtain ⟨t, rfl⟩ := ru
   obtain ⟨t', rfl⟩ := rv
   rw [if_pos (of_decide_eq_true h1), if_neg (of_decide_eq_false h2)] at hC
   exact kat_one _ _ (lt_int hC)
  ·rw [if_pos (of_decide_eq_true h1), if_pos (of_decide_eq_true h2)] at hC
   exact hC
 ·rcases m8_ hpm with e | e <;> rw [e]
  ·exact .inl rfl
  ·exact .inr rfl
theorem k2_ {X : Cx} {a : Expr} {ta : TA} {p pos cp kp : Pos} {k : Nat} (hu : X.A.units + 64 < cLine) (hg : Gl X "sorted") (hm : X.mg "sorted" = none) (ha : PA X [a] ta) (hs : plainArgs [a] = true := by rfl) :
  PE X (.Call (.Name "sorted" p) [a] [⟨some "reverse", .Constant (.bool true) k cp, kp⟩] pos) (tSortRev ta) := by
 have h' : notStar a = true := by simpa [plainArgs] using hs
 intro pins s σ H Q I h
 refine wpAny_Call_Name_kw (d8_ I hg hm iO_ ?_ (by decide) (by decide))
 refine callWith_kw (thn (ha pos pins s σ H _ I h) fun us s1 ⟨vs, H1, I1, r1, q1⟩ => ?_) (by rw [aq_ h']; rfl) (by rw [aq_ h']; rfl) rfl rfl
 obtain ⟨p, x, y, c, d, rfl, hp, hx, hy, q⟩ := q1
 obtain ⟨u, rfl, e⟩ := vals1 r1
 cases e
 refine kws_cons (thn (pe_bl pins s1 σ H1 (fun v H2 => v = .bl true ∧ H2 = H1) I1 ⟨rfl, rfl⟩) fun v s2 ⟨z, H2, I2, r2, e1, e2⟩ => ?_)
 subst e1 e2
 cases r2
 exact kws_nil (i1_ hu I2 hp hx hy q)
def rSortW : List V → Hp → VK → Prop := fun vs H Q => ∃ (p : Addr) (ys : List V) (nm : Nat → Str), vs = [.ref p] ∧ H p = some (.lst ys) ∧ ys.length < 64 ∧
 (∀ i, i < ys.length → ∃ (a w : Addr) (e : Int × Int), ys[i]? = some (.ref a) ∧ H a = some (.tup [.str (nm i), .ref w]) ∧ H w = some (.tup [.int e.1, .int e.2])) ∧ (∀ i j, i < ys.length → j < ys.length → nm i = nm j → i = j) ∧
 ∀ l zs, H l = none → zs.Perm ys → Q (.ref l) (upd H l (.lst zs))
theorem lX_ {pm : Array Nat} {ys : List V} (h : Pm ys.length pm) : (pm.toList.map fun i => ys.getD i .non).Perm ys := by
 have e := Array.perm_iff_toList_perm.mp h
 have e2 : (List.range ys.length).map (fun i => ys.getD i .non) = ys := by
  apply List.ext_getElem
  ·simp
  ·intro i h1 h2
   simp [h2]
 have e3 := e.map fun i => ys.getD i V.non
 rw [List.toList_toArray, e2] at e3
 exact e3
theorem k3_ {X : Cx} (hu : X.A.units + 64 < cLine) : CallR X (.builtin "sorted") rSortW := by
 intro pins s σ H xs us Q I r h
 obtain ⟨p, ys, nm, rfl, hp, h64, it, inj, q⟩ := h
 by_cases h0 : ys.length = 0
 ·have e0 : ys = [] := List.eq_nil_of_length_eq_zero h0
  subst e0
  exact kX_ pins s σ H _ us Q I r ⟨p, [], rfl, hp, by decide, fun l zs nl pm _ => q l _ nl (by rw [pm.eq_nil]; exact .nil)⟩
 by_cases h1 : ys.length = 1
 ·obtain ⟨y, rfl⟩ := List.length_eq_one_iff.mp h1
  exact kY_ pins s σ H _ us Q I r ⟨p, y, rfl, hp, fun l nl => q l _ nl (.refl _)⟩
 obtain ⟨u, rfl, e⟩ := vals1 r
 cases e
 let lt : Nat → Nat → Bool := fun i j => if nm i = nm j then false else decide ((nm i).cps.toList < (nm j).cps.toList)
 obtain ⟨pm, hr, hpm⟩ := kC_ (lt := lt) (N := ys.length) (by omega)
 have pz : pm.size = ys.length := by simpa using (Array.perm_iff_toList_perm.mp hpm).length_eq
 refine lS_ (lt := lt) (κ := tuples' true) (pm := pm) I (.inl (.inl hp)) (by omega) h64 ?kind ?less hr (by omega) fun l nl => q l _ nl (lX_ hpm)
 case kind =>
  intro its s' rv I' C hC
  obtain ⟨fs, t, hf, lk⟩ := g5_ "str" I' rv fun z hz => by
   obtain ⟨i, hi, rfl⟩ := List.mem_iff_getElem.mp hz
   obtain ⟨a, w, e, ea, ha, _⟩ := it i hi
   rw [List.getElem?_eq_getElem hi] at ea
   exact ⟨a, _, _, Option.some.inj ea, ha, rfl⟩
  have hl := rv.length
  exact kat_kind t (by omega) lk (by decide) hC
 case less =>
  intro its s' i j rv I' hi hj C hC
  have u2 : X.A.in1.in1.units + 60 < cLine := by rw [PySem.Around.in1_units, PySem.Around.in1_units]; omega
  have pick : ∀ i, i < ys.length → ∃ (a w : Addr) (e : Int × Int), its.getD i Value.none = .ref a ∧ H a = some (.tup [.str (nm i), .ref w]) ∧ H w = some (.tup [.int e.1, .int e.2]) := fun i hi => by
   obtain ⟨a, w, e, ea, ha, hw⟩ := it i hi
   obtain ⟨u, hu', ru⟩ := rv.get ea
   cases ru
   exact ⟨a, w, e, by rw [List.getD_eq_getElem?_getD, hu']; rfl, ha, hw⟩
  obtain ⟨a, w1, e, ea, ha, hw1⟩ := pick i hi
  obtain ⟨b, w2, f, eb, hb, hw2⟩ := pick j hj
  have rw1 : Rep H (.ref w1) (.tup [.int e.1, .int e.2]) := ⟨w1, _, rfl, hw1, _, _, rfl, rfl, _, _, rfl, rfl, rfl⟩
  have rw2 : Rep H (.ref w2) (.tup [.int f.1, .int f.2]) := ⟨w2, _, rfl, hw2, _, _, rfl, rfl, _, _, rfl, rfl, rfl⟩
  rw [ea, eb]
  have hlt : lt i j = if nm i = nm j then false else decide ((nm i).cps.toList < (nm j).cps.toList) := rfl
  rw [hlt] at hC
  have same : nm i = nm j → e = f := fun hn => by
   have hij := inj i j hi hj hn
   subst hij
   rw [ea] at eb
   cases eb
   rw [ha] at hb
   cases hb
   rw [hw1] at hw2
   have h3 := HO.tup.inj (Option.some.inj hw2)
   have h4 := List.cons.inj h3
   have h5 := List.cons.inj h4.2
   exact Prod.ext (V.int.inj h4.1) (V.int.inj h5.1)
  refine i0_ I' u2 ha hb (d1 := .str (nm i)) (d2 := .tup [.int e.1, .int e.2]) (e1 := .str (nm j)) (e2 := .tup [.int f.1, .int f.2]) (b1 := decide (nm i = nm j)) (b2 := decide (e.1 = f.1) && decide (e.2 = f.2)) rfl rw1 rfl rw2 (by rw [deq]; rfl) ?eq2 (by simp [dep]) (by simp [dep, deps]) (fun h u v ru rv => ?_) (fun h1 h2 u v ru rv => ?_) (fun h1 h2 => ?_)
  case eq2 => simp [deq, deqs]; rfl
  ·obtain ⟨t, rfl⟩ := ru
   obtain ⟨t', rfl⟩ := rv
   rw [if_neg (of_decide_eq_false h)] at hC
   exact oneLt_str hC
  ·have := same (of_decide_eq_true h1)
   subst this
   simp at h2
  ·rw [if_pos (of_decide_eq_true h1)] at hC
   exact hC
end L2
namespace L2
open PySem PySem.Spec PyProof.Rows PySem.W
def rMulS : R2 := fun x y H Q => ∃ i n, x = .str i ∧ y = .int n ∧ MulOk i n ∧ Q (.str (Txt.mul i n)) H
theorem hN_ {X : Cx} : OpR X (binaryOp .Mult) rMulS := by
 intro pins s σ H x y v u Q I rx ry h
 obtain ⟨i, n, rfl, rfl, ok, q⟩ := h
 obtain ⟨t, rfl⟩ := rx
 obtain ⟨t', rfl⟩ := ry
 exact SB.mul ok fun t' k => ⟨.str (Txt.mul i n), H, I.tok _, ⟨_, rfl⟩, q⟩
theorem jK_ : ∀ {ts : List Str} {us : List Value}, Vals (ts.map V.str) us → ∃ l : List (Str × Tok), strValues l = us ∧ l.map (·.1) = ts
 | [], _, .nil => ⟨[], rfl, rfl⟩
 | t :: ts, _, .cons ⟨k, e⟩ r => by
  obtain ⟨l, e1, e2⟩ := jK_ (ts := ts) r
  exact ⟨(t, k) :: l, by rw [e, ← e1]; rfl, by rw [← e2]; rfl⟩
def rJoin : V → List V → Hp → VK → Prop := fun x vs H Q => ∃ z p ts, x = .str z ∧ vs = [.ref p] ∧ H p = some (.lst (ts.map V.str)) ∧ JoinOk z ts = true ∧ Q (.str (Txt.join z ts)) H
theorem ia_ {X : Cx} : MtR X "str.join" rJoin := by
 intro pins s σ H x xs v us Q I rx r h
 obtain ⟨z, p, ts, rfl, rfl, hp, ok, q⟩ := h
 obtain ⟨t, rfl⟩ := rx
 obtain ⟨u, rfl, e⟩ := vals1 r
 cases e
 obtain ⟨its, rv, pl, _⟩ := I.list (.inl (.inl hp))
 obtain ⟨l, e1, e2⟩ := jK_ rv
 subst e1
 exact SC.join pl.isList e2 ok fun t' k => ⟨.str _, H, I.tok _, ⟨_, rfl⟩, q⟩
section
variable {prog : Program} {w : World} {A : Around} {E : Value → Shared → Prop} {s : Shared}
theorem jL_ {it l : Addr} {items : Array Value} {Q : List Value → Shared → Prop} (hh : A.handled = none) (hit : s.heap.IsRevIter it l ((items.size : Int) - 1)) (hl : s.heap.IsList l items) (hne : l ≠ it) (hz : items.size ≤ sizeLine)
  (hQ : ∀ h' tk acc, (∀ b o, b ≠ it → s.heap.get? b = some o → h'.get? b = some o) → ItemsOf (fun i v => items[items.size - 1 - i]? = some v) acc items.size → Q acc.toList { s with heap := h', toks := tk }) :
  wpAny (model prog w) A (collect (.ref it)) Q E s := by
 obtain ⟨oi, hoi, _⟩ := id hit
 obtain ⟨ol, hol, _⟩ := id hl
 have itl := Heap.lt_size hoi
 have ll := Heap.lt_size hol
 have nS : ∀ b o, s.heap.get? b = some o → b ≠ s.heap.objs.size := fun b o e => Nat.ne_of_lt (Heap.lt_size e)
 have nf : s.heap.objs.size ∉ [it, l] := fun hm => by
  rcases List.mem_cons.mp hm with e | hm
  ·exact absurd itl (by rw [← e]; exact Nat.lt_irrefl _)
  ·exact absurd ll (by rw [← List.mem_singleton.mp hm]; exact Nat.lt_irrefl _)
 have ne1 : Builtin.List.listSameRef (.ref s.heap.objs.size) (.ref it) = false := by
  have : s.heap.objs.size ≠ it := fun e => nf (by rw [e]; exact List.mem_cons_self)
  simp [Builtin.List.listSameRef, this]
 unfold collect
 refine wpAny_bind (wpAny_runValue (codeAny_builtin F.entry_proto_collect ?_))
 rw [Around.under_plainId F.plain_proto_collect _]
 show wpAny _ _ (newList [] >>= fun acc => again (.builtin "list.__iadd__" ⟨[acc, .ref it], []⟩)) _ _ s
 refine wpAny_bind (wpAny_newObj_type (wpAny_pure ⟨plainId_quiet F.plain_list_iadd _, codeAny_builtin F.entry_list_iadd ?_⟩))
 rw [Around.under_plainId F.plain_list_iadd _]
 have hS : (s.heap.push (lstObj #[] 0)).get? s.heap.objs.size = some (lstObj #[] 0) := Heap.get?_push_size _ rfl
 have k1 : ∀ b o, s.heap.get? b = some o → (s.heap.push (lstObj #[] 0)).get? b = some o := fun b o e => Heap.get?_push_of_some _ e
 show wpAny _ _ (Builtin.List.listExtendWith (.ref s.heap.objs.size) (.ref it) (.ref s.heap.objs.size)) _ _ { s with heap := s.heap.push (lstObj #[] 0) }
 generalize s.heap.push (lstObj #[] 0) = h2 at *
 have hit2 : h2.IsRevIter it l ((items.size : Int) - 1) := hit.at fun o e => k1 _ _ e
 have hl2 : h2.IsList l items := hl.at fun o e => k1 _ _ e
 have ty : Shared.TypeIs { s with heap := h2 } (.ref it) "list_reverseiterator" := Heap.IsRevIter.typeIs (s := { s with heap := h2 }) hit2
 have W := (Walks.listRev (prog := prog) (w := w) (A := A.in1) hh it l hne items).toS
 unfold Builtin.List.listExtendWith
 refine wpAny_bind (wpAny_typeOf ty ?_)
 rw [if_neg (by rw [ne1]; decide)]
 refine wpAny_bind (wpAny_pyIter_revIter (s := { s with heap := h2 }) hit2 (wpAny_bind (wpAny_holding ?_)))
 unfold Builtin.List.listLengthHint
 refine wpAny_bind (wpAny_specialOf ty lW_ ?_)
 show wpAny _ _ (specialOf (Value.ref it) (Str.ofString "__length_hint__") >>= _) _ _ _
 refine wpAny_bind (wpAny_specialOf ty m6_ ?_)
 generalize hid : ("list_reverseiterator.__length_hint__" : String) = id0
 wp_delta
 rw [show splitId id0 = some ("list_reverseiterator", "__length_hint__") from by subst hid; decide +kernel]
 subst hid
 refine wpAny_bind (wpAny_isInstance (b := true) ty (by rw [isSubtype_type]; kernel_rfl) (wpAny_pure ?_))
 rw [if_neg (by decide)]
 have st0 : (0 : Nat) ≤ items.size ∧ h2.IsRevIter it l ((items.size : Int) - 1 - ((0 : Nat) : Int)) ∧ h2.IsList l items := ⟨Nat.zero_le _, by rw [show (items.size : Int) - 1 - ((0 : Nat) : Int) = (items.size : Int) - 1 by omega]; exact hit2, hl2⟩
 refine wpAny_pure ⟨plainId_quiet F.plain_extend_loop _, codeAny_extend_loopS (s := { s with heap := h2 }) W hz s.heap.objs.size nf _ items.size 0 #[] 0 rfl (Nat.zero_le _) st0 hS (ItemsOf.nil _) fun s' acc c hm hS' hacc => ?_⟩
 show wpAny _ A (load s.heap.objs.size >>= _) _ _ s'
 refine wpAny_bind (wpAny_load hS' (wpAny_pure ?_))
 rw [Moved.eq_with hm]
 refine hQ s'.heap s'.toks acc (fun b o hb e => hm.heap b o (fun hmem => ?_) (k1 b o e)) hacc
 rcases List.mem_cons.mp hmem with e' | hmem
 ·exact nS b o e e'
 ·exact hb (List.mem_singleton.mp hmem)
theorem m9_ {l : List (Str × Tok)} {acc : Array Value} (h : ItemsOf (fun i v => (strValues l).toArray[(strValues l).toArray.size - 1 - i]? = some v) acc (strValues l).toArray.size) : acc.toList = strValues l.reverse := by
 have e : strValues l.reverse = (strValues l).reverse := by unfold strValues; rw [List.map_reverse]
 rw [e]
 apply List.ext_getElem?
 intro i
 by_cases hi : i < acc.size
 ·have z : acc.size = (strValues l).length := by
   have := h.1
   simpa using this
  have hv := h.2 i acc[i] (Array.getElem?_eq_getElem hi)
  rw [List.getElem?_reverse (by omega)]
  have hv2 : (strValues l)[(strValues l).length - 1 - i]? = some acc[i] := by simpa using hv
  rw [hv2]
  simp [hi]
 ·have z : acc.size = (strValues l).length := by
   have := h.1
   simpa using this
  rw [List.getElem?_eq_none (by simpa using hi), List.getElem?_eq_none (by rw [List.length_reverse]; omega)]
theorem jM_ {it q : Addr} {x : Str} {t : Tok} {l : List (Str × Tok)} {Q : Value → Shared → Prop} (hh : A.handled = none) (hit : s.heap.IsRevIter it q (((strValues l).toArray.size : Int) - 1)) (hl : s.heap.IsList q (strValues l).toArray) (hne : q ≠ it) (hz : (strValues l).toArray.size ≤ sizeLine)
  (ok : JoinOk x ((l.map (·.1)).reverse) = true)
  (hQ : ∀ h' tk t', (∀ b o, b ≠ it → s.heap.get? b = some o → h'.get? b = some o) → Q (.str (Txt.join x ((l.map (·.1)).reverse)) t') { s with heap := h', toks := tk }) :
  wpAny (model prog w) A (call (.builtin "str.join") [.str x t, .ref it]) Q E s := by
 have ty : s.TypeIs (.ref it) "list_reverseiterator" := Heap.IsRevIter.typeIs hit
 refine wpAny_call (codeAny_call_builtin F.slot_str_join.plain F.entry_str_join (F.slot_str_join.check _ _ _ _ _ _ _ _ (typeIs_str _ _ _) (F.args_str_join_2 _ _) ?_))
 rw [join_tree_other]
 refine wpAny_bind (wpAny_typeOf ty ?_)
 show wpAny _ A.in1 ((pyIter (.ref it)).tryCatch _ >>= fun i => collect i >>= fun xs => joinTail x xs) _ _ s
 refine wpAny_bind (wpAny_tryCatch (wpAny_pyIter_revIter hit ?_))
 refine wpAny_bind (jL_ hh hit hl hne hz fun h' tk acc kp hacc => ?_)
 rw [m9_ hacc]
 have e : l.reverse.map (·.1) = (l.map (·.1)).reverse := List.map_reverse ..
 rw [← e] at ok hQ
 unfold JoinOk at ok
 rw [Bool.not_eq_true'] at ok
 generalize l.reverse = r at *
 have g : Gives (joinTail x (strValues r)) (joinMade x r) := by
  have g0 := gives_joinTail x r ok
  match r with
  | [] => exact g0
  | [_] => exact g0
  | _ :: _ :: _ => exact g0
 exact g prog w A (wants Q E) _ (post_join r ⟨joinFit_length ok, fun t' k => hQ h' k t' kp⟩)
end
def tJRev (to : TE) (ta : TA) : TE := fun σ H Q => to σ H fun x H1 => ∃ z : Str, x = .str z ∧ ta σ H1 fun vs H2 => ∃ (a : Addr) (ts : List Str), vs = [.ref a] ∧ H2 a = some (.lst (ts.map V.str)) ∧ JoinOk z ts.reverse = true ∧ Q (.str (Txt.join z ts.reverse)) H2
theorem g6_ {X : Cx} {o a : Expr} {to : TE} {ta : TA} {apos p' pos pos' : Pos} (hc : X.calm = true) (ho : PE X o to) (hg' : Gl X "reversed") (hm' : X.mg "reversed" = none) (ha : PA X [a] ta) (hs : plainArgs [a] = true := by rfl)
  (hbase : attributeBase o "join" X.env (eval o X.env) = eval o X.env := by rfl)
  (hline : (apos.endLine == pos.line) = true := by rfl) :
  PE X (.Call (.Attribute o "join" apos) [.Call (.Name "reversed" p') [a] [] pos'] [] pos) (tJRev to ta) := by
 have h' : notStar a = true := by simpa [plainArgs] using hs
 intro pins s σ H Q I h
 refine wpAny_Call_method_late hbase ?few hline rfl (thn (ho pins s σ H _ I h) fun v s1 ⟨x, H1, I1, r1, z, e, q1⟩ => ?_)
 case few => rw [aq_ (e := .Call (.Name "reversed" p') [a] [] pos') (es := []) rfl]; rfl
 subst e
 obtain ⟨t, rfl⟩ := r1
 refine ⟨"str", "str.join", F.plainAttrs_str, F.slot_str_join, F.type_str_join, typeIs_str _ _ _, (fun _ e => nomatch e), ?_⟩
 rw [aq_ (e := .Call (.Name "reversed" p') [a] [] pos') (es := []) rfl]
 refine Calls.callWith_builtin rfl (Calls.evalArgs_plain ?_)
 show wpAny _ _ (spliced ((false, eval (.Call (.Name "reversed" p') [a] [] pos') X.env) :: backTo pos (starEach [] X.env))) _ _ s1
 refine Calls.spliced_cons ?_
 refine Call_ (d8_ I1 hg' hm' jJ_ (PyProof.Rows.callWith_type1 (thn (ha pos' pins s1 σ H1 _ I1 q1) fun us s2 ⟨vs, H2, I2, r2, q2⟩ => ?_) (aq_ h') rfl))
 obtain ⟨b, ts, rfl, hb, ok, q⟩ := q2
 obtain ⟨u, rfl, e⟩ := vals1 r2
 cases e
 obtain ⟨its, rv, pl, hz⟩ := I2.list (.inl (.inl hb))
 obtain ⟨l, e1, e2⟩ := jK_ rv
 subst e1
 refine call_reversed_list pl.isList (Calls.spliced_nil ?_)
 obtain ⟨ob, hob, _⟩ := id pl.isList
 have bl := Heap.lt_size hob
 have hit : (s2.heap.push (revObj b (((strValues l).toArray.size : Int) - 1))).IsRevIter s2.heap.objs.size b (((strValues l).toArray.size : Int) - 1) := ⟨_, Heap.get?_push_size _ rfl, rfl, rfl⟩
 have hlen := rv.length
 rw [← e2] at ok q
 refine jM_ (s := { s2 with heap := s2.heap.push (revObj b (((strValues l).toArray.size : Int) - 1)) }) (I2.ok.hd hc) hit (pl.isList.at fun o e => Heap.get?_push_of_some _ e) (Nat.ne_of_lt bl) (by rw [List.size_toArray]; omega) ok fun h2 tk t' kp => ?_
 have k1 : ∀ b o, s2.heap.get? b = some o → h2.get? b = some o := fun b o e => kp b o (Nat.ne_of_lt (Heap.lt_size e)) (Heap.get?_push_of_some _ e)
 have sz : s2.heap.objs.size ≤ (s2.heap.push (revObj b (((strValues l).toArray.size : Int) - 1))).objs.size := by rw [size_push']; exact Nat.le_succ _
 exact ⟨.str _, H2, I2.kept (t' := tk) k1, ⟨_, rfl⟩, q⟩
def tF3 (ta tc tb : TE) : TE := fun σ H Q => ta σ H fun x H1 => ∃ i : Str, x = .str i ∧ i.length ≤ sizeLine ∧ tc σ H1 fun y H2 => ∃ j : Str, y = .str j ∧ i.length + j.length ≤ sizeLine ∧ tb σ H2 fun z H3 => ∃ k : Str, z = .str k ∧ i.length + j.length + k.length ≤ sizeLine ∧ Q (.str (i ++ j ++ k)) H3
theorem i2_ (i : Str) : Str.empty ++ i = i := by
 show (⟨#[] ++ i.cps⟩ : Str) = i
 rw [Array.empty_append]
theorem dC_ (i j : Str) : (i ++ j).length = i.length + j.length := by
 show (i.cps ++ j.cps).size = _
 rw [Array.size_append]
 rfl
theorem na_ {X : Cx} {a b c : Expr} {ta tb tc : TE} {p1 p2 pos : Pos} (ha : PE X a ta) (hc : PE X c tc) (hb : PE X b tb) : PE X (.JoinedStr [.FormattedValue a (-1) none p1, c, .FormattedValue b (-1) none p2] pos) (tF3 ta tc tb) := by
 intro pins s σ H Q I h
 refine wpAny_JoinedStr ?_
 show Joins _ _ _ [eval (.FormattedValue a (-1) none p1) X.env, eval c X.env, eval (.FormattedValue b (-1) none p2) X.env] _ _ s
 refine wpAny_FormattedValue_plain (thn (ha pins s σ H _ I h) fun v s1 ⟨x, H1, I1, r1, i, e, hi, q1⟩ => ?_)
 subst e
 obtain ⟨t, rfl⟩ := r1
 have rest : ∀ (t : Tok) (s1 : Shared), Inv X pins σ H1 s1 → ∃ y u, Value.str i t = .str y u ∧ (Str.empty ++ y).length ≤ sizeLine ∧ Joins (model X.prog X.w) X.A X.xe [eval c X.env, eval (.FormattedValue b (-1) none p2) X.env] (Str.empty ++ y) (fun out s₁ => out.length ≤ sizeLine ∧ EP X pins σ Q (.str out s₁.toks) { s₁ with toks := s₁.toks + 1 }) s1 := fun t s1 I1 => by
  refine ⟨i, t, rfl, by rw [i2_]; exact hi, ?_⟩
  rw [i2_]
  refine thn (hc pins s1 σ H1 _ I1 q1) fun v s2 ⟨x, H2, I2, r2, j, e, hj, q2⟩ => ?_
  subst e
  obtain ⟨t2, rfl⟩ := r2
  refine ⟨j, t2, rfl, by rw [dC_]; exact hj, ?_⟩
  refine wpAny_FormattedValue_plain (thn (hb pins s2 σ H2 _ I2 q2) fun v s3 ⟨x, H3, I3, r3, k, e, hk, q3⟩ => ?_)
  subst e
  obtain ⟨t3, rfl⟩ := r3
  have last : ∀ (t : Tok) (s4 : Shared), Inv X pins σ H3 s4 → ∃ y u, Value.str k t = .str y u ∧ (i ++ j ++ y).length ≤ sizeLine ∧ (i ++ j ++ y).length ≤ sizeLine ∧ EP X pins σ Q (.str (i ++ j ++ y) s4.toks) { s4 with toks := s4.toks + 1 } := fun t s4 I4 => by
   have hz : (i ++ j ++ k).length ≤ sizeLine := by rw [dC_, dC_]; exact hk
   exact ⟨k, t, rfl, hz, hz, .str _, H3, I4.tok _, ⟨_, rfl⟩, q3⟩
  exact wpAny_formatField_str (last _ _ I3) (last _ _ (I3.tok _)) (by omega)
 exact wpAny_formatField_str (rest _ _ I1) (rest _ _ (I1.tok _)) hi
theorem dZ_ {X : Cx} {K : PySem.W.Frag} {o e : Expr} {es : List Expr} {to : TE} {t : TA} {name : Str} {apos cpos : Pos} {T id : String} {r : V → List V → Hp → VK → Prop} (hK : X.K = K) (pa : PlainAttrs T) (slot : Slot T name id) (hty : typeOf (.builtin id) = pure (.type "method_descriptor")) (hm : MtR X id r) (ho : PE X o to) (ha : PA X (e :: es) t)
  (hbase : attributeBase o name X.env (eval o X.env) = eval o X.env := by rfl)
  (hfew : ((backTo cpos (starEach (e :: es) X.env)).all (fun x => !x.1) && (backToKw cpos (keywordEach [] X.env)).all (fun x => x.1.isSome) && decide ((e :: es).length + ([] : List Keyword).length + (if ([] : List Keyword).isEmpty then 0 else 1) < 30)) = true := by rfl)
  (hline : (apos.endLine == cpos.line) = true := by rfl) (hs : starEach (e :: es) X.env = (false, eval e X.env) :: starEach es X.env := by rfl) (hplain : (backTo cpos (starEach es X.env)).any (·.1) = false := by rfl) :
  PE X (.Call (.Attribute o name apos) (e :: es) [] cpos) (tBM K T r to t) := by
 subst hK
 exact pe_bm pa slot hty hm ho ha hbase hfew hline hs hplain
end L2
namespace L2
open PySem PySem.Spec PyProof.Rows PySem.W
def rSlS : V → Option Int → Option Int → Hp → VK → Prop := fun x lo hi H Q => ∃ z : Str, x = .str z ∧ z.length ≤ sizeLine ∧ ∀ y : Str, y.length ≤ z.length → (∀ c ∈ y.cps.toList, c ∈ z.cps.toList) → Q (.str y) H
theorem lY_ {v : Value} {o : Option Int} (h : IsPart v o) : ∃ l : Option (Int × Tok), v = partValue l ∧ l.map (·.1) = o := by
 cases h with
 | none => exact ⟨none, rfl, rfl⟩
 | int i t => exact ⟨some (i, t), rfl, rfl⟩
end L2
namespace L2
open PySem PySem.Spec PyProof.Rows PySem.W
end L2
namespace L2
open PySem PySem.Spec PyProof.Rows PySem.W
section
variable {prog : Program} {w : World} {A : Around} {E : Value → Shared → Prop} {s : Shared}
end
def gLst2 (t : TGs) : TG := fun v σ H Q => ∃ (a : Addr) (x y : V), v = .ref a ∧ H a = some (.lst [x, y]) ∧ t [x, y] σ H Q
end L2
namespace RimT
variable {S : Type} [DecidableEq S]
structure Net (S : Type) where
 posts : List S
 rows : List (S × List S)
 worths : List (S × (Int × Int))
def Net.all (N : Net S) : List S := (N.rows.map (·.2)).flatten
structure NetOk (N : Net S) : Prop where
 nd : (N.rows.map (·.1)).Nodup
 two : ∀ x ∈ N.all, N.all.count x = 2
 few : N.rows.length ≤ 16
 tot : N.all.length ≤ 30
 pl : N.posts.length ≤ 6
 wl : N.worths.length ≤ 15
def rowsOf (ns ws : Nat → S) (T : List (List Nat)) (ord : List Nat) : List (S × List S) := ord.map fun p => (ns p, (T.getD p []).map ws)
theorem lZ_ {α : Type} {l m : List (List α)} (h : l.Perm m) : l.flatten.Perm m.flatten := by
 induction h with
 | nil => exact .nil
 | cons x _ ih => rw [List.flatten_cons, List.flatten_cons]; exact ih.append_left x
 | swap x y l => rw [List.flatten_cons, List.flatten_cons, List.flatten_cons, List.flatten_cons, ← List.append_assoc, ← List.append_assoc]; exact List.perm_append_comm.append_right _
 | trans _ _ h1 h2 => exact h1.trans h2
theorem k4_ {α : Type} (d : α) (l : List α) : (List.range l.length).map (fun i => l.getD i d) = l := by
 apply List.ext_getElem
 ·simp
 ·intro i h1 h2
  simp [h2]
theorem nb_ {ns ws : Nat → S} {T : List (List Nat)} {ord : List Nat} (h : ord.Perm (List.range T.length)) : (((rowsOf ns ws T ord).map (·.2)).flatten).Perm (T.flatten.map ws) := by
 have e : (rowsOf ns ws T ord).map (·.2) = (ord.map fun p => T.getD p []).map fun l => l.map ws := by
  unfold rowsOf
  rw [List.map_map, List.map_map]
  rfl
 rw [e, ← List.map_flatten]
 refine List.Perm.map _ ?_
 have h2 := h.map fun p => T.getD p []
 rw [k4_] at h2
 exact lZ_ h2
theorem fg_ {α β : Type} [DecidableEq α] [DecidableEq β] {f : α → β} {x : α} : ∀ {l : List α}, (∀ a ∈ l, f a = f x → a = x) → (l.map f).count (f x) = l.count x
 | [], _ => rfl
 | a :: l, h => by
  rw [List.map_cons, List.count_cons, List.count_cons, fg_ fun a ha => h a (List.mem_cons_of_mem _ ha)]
  congr 1
  by_cases e : a = x
  ·subst e; simp
  ·have : f a ≠ f x := fun z => e (h a List.mem_cons_self z)
   simp [e, this]
theorem o6_ {P W : Nat} {T : List (List Nat)} (g : Gr P W T) {ns ws : Nat → S} {ord : List Nat} (h : ord.Perm (List.range T.length)) (hP : P ≤ 6) (hW : W ≤ 15)
  (hn : ∀ a b, a < T.length → b < T.length → ns a = ns b → a = b) (hw : ∀ a b, a < W → b < W → ws a = ws b → a = b) {ps : List S} {wo : List (S × (Int × Int))} (hps : ps.length ≤ 6) (hwo : wo.length ≤ 15) : NetOk (⟨ps, rowsOf ns ws T ord, wo⟩ : Net S) := by
 have al := nb_ (ns := ns) (ws := ws) h
 have e : ((rowsOf ns ws T ord).map (·.1)) = ord.map ns := by unfold rowsOf; rw [List.map_map]; rfl
 refine ⟨?_, fun x hx => ?_, ?_, ?_, hps, hwo⟩
 ·show ((rowsOf ns ws T ord).map (·.1)).Nodup
  rw [e]
  unfold List.Nodup
  rw [List.pairwise_map]
  exact List.Pairwise.imp_of_mem (fun {a b} ha hb ne z => ne (hn a b (List.mem_range.mp (h.mem_iff.mp ha)) (List.mem_range.mp (h.mem_iff.mp hb)) z)) (h.nodup_iff.mpr List.nodup_range)
 ·have hx' : x ∈ T.flatten.map ws := al.mem_iff.mp hx
  obtain ⟨w, hw1, rfl⟩ := List.mem_map.mp hx'
  show (((rowsOf ns ws T ord).map (·.2)).flatten).count (ws w) = 2
  rw [al.count_eq, fg_ fun a ha z => hw a w (g.lt a ha) (g.lt w hw1) z]
  exact g.two w (g.lt w hw1)
 ·show (rowsOf ns ws T ord).length ≤ 16
  unfold rowsOf
  have := h.length_eq
  rw [List.length_range] at this
  rw [List.length_map]
  have := g.most
  omega
 ·show (((rowsOf ns ws T ord).map (·.2)).flatten).length ≤ 30
  rw [al.length_eq, List.length_map, g.tot]
  omega
end RimT
namespace RimT
variable {S : Type} [DecidableEq S]
end RimT
namespace L2
open PySem PySem.Spec PyProof.Rows PySem.W
def tSeqB (t u : TS) : TS := fun D σ H => ∀ kk : St → Hp → Prop, (∀ σ' H', u D σ' H' → kk σ' H') → t { D with nx := kk } σ H
theorem az_ {X : Cx} {st : Stmt} {rest : List Stmt} {t u : TS} (h1 : PS X st t) (h2 : PSs X rest u) : PSs X (st :: rest) (tSeqB t u) := fun pins s σ H D I h => aa_ h1 h2 pins s σ H D I (h (u D) fun _ _ q => q)
theorem oj_ {t u : TS} {D : Ends} {σ : St} {H : Hp} (h : ∀ kk : St → Hp → Prop, (∀ σ' H', u D σ' H' → kk σ' H') → t { D with nx := kk } σ H) : tSeqB t u D σ H := h
theorem o7_ {kk u : St → Hp → Prop} (h : ∀ σ' H', u σ' H' → kk σ' H') {σ : St} {H : Hp} (q : u σ H) : kk σ H := h _ _ q
theorem box_g {A G : Prop} (h : A → G) (a : A) : G := h a
theorem nF_ {CX : CXT} {P : Program} {w : World} {K : PySem.W.Frag} {mg : Str → Option Value} {base : Heap} {N : List Str} {q : Str} {sc : Scope} {f : Addr} {cd : Value} {A : Around} {o : List Env} {s : Shared} {H : Hp} {E : XK} : (cxOf CX P w K mg base N q sc f cd A o s H E).K = K := rfl
abbrev SHP := St → Hp → Prop
theorem ib_ {K : PySem.W.Frag} {a : Addr} {xs : List V} {g : TG} {tb : TS} {nx bk ct : SHP} {rt : VK} {σ : St} {H : Hp} (Pv : Nat → St → Hp → Prop) (h0 : Pv 0 σ H) (hl : ∀ i σ H, i ≤ xs.length → Pv i σ H → SqL K H a xs)
  (hs : ∀ (i : Nat) x σ H, xs[i]? = some x → ∀ (kk kb : SHP), (∀ σ' H', Pv (i + 1) σ' H' → kk σ' H') → (∀ σ' H', nx σ' H' → kb σ' H') → ∀ G : Prop, ((g x σ H fun σ2 H2 => tb ⟨kk, rt, kb, kk⟩ σ2 H2) → G) → Pv i σ H → G) (hd : ∀ σ H, Pv xs.length σ H → nx σ H) : ForGo (Itl K a) g tb ⟨nx, rt, bk, ct⟩ σ H :=
 lG_ Pv h0 hl (fun i x σ H hx p => hs i x σ H hx _ _ (fun _ _ q => q) (fun _ _ q => q) _ id p) hd
end L2
namespace RimM
structure Is (p : Int × Int) (t b : Int) : Prop where
 low : Low p
 ne : b ≠ 0
 eq : p.1 * b = t * p.2
theorem is_nf {t b : Int} (h : b ≠ 0) : Is (nf t b) t b := ⟨(iV_ h).1, h, (iV_ h).2.symm⟩
theorem Is.to {p : Int × Int} {t b : Int} (h : Is p t b) : p = nf t b := by
 have := h.low.pos
 rw [← lP_ h.low]
 exact nf_eq (by omega) h.ne h.eq
theorem Is.conv {p : Int × Int} {t b t' b' : Int} (h : Is p t b) (hb : b' ≠ 0) (e : t * b' = t' * b) : Is p t' b' := by
 rw [h.to, nf_eq h.ne hb e]
 exact is_nf hb
theorem Is.mul {p q : Int × Int} {t b t' b' : Int} (h : Is p t b) (h' : Is q t' b') : Is (nf (p.1 * q.1) (p.2 * q.2)) (t * t') (b * b') := by
 have p0 := h.low.pos
 have q0 := h'.low.pos
 refine (is_nf (Int.mul_ne_zero (by omega) (by omega))).conv (Int.mul_ne_zero h.ne h'.ne) ?_
 calc p.1 * q.1 * (b * b') = (p.1 * b) * (q.1 * b') := by ac_rfl
  _ = (t * p.2) * (t' * q.2) := by rw [h.eq, h'.eq]
  _ = t * t' * (p.2 * q.2) := by ac_rfl
theorem Is.sub {p q : Int × Int} {t b t' b' : Int} (h : Is p t b) (h' : Is q t' b') : Is (nf (p.1 * q.2 - q.1 * p.2) (p.2 * q.2)) (t * b' - t' * b) (b * b') := by
 have p0 := h.low.pos
 have q0 := h'.low.pos
 refine (is_nf (Int.mul_ne_zero (by omega) (by omega))).conv (Int.mul_ne_zero h.ne h'.ne) ?_
 calc (p.1 * q.2 - q.1 * p.2) * (b * b') = (p.1 * b) * (q.2 * b') - (q.1 * b') * (p.2 * b) := by rw [Int.sub_mul]; congr 1 <;> ac_rfl
  _ = (t * p.2) * (q.2 * b') - (t' * q.2) * (p.2 * b) := by rw [h.eq, h'.eq]
  _ = (t * b' - t' * b) * (p.2 * q.2) := by rw [Int.sub_mul]; congr 1 <;> ac_rfl
theorem Low.neg {p : Int × Int} (h : Low p) : Low (-p.1, p.2) := ⟨h.pos, by show Int.gcd (-p.1) p.2 = 1; rw [Int.neg_gcd]; exact h.co⟩
theorem Is.neg {p : Int × Int} {t b : Int} (h : Is p t b) : Is (-p.1, p.2) (-t) b := ⟨h.low.neg, h.ne, by show -p.1 * b = -t * p.2; rw [Int.neg_mul, Int.neg_mul, h.eq]⟩
theorem l0_ {t b : Int} (hb : b ≠ 0) : (nf t b).1.natAbs ≤ t.natAbs ∧ (nf t b).2.natAbs ≤ b.natAbs := by
 have key : ∀ {t b : Int}, 0 < b → (nf t b).1.natAbs ≤ t.natAbs ∧ (nf t b).2.natAbs ≤ b.natAbs := fun {t b} h => by
  rw [kw_ h]
  exact ⟨by have := Int.natAbs_ediv_le_natAbs t (Int.gcd t b : Int); omega, by have := Int.natAbs_ediv_le_natAbs b (Int.gcd t b : Int); omega⟩
 rcases Int.lt_or_lt_of_ne hb with h | h
 ·rw [nB_ h]
  have := key (t := -t) (b := -b) (by omega)
  omega
 ·exact key h
theorem ok_ {b : Int} (hb : b ≠ 0) : nf 0 b = (0, 1) := by
 have : nf 0 1 = (0, 1) := by decide
 rw [← this]
 exact nf_eq hb (by decide) (by omega)
theorem Is.zero {p : Int × Int} {t b : Int} (h : Is p t b) : p = (0, 1) ↔ t = 0 := by
 refine ⟨fun e => ?_, fun e => ?_⟩
 ·have z := h.eq
  rw [e] at z
  simp at z
  omega
 ·rw [h.to, e]
  exact ok_ h.ne
theorem Is.inj {p q : Int × Int} {t b : Int} (h : Is p t b) (h' : Is q t b) : p = q := h.to.trans h'.to.symm
theorem Is.same {p q : Int × Int} {d L C Lc : Int} (h : Is p (d * (L * C)) (L * (d * Lc))) (h' : Is q C Lc) : p = q := by
 refine Is.inj (t := C) (b := Lc) (h.conv h'.ne ?_) h'
 ac_rfl
end RimM
namespace RimT
section
variable {α : Type} [DecidableEq α]
def Reg (T : List (List α)) (P : Nat) (c : Nat × Nat) (l : List (Nat × Nat)) : Prop := Way T P l c ∧ l.head? = some c ∧ l.Nodup
open Classical in
noncomputable def cyc (T : List (List α)) (P : Nat) (c : Nat × Nat) : List (Nat × Nat) := if h : ∃ l, Reg T P c l then choose h else []
noncomputable def fdF (T : List (List α)) (P : Nat) (O : List (Nat × Nat)) : List (List (Nat × Nat)) := O.foldl (fun F c => if c ∈ F.flatten then F else F ++ [cyc T P c]) []
end
section
variable {S : Type} [DecidableEq S]
structure PostsOk (N : Net S) : Prop where
 pnd : N.posts.Nodup
 pin : ∀ p ∈ N.posts, p ∈ N.rows.map (·.1)
 p0 : 0 < N.posts.length
variable (d0 : S)
variable {d0}
end
end RimT
namespace RimM
def Ws (p : Int × Int) : Prop := Low p ∧ 0 < p.1 ∧ p.1 ≤ 1000 ∧ p.2 ≤ 1000
theorem ws_nf {t b : Int} (t0 : 0 < t) (t1 : t ≤ 1000) (b0 : 0 < b) (b1 : b ≤ 1000) : Ws (nf t b) := by
 have h := is_nf (t := t) (b := b) (by omega)
 have hp := h.low.pos
 have ha := l0_ (t := t) (b := b) (by omega)
 have h1 : 0 < (nf t b).1 := by
  have e := h.eq
  have h3 : 0 < t * (nf t b).2 := Int.mul_pos t0 hp
  rw [← e] at h3
  exact Int.pos_of_mul_pos_left h3 b0
 exact ⟨h.low, h1, by omega, by omega⟩
end RimM
namespace RimT
open RimM
variable {S : Type} [DecidableEq S]
def cf (x y : S) (e : S × S × Int) : Int := (if x = e.1 ∧ y = e.1 then e.2.2 else 0) - (if x = e.1 ∧ y = e.2.1 then e.2.2 else 0) + (if x = e.2.1 ∧ y = e.2.1 then e.2.2 else 0) - (if x = e.2.1 ∧ y = e.1 then e.2.2 else 0)
def sm (E : List (S × S × Int)) (x y : S) : Int := (E.map (cf x y)).sum
end RimT
namespace L2
open PySem PySem.Spec PyProof.Rows PySem.W Builtin.Str
theorem i3_ : ∀ l : List (Str × Tok), Vals ((l.map (·.1)).map V.str) (strValues l)
 | [] => .nil
 | p :: l => .cons ⟨p.2, rfl⟩ (i3_ l)
theorem l1_ (x y : Str) : (Txt.split x y).length ≤ x.length + 2 := by
 unfold Txt.split
 split
 ·simp
 ·split
  ·simp
  ·have e1 := StrLaws.occ_length_le x y 0 x.length (x.length + 1)
   rw [length_partsBetween]
   omega
def rSplit : V → List V → Hp → VK → Prop := fun x vs H Q => ∃ a b : Str, x = .str a ∧ vs = [.str b] ∧ (b.length == 0) = false ∧ a.length ≤ 10000 ∧ ∀ D, H D = none → Q (.ref D) (upd H D (.lst ((Txt.split a b).map V.str)))
theorem eB_ {X : Cx} : MtR X "str.split" rSplit := by
 intro pins s σ H x xs v us Q I rx r h
 obtain ⟨a, b, rfl, rfl, hb, ha, q⟩ := h
 obtain ⟨t, rfl⟩ := rx
 obtain ⟨w', rfl, u, rfl⟩ := vals1 r
 have z4 : (10002 : Nat) ≤ sizeLine := by decide
 have fin : ∀ (l : List (Str × Tok)) (k : Nat), l.map (·.1) = Txt.split a b → EP X pins σ Q (.ref s.heap.objs.size) { s with heap := s.heap.push { cls := .type "list", data := .seq (strValues l).toArray }, toks := k } := fun l k e => by
  have nH : H s.heap.objs.size = none := I.hok.fresh (Nat.le_refl _)
  refine ⟨.ref s.heap.objs.size, _, I.laid (a := s.heap.objs.size) (o := .lst ((Txt.split a b).map V.str)) (t' := k) (fun b o e => Heap.get?_push_of_some _ e) (Nat.le_refl _) ⟨?_, strValues l, 0, ?_, Heap.get?_push_size _ rfl⟩, rfl, q _ nH⟩
  ·have := l1_ a b
   rw [List.length_map]
   omega
  ·rw [← e]
   exact i3_ l
 have hn : (partsBetween a (occurrences a b 0 a.length (a.length + 1)) b.length).length ≤ sizeLine := by
  have e1 := StrLaws.occ_length_le a b 0 a.length (a.length + 1)
  rw [length_partsBetween]; omega
 cases h1 : (decide (a.length < b.length) || decide (strKind a < strKind b))
 ·cases hf : (occurrences a b 0 a.length (a.length + 1)).isEmpty
  ·refine call_meets F.slot_str_split (typeIs_str _ _ _) F.entry_str_split (F.args_str_split_2 _ _) (meets_str_split_sep a b t u h1 hb hf (by omega) hn) ?_
   show wants _ _ _ { s with toks := _, heap := s.heap.push { cls := .type "list", data := .seq (strsFrom s.toks (partsBetween a (occurrences a b 0 a.length (a.length + 1)) b.length)).toArray } }
   rw [strsFrom_eq]
   exact fin (numbered s.toks _) _ ((numbered_texts _ _).trans ((if_neg (ne_true_of_eq_false h1)).trans (if_neg (ne_true_of_eq_false hf))).symm)
  ·exact call_meets F.slot_str_split (typeIs_str _ _ _) F.entry_str_split (F.args_str_split_2 _ _) (meets_str_split_not_found a b t u h1 hb hf)
    (fin [(a, t)] s.toks ((if_neg (ne_true_of_eq_false h1)).trans (if_pos hf)).symm)
 ·exact call_meets F.slot_str_split (typeIs_str _ _ _) F.entry_str_split (F.args_str_split_2 _ _) (meets_str_split_cannot_occur a b t u h1)
   (fin [(a, t)] s.toks (if_pos h1).symm)
def rStarts : V → List V → Hp → VK → Prop := fun x vs H Q => ∃ a b : Str, x = .str a ∧ vs = [.str b] ∧ Q (.bl (Txt.startswith a b)) H
theorem l2_ {X : Cx} : MtR X "str.startswith" rStarts := by
 intro pins s σ H x xs v us Q I rx r h
 obtain ⟨a, b, rfl, rfl, q⟩ := h
 obtain ⟨t, rfl⟩ := rx
 obtain ⟨w', rfl, u, rfl⟩ := vals1 r
 exact SC.startswith ⟨.bl _, H, I, rfl, q⟩
def rIntT : List V → Hp → VK → Prop := fun xs H Q => ∃ (x : Str) (n : Int), xs = [.str x] ∧ PySem.intText? x = some n ∧ x.length ≤ 640 ∧ Q (.int n) H
theorem g7_ {X : Cx} : CallR X (.type "int") rIntT := by
 intro pins s σ H xs us Q I r h
 obtain ⟨x, n, rfl, hn, hl, q⟩ := h
 obtain ⟨u, rfl, t, rfl⟩ := vals1 r
 exact KIN.call_text hn hl ⟨.int n, H, I.tok _, ⟨_, rfl⟩, q⟩
end L2
namespace L2
open PySem PySem.Spec PyProof.Rows Builtin.Str PySem.StrLaws
def cs (x : Str) : List Nat := x.cps.toList
def onec (c : Nat) : Str := ⟨#[c]⟩
theorem hO_ {x y : Str} (h : cs x = cs y) : x = y := by
 cases x
 cases y
 congr 1
 exact Array.toList_inj.mp h
theorem eP_ (x y : Str) : cs (x ++ y) = cs x ++ cs y := by
 show (x.cps ++ y.cps).toList = _
 rw [Array.toList_append]
 rfl
theorem ax_ (x : Str) : (cs x).length = x.length := rfl
theorem bx_ (c : Nat) (p q : Str) (r : List Str) : cs (Str.join (onec c) (p :: q :: r)) = cs p ++ c :: cs (Str.join (onec c) (q :: r)) := by
 show cs (p ++ onec c ++ Str.join (onec c) (q :: r)) = _
 rw [eP_, eP_, List.append_assoc]
 rfl
theorem eW_ {x : Str} {c i : Nat} : subAt x (onec c) i = decide ((cs x)[i]? = some c) := by
 unfold subAt
 show (x.cps.extract i (i + 1) == #[c]) = _
 have e : x.cps.extract i (i + 1) = #[c] ↔ (cs x)[i]? = some c := by
  rw [← Array.toList_inj, Array.toList_extract]
  show List.take (i + 1 - i) (List.drop i (cs x)) = [c] ↔ _
  rw [Nat.add_sub_cancel_left, ← List.head?_drop]
  cases List.drop i (cs x) with
  | nil => simp
  | cons a l => simp
 by_cases h : (cs x)[i]? = some c
 ·rw [decide_eq_true h, e.mpr h]
  exact beq_self_eq_true _
 ·rw [decide_eq_false h]
  exact beq_eq_false_iff_ne.mpr fun z => h (e.mp z)
theorem ic_ {x : Str} {c n lim : Nat} : ∀ (l : List Nat) (f : Array Nat) (fr : Nat), l.Pairwise (· < ·) → (∀ i ∈ l, fr ≤ i) → f.size + l.length ≤ lim →
  (forIn l (f, fr) (occBody x (onec c) n lim)).run.fst.size = f.size + l.countP fun i => decide (i + 1 ≤ n) && decide ((cs x)[i]? = some c)
 | [], f, fr, _, _, _ => rfl
 | a :: l, f, fr, hp, hf, hl => by
  rw [List.forIn_cons]
  unfold occBody
  have hp' := List.pairwise_cons.mp hp
  rw [List.length_cons] at hl
  by_cases hc : a + 1 ≤ n ∧ (cs x)[a]? = some c
  ·rw [if_pos ⟨⟨⟨by show f.size < lim; omega, hf a List.mem_cons_self⟩, hc.1⟩, by rw [eW_, decide_eq_true hc.2]⟩]
   have ih := ic_ (x := x) (c := c) (n := n) (lim := lim) l (f.push a) (a + 1) hp'.2 (fun i hi => hp'.1 i hi) (by rw [Array.size_push]; omega)
   rw [List.countP_cons_of_pos (by rw [decide_eq_true hc.1, decide_eq_true hc.2]; rfl)]
   rw [Array.size_push] at ih
   refine Eq.trans ih ?_
   omega
  ·rw [if_neg (fun z => hc ⟨z.1.2, by have := z.2; rw [eW_] at this; exact of_decide_eq_true this⟩)]
   have ih := ic_ (x := x) (c := c) (n := n) (lim := lim) l f fr hp'.2 (fun i hi => hf i (List.mem_cons_of_mem _ hi)) (by omega)
   rw [List.countP_cons_of_neg (by
    intro z
    have z' := Bool.and_eq_true_iff.mp z
    exact hc ⟨of_decide_eq_true z'.1, of_decide_eq_true z'.2⟩)]
   exact ih
theorem jN_ (L : List Nat) (c : Nat) : (List.range L.length).countP (fun i => decide (L[i]? = some c)) = L.count c := by
 have e : (List.range L.length).map (fun i => L[i]?) = L.map some := by
  apply List.ext_getElem
  ·simp
  ·intro i h1 h2
   simp at h1
   simp [h1]
 have e2 : (List.range L.length).countP (fun i => decide (L[i]? = some c)) = ((List.range L.length).map fun i => L[i]?).countP fun o => decide (o = some c) := by
  rw [List.countP_map]
  rfl
 rw [e2, e, List.countP_map]
 unfold List.count
 congr 1
 funext a
 by_cases h : a = c <;> simp [h]
theorem bT_ {x : Str} {c : Nat} (hc : c < 256) : (Txt.split x (onec c)).length = (cs x).count c + 1 := by
 have k1 : Builtin.Str.strKind (onec c) = 1 := by
  unfold Builtin.Str.strKind onec
  simp [hc]
 have k2 : 1 ≤ Builtin.Str.strKind x := by
  unfold Builtin.Str.strKind
  split
  ·exact Nat.le_refl _
  ·split <;> decide
 have oc : (occurrences x (onec c) 0 x.length (x.length + 1)).length = (cs x).count c := by
  rw [occ_eq, Array.length_toList, ic_ (x := x) (c := c) (n := x.length) (lim := x.length + 1) _ _ _ (List.pairwise_lt_range') (fun i hi => Nat.zero_le _) (by simp), ← jN_]
  rw [show x.length + 1 - 0 = x.length + 1 from rfl, ← List.range_eq_range', List.range_succ, List.countP_append]
  have e1 : (List.range x.length).countP (fun i => decide (i + 1 ≤ x.length) && decide ((cs x)[i]? = some c)) = (List.range (cs x).length).countP fun i => decide ((cs x)[i]? = some c) := by
   rw [ax_]
   refine List.countP_congr fun i hi => ?_
   rw [decide_eq_true (show i + 1 ≤ x.length from List.mem_range.mp hi), Bool.true_and]
  rw [e1]
  have e2 : [x.length].countP (fun i => decide (i + 1 ≤ x.length) && decide ((cs x)[i]? = some c)) = 0 := by
   rw [List.countP_cons_of_neg (by
    intro z
    have := of_decide_eq_true (Bool.and_eq_true_iff.mp z).1
    omega)]
   rfl
  rw [e2]
  simp
 unfold Txt.split
 split
 ·rename_i h
  have h0 : x.length < 1 := by
   rcases Bool.or_eq_true_iff.mp h with z | z
   ·exact of_decide_eq_true z
   ·have := of_decide_eq_true z
    omega
  have : cs x = [] := List.eq_nil_of_length_eq_zero (by rw [ax_]; omega)
  rw [this]
  rfl
 ·split
  ·rename_i h
   rw [List.isEmpty_iff.mp h] at oc
   rw [← oc]
   rfl
  ·rw [length_partsBetween, oc]
theorem fF_ (c : Nat) : ∀ (p : Str) (ps : List Str), (cs (Str.join (onec c) (p :: ps))).count c = ((p :: ps).map fun q => (cs q).count c).sum + ps.length
 | p, [] => by
  show (cs p).count c = _
  simp
 | p, q :: ps => by
  rw [bx_, List.count_append, List.count_cons_self, fF_ c q ps, List.map_cons, List.map_cons, List.sum_cons, List.sum_cons, List.map_cons, List.sum_cons, List.length_cons]
  omega
theorem nG_ {c : Nat} : ∀ {p w A B : List Nat}, c ∉ p → c ∉ w → p ++ c :: A = w ++ c :: B → p = w ∧ A = B
 | [], [], _, _, _, _, h => ⟨rfl, (List.cons.inj h).2⟩
 | [], y :: w, _, _, _, hw, h => absurd (List.cons.inj h).1 fun z => hw (by rw [z]; exact List.mem_cons_self)
 | x :: p, [], _, _, hp, _, h => absurd (List.cons.inj h).1 fun z => hp (by rw [← z]; exact List.mem_cons_self)
 | x :: p, y :: w, _, _, hp, hw, h => by
  obtain ⟨h1, h2⟩ := List.cons.inj h
  obtain ⟨h3, h4⟩ := nG_ (fun z => hp (List.mem_cons_of_mem _ z)) (fun z => hw (List.mem_cons_of_mem _ z)) h2
  exact ⟨by rw [h1, h3], h4⟩
theorem kD_ {c : Nat} : ∀ {p w : Str} {ps ws : List Str}, (∀ q ∈ p :: ps, c ∉ cs q) → (∀ q ∈ w :: ws, c ∉ cs q) → Str.join (onec c) (p :: ps) = Str.join (onec c) (w :: ws) → p :: ps = w :: ws
 | p, w, [], [], _, _, h => by rw [show p = w from h]
 | p, w, [], w2 :: ws, hp, _, h => by
  have h' := congrArg cs h
  rw [bx_] at h'
  exact absurd (show c ∈ cs p by rw [show cs p = _ from h']; simp) (hp p List.mem_cons_self)
 | p, w, p2 :: ps, [], _, hw, h => by
  have h' := congrArg cs h
  rw [bx_] at h'
  exact absurd (show c ∈ cs w by rw [show cs w = _ from h'.symm]; simp) (hw w List.mem_cons_self)
 | p, w, p2 :: ps, w2 :: ws, hp, hw, h => by
  have h' := congrArg cs h
  rw [bx_, bx_] at h'
  obtain ⟨h1, h2⟩ := nG_ (hp p List.mem_cons_self) (hw w List.mem_cons_self) h'
  rw [hO_ h1, kD_ (fun q hq => hp q (List.mem_cons_of_mem _ hq)) (fun q hq => hw q (List.mem_cons_of_mem _ hq)) (hO_ h2)]
theorem fG_ : ∀ {l : List Nat} {n : Nat}, n ∈ l → n ≤ l.sum
 | a :: l, n, h => by
  rw [List.sum_cons]
  rcases List.mem_cons.mp h with e | e
  ·omega
  ·have := fG_ e
   omega
theorem k5_ {c : Nat} (hc : c < 256) {w : Str} {ws : List Str} (hw : ∀ q ∈ w :: ws, c ∉ cs q) : Txt.split (Str.join (onec c) (w :: ws)) (onec c) = w :: ws := by
 have h1 := StrLaws.join_split (Str.join (onec c) (w :: ws)) (onec c)
 have h2 := bT_ (x := Str.join (onec c) (w :: ws)) hc
 generalize Txt.split (Str.join (onec c) (w :: ws)) (onec c) = ps at h1 h2
 cases ps with
 | nil => rw [List.length_nil] at h2; omega
 | cons p ps =>
  rw [← h1, fF_, List.length_cons] at h2
  refine kD_ (fun q hq => ?_) hw h1
  have hz : (cs q).count c = 0 := by
   have hm : (cs q).count c ∈ (p :: ps).map fun q => (cs q).count c := List.mem_map.mpr ⟨q, hq, rfl⟩
   have hs : ((p :: ps).map fun q => (cs q).count c).sum = 0 := by omega
   have := fG_ hm
   omega
  exact List.count_eq_zero.mp hz
end L2
namespace L2
open PySem PySem.Spec PyProof.Rows Builtin.Str PySem.StrLaws PySem.W
def rSlE : V → Option Int → Option Int → Hp → VK → Prop := fun x lo hi H Q => ∃ z : Str, x = .str z ∧ z.length ≤ sizeLine ∧ Q (.str (Txt.slice z lo hi)) H
theorem db_ {X : Cx} : SlR X rSlE := by
 intro pins s σ H x v vl vu lo hi sl Q I rx hs pl pu h
 obtain ⟨z, rfl, hz, q⟩ := h
 obtain ⟨t, rfl⟩ := rx
 obtain ⟨l, rfl, el⟩ := lY_ pl
 obtain ⟨u, rfl, eu⟩ := lY_ pu
 subst el eu
 refine ⟨"str", _, F.slot_str_getitem.lookup, typeIs_str _ _ _, ?_⟩
 refine wpAny_getItem_str_slice (l := l) (u := u) (st := none) hs rfl ?_
 have le := sliceIndices_le (l.map (·.1)) (u.map (·.1)) z.length
 unfold sliceMade
 unfold Txt.slice at q
 by_cases hc : (((none : Option (Int × Tok)).map (·.1)).getD 1 == 1 && (slicePicked z l u none).length == z.length) = true
 ·rw [if_pos hc]
  have q' := (show Q (V.str (if (((none : Option (Int × Tok)).map (·.1)).getD 1 == 1 && (slicePicked z l u none).length == z.length) = true then z else ⟨((slicePicked z l u none).filterMap (z.cps[·]?)).toArray⟩)) H from q)
  rw [if_pos hc] at q'
  exact ⟨.str z, H, I, ⟨_, rfl⟩, q'⟩
 ·rw [if_neg hc]
  have q' := (show Q (V.str (if (((none : Option (Int × Tok)).map (·.1)).getD 1 == 1 && (slicePicked z l u none).length == z.length) = true then z else ⟨((slicePicked z l u none).filterMap (z.cps[·]?)).toArray⟩)) H from q)
  rw [if_neg hc] at q'
  have hl : (⟨((slicePicked z l u none).filterMap (z.cps[·]?)).toArray⟩ : Str).length ≤ z.length := by
   show (((slicePicked z l u none).filterMap (z.cps[·]?)).toArray).size ≤ _
   rw [List.size_toArray]
   exact Nat.le_trans (List.length_filterMap_le _ _) le
  exact ⟨Nat.le_trans hl hz, .str _, H, I.tok _, ⟨_, rfl⟩, q'⟩
theorem k6_ (L : List Nat) (a m : Nat) (h : a + m ≤ L.length) : ((List.range m).map fun k => a + k).filterMap (fun i => L[i]?) = (L.drop a).take m := by
 induction m with
 | zero => simp
 | succ m ih =>
  rw [List.range_succ, List.map_append, List.filterMap_append, ih (by omega), List.take_succ, List.getElem?_drop]
  congr 1
theorem dD_ {z : Str} {lo hi : Option Int} {a b : Nat} (hab : a ≤ b) (hb : b ≤ z.length) (hl : lo = some (a : Int) ∨ (lo = none ∧ a = 0)) (hh : hi = some (b : Int) ∨ (hi = none ∧ b = z.length)) : cs (Txt.slice z lo hi) = ((cs z).drop a).take (b - a) := by
 have e : strSliceIndices lo hi 1 z.length = (List.range (b - a)).map fun k => a + k := by
  have key : sliceRange (a : Int) (b : Int) 1 = (List.range (b - a)).map fun k => a + k := by
   unfold sliceRange
   rw [if_pos (by decide)]
   have e1 : (if (a : Int) < b then ((b : Int) - a + 1 - 1) / 1 else 0).toNat = b - a := by
    split
    ·rw [Int.ediv_one]; omega
    ·show 0 = b - a; omega
   simp only [e1]
   refine List.map_congr_left fun k _ => ?_
   omega
  rw [← key]
  unfold strSliceIndices
  rcases hl with rfl | ⟨rfl, rfl⟩ <;> rcases hh with rfl | ⟨rfl, rfl⟩ <;> simp only [show (1 : Int) > 0 by decide, if_true] <;> congr 1 <;> (try split) <;> omega
 unfold Txt.slice
 rw [e]
 split
 ·rename_i h
  have h2 : b - a = z.length := by
   have := (Bool.and_eq_true_iff.mp h).2
   rw [List.length_map, List.length_range] at this
   exact eq_of_beq this
  have a0 : a = 0 := by omega
  rw [a0, List.drop_zero, List.take_of_length_le (by rw [ax_]; omega)]
 ·show ((((List.range (b - a)).map fun k => a + k).filterMap (z.cps[·]?)).toArray).toList = _
  have e2 : (fun i : Nat => z.cps[i]?) = fun i => (cs z)[i]? := by
   funext i
   exact (Array.getElem?_toList (xs := z.cps)).symm
  rw [e2, k6_ _ _ _ (by rw [ax_]; omega)]
end L2
namespace L2
open PySem PySem.Spec PyProof.Rows
def Its (x : Str) : It := ⟨fun i _ => i < x.cps.size, fun i H v H' => H' = H ∧ ∃ c, x.cps[i]? = some c ∧ v = .str ⟨#[c]⟩, fun i _ => x.cps.size ≤ i⟩
theorem k7_ {P : Program} {w : World} {K : PySem.W.Frag} {tg : Expr} (it : Addr) (x : Str) (t : Tok) : Turn P w K tg (Its x) [it] it (fun i h => h.IsStrIter it "str_ascii_iterator" x t i) where
 mem := by simp
 obj := fun i h st b hb => by
  have e : b = it := by simpa using hb
  subst e
  obtain ⟨o, e, c, d⟩ := st
  exact ⟨o, e, fun v z => by rw [d] at z; cases z⟩
 keep := fun i h h' st k => by
  obtain ⟨o, ho, more⟩ := st
  exact ⟨o, k it (by simp) o ho, more⟩
 item := by
  intro X hP hw hK hc i pins s σ H E I hf st hg
  subst hP hw hK
  have hi : i < x.cps.size := hg
  obtain ⟨f0, f1, f2, f3, f4, f5⟩ := hf it (by simp)
  refine wpAny_pyNext_ascii_item st (c := x.cps[i]) (by simp [hi]) fun h' st' sb => ?_
  have I1 : Inv X pins σ H { s with heap := h', toks := s.toks + 1 } := I.turned (fun b o hb e => (sb.2 b hb).trans e) f0 f1 f3 f4 f5
  obtain ⟨o, e, c, d⟩ := id st'
  exact ⟨_, rfl, go_of (s := { s with heap := h', toks := s.toks + 1 }) e c d (by decide) ⟨.str ⟨#[x.cps[i]]⟩, H, I1, ⟨_, rfl⟩, ⟨rfl, x.cps[i], by simp [hi], rfl⟩, st', fun b hb => (hf b hb).1⟩⟩
 done := by
  intro X hP hw hK hc i pins s σ H E I hf st hg
  subst hP hw hK
  have hi : x.cps.size ≤ i := hg
  obtain ⟨f0, f1, f2, f3, f4, f5⟩ := hf it (by simp)
  exact wpAny_pyNext_ascii_end (I.ok.hd hc) st (by simp [hi]) fun h' eb => ⟨rfl, I.turned (t' := s.toks) (fun b o hb e => eb b o hb e) f0 f1 f3 f4 f5⟩
 self := fun _ _ _ _ _ st h => wpAny_pyIter_striter_ascii st h
def iSigns (tl : TE) : TI := fun σ H R => tl σ H fun v H1 => ∃ x : Str, v = .str x ∧ x.cps.all (· < 128) = true ∧ R (Its x) H1
theorem gA_ {X : Cx} {tg l : Expr} {tl : TE} (hl : PE X l tl) : PI X tg l (iSigns tl) := by
 intro pins s σ H R I h
 refine thn (hl pins s σ H _ I h) fun v s1 ⟨y, H1, I1, r1, q1⟩ => ?_
 obtain ⟨x, e, ha, q⟩ := q1
 subst e
 obtain ⟨t, rfl⟩ := r1
 refine wpAny_pyIter_ascii ha ?_
 refine ⟨s1.heap.objs.size, [s1.heap.objs.size], _, _, H1, rfl, I1.kept (t' := s1.toks) fun b o e => Heap.get?_push_of_some _ e, k7_ _ x t, ⟨_, Heap.get?_push_size _ rfl, rfl, rfl⟩, fun b hb => ?_, q⟩
 have e : b = s1.heap.objs.size := by simpa using hb
 subst e
 exact I1.fpOk (Nat.le_refl _) (I1.hok.fresh (Nat.le_refl _))
theorem l3_ {X : Cx} {x z : Str} {pos : Pos} (hm : ∃ t, X.mg x = some (.str z t)) (hg : Gl X x) (hd : (x == ("__debug__" : Str)) = false := by decide) : PE X (.Name x pos) (tC (.str z)) := by
 obtain ⟨t, hm⟩ := hm
 exact jv_ hg hm ⟨t, rfl⟩ hd
theorem nH_ {K : PySem.W.Frag} {mg : Str → Option Value} {h : Heap} (X : K.In h) (G : h.Ns mainGlobals mg) {x z : Str} {t : Tok} (a : PySem.W.nsIn K mainGlobals x = some (some (.str z t))) : ∃ t, mg x = some (.str z t) := ⟨t, PySem.W.mg_of X G a⟩
end L2
namespace L2
open PySem PySem.Spec PyProof.Rows
theorem o8_ {X : Cx} {e : Expr} {t : TT} (h : PT X.nox e t) : PT X e t := fun pins s σ H Q I q => wpAny_mono (h pins s σ H Q (I.wish _) q) (fun v s' ⟨H', J, z⟩ => ⟨H', J.unwish, z⟩) fun _ _ z => z.elim
end L2
namespace L2
open PySem PySem.Spec PyProof.Rows
variable {X : Cx}
theorem l4_ (bs : List Bool) : (List.range bs.length).all (fun i => bs.getD i true) = bs.all id := by
 have e : (List.range bs.length).map (fun i => bs.getD i true) = bs := by
  apply List.ext_getElem
  ·simp
  ·intro i h1 h2
   simp [List.getD, h2]
 conv => rhs; rw [← e]
 rw [List.all_map]
 rfl
def rAllB : List V → Hp → VK → Prop := fun vs H Q => ∃ (p : Addr) (bs : List Bool), vs = [.ref p] ∧ H p = some (.lst (bs.map V.bl)) ∧ Q (.bl (bs.all id)) H
theorem g8_ (hc : X.calm = true) : CallR X (.builtin "all") rAllB := by
 intro pins s σ H xs us Q I r h
 obtain ⟨p, bs, rfl, hp, q⟩ := h
 obtain ⟨u, rfl, e⟩ := vals1 r
 cases e
 obtain ⟨z, its, n, rv, hl, ho⟩ := I.lstM hp
 have hl' : its.length = bs.length := by rw [← hl, List.length_map]
 have hlt : p < s.heap.objs.size := Heap.lt_size ho
 refine call_all_walk (wpAny_pyIter_list (items := its.toArray) ⟨_, ho, rfl, n, rfl⟩ ?_)
 refine ⟨_, _, _, _, _, _, fun i => bs.getD i true, rfl, Walks.list (A := X.A.in1) (I.ok.hd hc) _ p (Nat.ne_of_lt hlt) its.toArray, ⟨⟨_, Heap.get?_push_size _ rfl, rfl, rfl⟩, ⟨_, Heap.get?_push_of_some _ ho, rfl, n, rfl⟩⟩, fun i v s' Q' E' hv hQ => ?_, fun h' tk hk => ⟨.bl (bs.all id), H, I.kept (fun b o e => hk b o (fun hm => ?_) (Heap.get?_push_of_some _ e)), ?_, q⟩⟩
 ·have hi : i < bs.length := by
   have := (Array.getElem?_eq_some_iff.mp hv).1
   rw [List.size_toArray] at this
   omega
  obtain ⟨w', hw, rw'⟩ := rv.get (i := i) (x := .bl bs[i]) (by rw [List.getElem?_map, List.getElem?_eq_getElem hi]; rfl)
  have ev : v = w' := by
   have hv' : its[i]? = some v := by simpa using hv
   rw [hw] at hv'
   exact (Option.some.inj hv').symm
  subst ev
  cases rw'
  have hQ' : Q' bs[i] s' := by
   have e : bs.getD i true = bs[i] := by simp [List.getD, hi]
   rw [← e]
   exact hQ
  exact wpAny_truthy_bool hQ'
 ·rw [List.mem_singleton] at hm
  subst hm
  exact absurd (Heap.lt_size e) (Nat.lt_irrefl _)
 ·rw [List.size_toArray, hl', l4_]
  rfl
end L2
namespace L2
open PySem PySem.Spec PyProof.Rows
def It0 : It := ⟨fun _ _ => False, fun _ _ _ _ => False, fun _ _ => True⟩
theorem l5_ {P : Program} {w : World} {K : PySem.W.Frag} {tg : Expr} (it : Addr) (lo st : Int) : Turn P w K tg It0 [it] it (fun _ h => IsRangeIter h it lo 0 st) where
 mem := by simp
 obj := fun i h st' b hb => by
  have e : b = it := by simpa using hb
  subst e
  exact ⟨_, st', fun v z => by
   have z' : Data.fields _ = Data.cell v := z
   cases z'⟩
 keep := fun i h h' st k => k it (by simp) _ st
 item := by
  intro X hP hw hK hc i pins s σ H E I hf st hg
  exact hg.elim
 done := by
  intro X hP hw hK hc i pins s σ H E I hf st hg
  subst hP hw hK
  obtain ⟨f0, f1, f2, f3, f4, f5⟩ := hf it (by simp)
  exact wpAny_pyNext_range_end (I.ok.hd hc) st (by omega) fun h' eb => ⟨rfl, I.turned (t' := s.toks) (fun b o hb e => eb b o hb e) f0 f1 f3 f4 f5⟩
 self := fun _ _ _ _ _ st h => wpAny_pyIter_rangeiter st h
def iRngE (ta : TA) : TI := fun σ H R => ta σ H fun vs H1 => ∃ i : Int, vs = [.int i, .int i, .int 64] ∧ 0 ≤ i ∧ i < 2 ^ 30 ∧ R It0 H1
theorem l6_ {X : Cx} {tg a b c : Expr} {ta : TA} {p pos : Pos} (hg : Gl X "range") (hm : X.mg "range" = none) (ha : PA X [a, b, c] ta) (hs : plainArgs [a, b, c] = true := by rfl) :
  PI X tg (.Call (.Name "range" p) [a, b, c] [] pos) (iRngE ta) := by
 have h' : notStar a = true ∧ plainArgs [b, c] = true := by simpa [plainArgs] using hs
 intro pins s σ H R I h
 refine Call_ (d8_ I hg hm boot_range (PyProof.Rows.callWith_type1 (thn (ha pos pins s σ H _ I h) fun us s1 ⟨vs, H1, I1, r1, q1⟩ => ?_) (aq_ h'.1) (bp_ h'.2)))
 obtain ⟨i, e, q1, q2, q⟩ := q1
 subst e
 cases r1 with
 | cons r rr =>
  cases rr with
  | cons r' rr =>
   cases rr with
   | cons r'' rr =>
    cases rr
    obtain ⟨t, rfl⟩ := r
    obtain ⟨t', rfl⟩ := r'
    obtain ⟨t'', rfl⟩ := r''
    have sz : Builtin.Range.rangeSize i i 64 = 0 := by
     unfold Builtin.Range.rangeSize
     rw [if_pos (by decide), if_neg (by omega)]
    refine call_range_3 (by decide) ?_ (Or.inl (PyProof.noPylong_of_log2 (by decide +kernel)))
    refine wpAny_pyIter_range (IsRange.new ..) (by
     unfold Builtin.Range.small
     rw [sz]
     simp only [Builtin.Range.rangeFitsLong, Bool.and_eq_true, Bool.or_eq_true, decide_eq_true_eq, beq_iff_eq, show (64 : Int) > 0 by decide, if_true]
     omega) ?_
    have I2 : Inv X pins σ H1 { s1 with heap := s1.heap.push { cls := .type "range", data := .fields #[.int i t, .int i t', .int 64 t''] }, toks := s1.toks } := I1.kept fun b o e => Heap.get?_push_of_some _ e
    refine ⟨(s1.heap.push { cls := .type "range", data := .fields #[.int i t, .int i t', .int 64 t''] }).objs.size, [(s1.heap.push { cls := .type "range", data := .fields #[.int i t, .int i t', .int 64 t''] }).objs.size], _, _, H1, rfl,
     I2.kept (t' := s1.toks) fun b o e => Heap.get?_push_of_some _ e, l5_ _ i 64, ?_, fun b hb => ?_, q⟩
    ·show IsRangeIter _ _ i 0 64
     rw [← sz]
     exact Heap.get?_push_size _ rfl
    ·have e : b = (s1.heap.push { cls := .type "range", data := .fields #[.int i t, .int i t', .int 64 t''] }).objs.size := by simpa using hb
     subst e
     exact I2.fpOk (Nat.le_refl _) (I2.hok.fresh (Nat.le_refl _))
theorem ol_ {g : TG} {tb : TS} {D : Ends} {σ : St} {H : Hp} (h : D.nx σ H) : ForGo It0 g tb D σ H :=
 ⟨fun _ _ σ' H' => σ' = σ ∧ H' = H, ⟨0, rfl, rfl⟩, fun i m σ' H' ⟨e1, e2⟩ => .inl ⟨trivial, by rw [e1, e2]; exact h⟩⟩
end L2
namespace L2
open PySem PySem.Spec PyProof.Rows Builtin.Str PySem.StrLaws
theorem l7_ {c : Nat} : ∀ {ws : List Str}, ∀ p ∈ ws, cs p <:+: cs (Str.join (onec c) ws)
 | [w], p, h => by rw [List.mem_singleton.mp h]; exact List.infix_refl _
 | w :: v :: ws, p, h => by
  rw [bx_]
  rcases List.mem_cons.mp h with rfl | h
  ·exact (List.prefix_append _ _).isInfix
  ·exact (l7_ (c := c) p h).trans ((List.suffix_append (cs w ++ [c]) _).isInfix.trans (by rw [List.append_assoc]; exact List.infix_refl _))
theorem bd_ {x : Str} {c : Nat} (hc : c < 256) : Txt.split x (onec c) ≠ [] ∧ ∀ q ∈ Txt.split x (onec c), c ∉ cs q ∧ cs q <:+: cs x := by
 have h1 := StrLaws.join_split x (onec c)
 have h2 := bT_ (x := x) hc
 generalize Txt.split x (onec c) = ps at h1 h2
 cases ps with
 | nil => rw [List.length_nil] at h2; omega
 | cons p ps =>
  refine ⟨by simp, fun q hq => ⟨?_, ?_⟩⟩
  ·rw [← h1, fF_, List.length_cons] at h2
   have hz : (cs q).count c = 0 := by
    have hm : (cs q).count c ∈ (p :: ps).map fun q => (cs q).count c := List.mem_map.mpr ⟨q, hq, rfl⟩
    have hs : ((p :: ps).map fun q => (cs q).count c).sum = 0 := by omega
    have := fG_ hm
    omega
   exact List.count_eq_zero.mp hz
  ·rw [← h1]
   exact l7_ q hq
theorem l8_ {z : Str} (h : 1 ≤ z.length) : cs (Txt.slice z (some 1) none) = (cs z).drop 1 := by
 refine Eq.trans (dD_ (a := 1) (b := z.length) h (Nat.le_refl _) (.inl rfl) (.inr ⟨rfl, rfl⟩)) ?_
 exact List.take_of_length_le (by rw [List.length_drop, ax_]; omega)
end L2
namespace L2
open PySem PySem.Spec PyProof.Rows
theorem Cal.of_R {P : Program} {w : World} {K : PySem.W.Frag} {mg : Str → Option Value} {base : Heap} {x : Str} {ps : List Str} {k : Nat} {sp : Sp} (C : CalR P w K mg base x ps k sp) : Cal P w K mg base x ps k (fun vs H Q _ => sp vs H Q E0) := by
 obtain ⟨f, fd, m, kp, b, F⟩ := C
 refine ⟨f, fd, m, kp, b, fun vs H Q E h => F.len vs H Q E0 h, fun A outer s H args us vs Q E hr he hb hv hs => codeAny_mono (F.run A outer s H args us vs Q E0 hr he hb hv hs) fun r s' z => ?_⟩
 cases r with
 | ok fl => cases fl <;> exact z
 | error e =>
  obtain ⟨_, _, _, _, _, _, _, _, _, _, _, _, _, _, q⟩ := z
  exact q.elim
theorem own_R {CX : CXT} {P : Program} {w : World} {K : PySem.W.Frag} {mg : Str → Option Value} {base : Heap} {N : List Str} {qual : Str} {scope : Scope} {f : Addr} {cd : Value} {A : Around} {outer : List Env} {s : Shared} {H : Hp} {E : XK} :
  PassesOwn (model (cxOf CX P w K mg base N qual scope f cd A outer s H E).prog (cxOf CX P w K mg base N qual scope f cd A outer s H E).w) (cxOf CX P w K mg base N qual scope f cd A outer s H E).A (cxOf CX P w K mg base N qual scope f cd A outer s H E).env (cxOf CX P w K mg base N qual scope f cd A outer s H E).xe :=
 fun _ _ h => wpAny_leaving_again (SameStack.refl _) h
theorem om_ {X : Cx} {x y n : Str} {ps : List Str} {k i : Nat} {sp : Sp} {e₀ : Expr} {es : List Expr} {ta : TA} {more suite : List Stmt} {b₀ : Stmt} {ts : TS} {p cpos epos np hpos pos : Pos} {Py : Addr}
  (C : CalR X.prog X.w X.K X.mg X.base x ps k sp) (hr : Room k X.A) (hg : Gl X x) (hst : X.stack = X.env :: X.outer) (hfr : X.env.frame = some X.env.locals) (hy : X.mg y = some (.ref Py)) (HC : HnC X.K Py) (hgy : Gl X y)
  (hN : X.N.Nodup) (hi : X.N[i]? = some n) (hn : X.env.scope.names.lookup n = some .local) (ha : ∀ EE, PA (X.wish EE) (e₀ :: es) ta) (hs : ∀ e, PSs (X.suite e) (b₀ :: suite) ts)
  (hdb : (x == ("__debug__" : Str)) = false := by decide) (hdy : (y == ("__debug__" : Str)) = false := by decide)
  (he : starEach (e₀ :: es) X.env = (false, eval e₀ X.env) :: starEach es X.env := by rfl) (hpl : (backTo cpos (starEach es X.env)).any (·.1) = false := by rfl) :
  PS X (.Try (.Return (some (.Call (.Name x p) (e₀ :: es) [] cpos)) epos :: more) [.ExceptHandler (some (.Name y np)) (some n) (b₀ :: suite) hpos] [] [] pos) (tTry X.K Py sp ta i ts) := by
 intro pins s σ H D I h
 refine wpAny_Try_except (wpAny_execs_cons (wpAny_Return_some (kW_ C hr hg (ha _) I h ?_ hdb he hpl)))
 intro H1 s1 e s' I1 hq
 ·obtain ⟨ea, C0, a0, B, H', rfl, os, bare, un, hok, fl, new, b1, b2, C, rfl, hsub, hts⟩ := hq
  have fl' : Heap.FlyingW B (X.env :: X.outer) ea (.ref C) a0 s'.heap := hst ▸ fl
  have hn' : H' ea = none := by
   cases z : H' ea with
   | none => rfl
   | some o =>
    obtain ⟨u, hu⟩ := b2 ea o z
    rw [fl.2.1] at hu
    cases hu
  refine wpAny_looks_onW (L := X.env.locals) (by rw [I.ok.frames, hst]) hfr fl' fun h₄ hd₄ sm₄ => ?_
  refine wpAny_landsW hd₄ fun h₅ fl₅ sm₅ => ?_
  obtain ⟨un5, ok5⟩ := gu_ un hok fl.1 fl₅.1 fl.2.2.1 (sm₄.trans sm₅) b1 b2
  have I5 : Inv X pins σ H' { s' with heap := h₅ } := I1.call' (s' := { s' with heap := h₅ }) os un5 ok5 bare (fun b z => nomatch z)
  refine wpAny_handleBy_cons (codeAny_handlers_test ?_) (by intro q; cases q)
  refine gH_ (X := X.suite (.ref ea)) (I5.suite _) hgy hy ?_ hdy
  refine jC_ (K := X.K) I5.kIn HC hsub fl₅.there ?_
  refine codeAny_handlers_suite_as ?_
  refine lands_againW fl₅ fun h₆ fl₆ sm₆ => ?_
  obtain ⟨un6, ok6⟩ := gu_ un hok fl.1 fl₆.1 fl.2.2.1 ((sm₄.trans sm₅).trans sm₆) b1 b2
  obtain ⟨un7, ok7⟩ := oZ_ un6 ok6 new hn' fl₆.there
  have I7 : Inv X pins σ (upd H' ea (exO (.ref C) ea)) { s' with heap := h₆ } := I1.call' (s' := { s' with heap := h₆ }) os un7 ok7 bare (fun b z => nomatch z)
  refine fb_ (X := X.suite (.ref ea)) (I7.suite _) hN hi (.inl hn) (v := .ref ea) rfl (fun s₈ I8 => ?_) (.inr hn)
  refine wpAny_mono (hs (.ref ea) pins s₈ _ _ (D.unb i) I8 (hts ea hn')) (fun fw s₉ q => ?_) fun _ _ z => z.elim
  show wpAny _ _ (do bindName X.env n .none; unbindBehindTheSuite X.env n hpos) _ _ s₉
  cases fw with
  | next => obtain ⟨σ', H9, J, d⟩ := q; exact h2_ (J.unsuite I.ok) hN hi hn fun s' J' => ⟨_, _, J', d⟩
  | brk => obtain ⟨σ', H9, J, d⟩ := q; exact h2_ (J.unsuite I.ok) hN hi hn fun s' J' => ⟨_, _, J', d⟩
  | cont => obtain ⟨σ', H9, J, d⟩ := q; exact h2_ (J.unsuite I.ok) hN hi hn fun s' J' => ⟨_, _, J', d⟩
  | ret u => obtain ⟨v, σ', H9, J, rv, d⟩ := q; exact h2_ (J.unsuite I.ok) hN hi hn fun s' J' => ⟨v, _, _, J', rv, d⟩
end L2
namespace RimRW
def Sep (c : Nat) : Prop := c = 32 ∨ c = 10
def Run (n : Nat) (l : List Nat) : Prop := ∀ s, s <:+: l → (∀ c ∈ s, ¬ Sep c) → s.length ≤ n
theorem Run.part {n : Nat} {l s : List Nat} (h : Run n l) (hs : s <:+: l) : Run n s := fun t ht hc => h t (ht.trans hs) hc
theorem Run.of_len {n : Nat} {l : List Nat} (h : l.length ≤ n) : Run n l := fun s hs _ => Nat.le_trans hs.length_le h
theorem Run.word {n : Nat} {l : List Nat} (h : Run n l) (hc : ∀ c ∈ l, ¬ Sep c) : l.length ≤ n := h l (List.infix_refl l) hc
theorem Run.mono {m n : Nat} {l : List Nat} (h : Run m l) (hm : m ≤ n) : Run n l := fun s hs hc => Nat.le_trans (h s hs hc) hm
theorem l9_ {s a b : List Nat} (h : s <+: a ++ b) : s = a.take s.length ++ b.take (s.length - a.length) := by
 have := List.prefix_iff_eq_take.mp h
 rw [List.take_append] at this
 exact this
theorem Run.app {m n : Nat} : ∀ {a b : List Nat}, Run m a → Run n b → Run (m + n) (a ++ b)
 | [], b, _, hb => hb.mono (by omega)
 | x :: a, b, ha, hb => by
  intro s hs hc
  rw [List.cons_append, List.infix_cons_iff] at hs
  rcases hs with hs | hs
  ·have e := l9_ (a := x :: a) hs
   have h1 : ((x :: a).take s.length).length ≤ m := ha _ (List.take_prefix _ _).isInfix fun c h => hc c (by rw [e]; exact List.mem_append_left _ h)
   have h2 : (b.take (s.length - (x :: a).length)).length ≤ n := hb _ (List.take_prefix _ _).isInfix fun c h => hc c (by rw [e]; exact List.mem_append_right _ h)
   have h3 := congrArg List.length e
   rw [List.length_append] at h3
   omega
  ·exact Run.app (a := a) (ha.part (List.suffix_cons x a).isInfix) hb s hs hc
theorem Run.sep {n c : Nat} (hs : Sep c) : ∀ {a b : List Nat}, Run n a → Run n b → Run n (a ++ c :: b)
 | [], b, _, hb => by
  intro s h hc
  rw [List.nil_append, List.infix_cons_iff] at h
  rcases h with h | h
  ·cases s with
   | nil => exact Nat.zero_le _
   | cons y s =>
    obtain ⟨t, e⟩ := h
    rw [List.cons_append] at e
    exact absurd ((List.cons.inj e).1 ▸ hs) (hc y List.mem_cons_self)
  ·exact hb s h hc
 | x :: a, b, ha, hb => by
  intro s h hc
  rw [List.cons_append, List.infix_cons_iff] at h
  rcases h with h | h
  ·have e := l9_ (a := x :: a) h
   by_cases hl : s.length ≤ (x :: a).length
   ·rw [Nat.sub_eq_zero_of_le hl, List.take_zero, List.append_nil] at e
    exact ha s (by rw [e]; exact (List.take_prefix _ _).isInfix) hc
   ·obtain ⟨k, hk⟩ : ∃ k, s.length - (x :: a).length = k + 1 := ⟨s.length - (x :: a).length - 1, by omega⟩
    rw [hk, List.take_succ_cons] at e
    exact absurd hs (hc c (by rw [e]; exact List.mem_append_right _ List.mem_cons_self))
  ·exact Run.sep hs (a := a) (ha.part (List.suffix_cons x a).isInfix) hb s h hc
end RimRW
namespace L2
open PySem PySem.Spec PyProof.Rows PySem.W Builtin.Str PySem.StrLaws
def partT (x y : Str) : Str × Str × Str := match occurrences x y 0 x.length 1 with
 | i :: _ => (strSub x 0 i, y, strSub x (i + y.length) x.length)
 | [] => (x, Str.empty, Str.empty)
def rPartn : V → List V → Hp → VK → Prop := fun x vs H Q => ∃ a b : Str, x = .str a ∧ vs = [.str b] ∧ (b.length == 0) = false ∧ a.length ≤ sizeLine ∧ ∀ D, H D = none → Q (.ref D) (upd H D (.tup [.str (partT a b).1, .str (partT a b).2.1, .str (partT a b).2.2]))
theorem i4_ {X : Cx} : MtR X "str.partition" rPartn := by
 intro pins s σ H x xs v us Q I rx r h
 obtain ⟨a, b, rfl, rfl, hb, ha, q⟩ := h
 obtain ⟨t, rfl⟩ := rx
 obtain ⟨w', rfl, u, rfl⟩ := vals1 r
 have nH : H s.heap.objs.size = none := I.hok.fresh (Nat.le_refl _)
 have q' := q _ nH
 refine call_meets F.slot_str_partition (typeIs_str _ _ _) F.entry_str_partition (F.args_str_partition_2 _ _) (meets_str_partition a b t u hb ha) ?_
 unfold partT at q'
 revert q'
 cases occurrences a b 0 a.length 1 with
 | nil =>
  intro q'
  exact ⟨.ref s.heap.objs.size, _, I.laid (a := s.heap.objs.size) (o := .tup [.str a, .str Str.empty, .str Str.empty]) (fun b o e => Heap.get?_push_of_some _ e) (Nat.le_refl _) ⟨by show 3 ≤ sizeLine; decide, _, .cons ⟨_, rfl⟩ (.cons ⟨_, rfl⟩ (.cons ⟨_, rfl⟩ .nil)), IsTup.new _ _⟩, rfl, q'⟩
 | cons i r =>
  intro q'
  exact ⟨.ref s.heap.objs.size, _, I.laid (a := s.heap.objs.size) (o := .tup [.str (strSub a 0 i), .str b, .str (strSub a (i + b.length) a.length)]) (fun b o e => Heap.get?_push_of_some _ e) (Nat.le_refl _) ⟨by show 3 ≤ sizeLine; decide, _, .cons ⟨_, rfl⟩ (.cons ⟨_, rfl⟩ (.cons ⟨_, rfl⟩ .nil)), IsTup.new _ _⟩, rfl, q'⟩
theorem kE_ {x y : Str} {n : Nat} : ∀ (l : List Nat) (f : Array Nat) (fr : Nat), f.size = 1 → (forIn l (f, fr) (occBody x y n 1)).run.fst = f
 | [], f, fr, _ => rfl
 | a :: l, f, fr, h => by
  rw [List.forIn_cons]
  unfold occBody
  rw [if_neg (fun z => by have : f.size < 1 := z.1.1.1; omega)]
  exact kE_ l f fr h
theorem i5_ {x : Str} {c n : Nat} : ∀ (l : List Nat) (fr : Nat), (∀ i ∈ l, fr ≤ i) → (forIn l ((#[] : Array Nat), fr) (occBody x (onec c) n 1)).run.fst.toList = (l.find? fun i => decide (i + 1 ≤ n) && decide ((cs x)[i]? = some c)).toList
 | [], fr, _ => rfl
 | a :: l, fr, hf => by
  rw [List.forIn_cons]
  unfold occBody
  by_cases hc : a + 1 ≤ n ∧ (cs x)[a]? = some c
  ·rw [if_pos ⟨⟨⟨by show (#[] : Array Nat).size < 1; decide, hf a List.mem_cons_self⟩, hc.1⟩, by rw [eW_, decide_eq_true hc.2]⟩]
   rw [List.find?_cons_of_pos (by rw [decide_eq_true hc.1, decide_eq_true hc.2]; rfl)]
   exact congrArg Array.toList (kE_ l (#[].push a) _ rfl)
  ·rw [if_neg (fun z => hc ⟨z.1.2, by have := z.2; rw [eW_] at this; exact of_decide_eq_true this⟩)]
   rw [List.find?_cons_of_neg (by
    intro z
    have z' := Bool.and_eq_true_iff.mp z
    exact hc ⟨of_decide_eq_true z'.1, of_decide_eq_true z'.2⟩)]
   exact i5_ l fr (fun i hi => hf i (List.mem_cons_of_mem _ hi))
theorem on_ (x : Str) (c : Nat) : occurrences x (onec c) 0 x.length 1 = ((List.range (x.length + 1)).find? fun i => decide (i + 1 ≤ x.length) && decide ((cs x)[i]? = some c)).toList := by
 rw [occ_eq, i5_ _ _ (fun i hi => Nat.zero_le _)]
 rw [show x.length + 1 - 0 = x.length + 1 from rfl, ← List.range_eq_range']
theorem ma_ (x : Str) (c : Nat) : (c ∉ cs x ∧ partT x (onec c) = (x, Str.empty, Str.empty)) ∨ ∃ a b, partT x (onec c) = (a, onec c, b) ∧ cs x = cs a ++ c :: cs b ∧ c ∉ cs a := by
 unfold partT
 rw [on_]
 cases hf : (List.range (x.length + 1)).find? fun i => decide (i + 1 ≤ x.length) && decide ((cs x)[i]? = some c) with
 | none =>
  refine .inl ⟨fun hm => ?_, rfl⟩
  obtain ⟨i, hi, e⟩ := List.mem_iff_getElem.mp hm
  have hl : i < x.length := hi
  have := List.find?_eq_none.mp hf i (List.mem_range.mpr (by omega))
  exact this (by rw [decide_eq_true (show i + 1 ≤ x.length by omega), List.getElem?_eq_getElem hi, e, decide_eq_true rfl]; rfl)
 | some i =>
  have h1 := List.find?_some hf
  have h2 := Bool.and_eq_true_iff.mp h1
  have il : i + 1 ≤ x.length := of_decide_eq_true h2.1
  have hc := of_decide_eq_true h2.2
  refine .inr ⟨strSub x 0 i, strSub x (i + 1) x.length, rfl, ?_, ?_⟩
  ·have e1 : cs (strSub x 0 i) = (cs x).take i := by
    show (x.cps.extract 0 i).toList = _
    rw [Array.toList_extract]
    show List.take (i - 0) (List.drop 0 (cs x)) = _
    rw [List.drop_zero, Nat.sub_zero]
   have e2 : cs (strSub x (i + 1) x.length) = (cs x).drop (i + 1) := by
    show (x.cps.extract (i + 1) x.length).toList = _
    rw [Array.toList_extract]
    show List.take (x.length - (i + 1)) (List.drop (i + 1) (cs x)) = _
    exact List.take_of_length_le (by rw [List.length_drop, ax_]; omega)
   rw [e1, e2]
   obtain ⟨hi, e⟩ := List.getElem?_eq_some_iff.mp hc
   have := List.take_append_drop i (cs x)
   rw [List.drop_eq_getElem_cons hi, e] at this
   exact this.symm
  ·intro hm
   have e1 : cs (strSub x 0 i) = (cs x).take i := by
    show (x.cps.extract 0 i).toList = _
    rw [Array.toList_extract]
    show List.take (i - 0) (List.drop 0 (cs x)) = _
    rw [List.drop_zero, Nat.sub_zero]
   rw [e1] at hm
   obtain ⟨j, hj, e⟩ := List.mem_iff_getElem.mp hm
   have hj' : j < i := by
    rw [List.length_take] at hj
    omega
   rw [List.getElem_take] at e
   have := (List.find?_eq_some_iff_append.mp hf).2
   obtain ⟨as, bs, eab, hno⟩ := this
   have hjm : j ∈ as := by
    have hjr : j ∈ List.range (x.length + 1) := List.mem_range.mpr (by omega)
    have hp := List.pairwise_lt_range (n := x.length + 1)
    rw [eab] at hjr hp
    rcases List.mem_append.mp hjr with h | h
    ·exact h
    ·rcases List.mem_cons.mp h with h | h
     ·omega
     ·have := (List.pairwise_cons.mp (List.pairwise_append.mp hp).2.1).1 j h
      omega
   have := hno j hjm
   rw [decide_eq_true (show j + 1 ≤ x.length by omega), List.getElem?_eq_getElem (by rw [ax_]; omega), e, decide_eq_true rfl] at this
   exact absurd this (by decide)
end L2
namespace L2
open PySem PySem.Spec PyProof.Rows
def txtsOf : List Expr → Option (List Str)
 | [] => some []
 | .Constant (.str x) _ _ :: es => (txtsOf es).map (x :: ·)
 | _ => none
theorem mb_ {X : Cx} : ∀ {es : List Expr} {xs : List Str}, txtsOf es = some xs → PA X es (fun _ H Q => Q (xs.map V.str) H)
 | [], xs, h => by
  cases h
  exact ab_
 | e :: es, xs, h => by
  unfold txtsOf at h
  split at h
  ·rename_i heq
   cases heq
  ·rename_i x y z es' heq
   cases heq
   cases ht : txtsOf es with
   | none => rw [ht] at h; cases h
   | some ys =>
    rw [ht] at h
    cases h
    exact pa_c aF_ (mb_ ht)
  ·cases h
theorem mc_ {X : Cx} {es : List Expr} {pos : Pos} {x1} {xs : List Str} (h : txtsOf es = some xs) (hl : xs.length ≤ sizeLine) : PE X (.Tuple es x1 pos) (fun _ H Q => ∀ p, H p = none → Q (.ref p) (upd H p (.tup (xs.map V.str)))) :=
 fun pins s σ H Q I q => aO_ (mb_ h) pins s σ H Q I ⟨by rw [List.length_map]; exact hl, q⟩
end L2
namespace L2
open PySem PySem.Spec PyProof.Rows
def It5 (n : Nat) : It := ⟨fun i _ => i < n, fun i H x H' => H' = H ∧ x = .int (5 * i), fun i _ => n ≤ i⟩
theorem jO_ {P : Program} {w : World} {K : PySem.W.Frag} {tg : Expr} (it : Addr) (n : Nat) : Turn P w K tg (It5 n) [it] it (fun i h => IsRangeIter h it (0 + (i : Nat) * 5) ((n : Int) - (i : Nat)) 5) where
 mem := by simp
 obj := fun i h st b hb => by
  have e : b = it := by simpa using hb
  subst e
  exact ⟨_, st, fun v z => by
   have z' : Data.fields _ = Data.cell v := z
   cases z'⟩
 keep := fun i h h' st k => k it (by simp) _ st
 item := by
  intro X hP hw hK hc i pins s σ H E I hf st hg
  subst hP hw hK
  obtain ⟨f0, f1, f2, f3, f4, f5⟩ := hf it (by simp)
  have W := Walks.range (prog := X.prog) (w := X.w) (I.ok.hd hc) it 0 5 n
  refine W.item i s _ _ hg st fun v h' tk hv st' kk => ?_
  obtain ⟨t, rfl⟩ := hv
  have I1 : Inv X pins σ H { s with heap := h', toks := tk } := I.turned (fun b o hb e => kk b o (by simpa using hb) e) f0 f1 f3 f4 f5
  refine ⟨_, rfl, go_of (s := { s with heap := h', toks := tk }) (n := "range_iterator") st' rfl rfl (by decide) ⟨.int (5 * i), H, I1, ⟨t, ?_⟩, ⟨rfl, rfl⟩, st', fun b hb => (hf b hb).1⟩⟩
  rw [Int.zero_add, Int.mul_comm]
 done := by
  intro X hP hw hK hc i pins s σ H E I hf st hg
  subst hP hw hK
  obtain ⟨f0, f1, f2, f3, f4, f5⟩ := hf it (by simp)
  exact wpAny_pyNext_range_end (I.ok.hd hc) st (by have : n ≤ i := hg; omega) fun h' eb => ⟨rfl, I.turned (t' := s.toks) (fun b o hb e => eb b o hb e) f0 f1 f3 f4 f5⟩
 self := fun _ _ _ _ _ st h => wpAny_pyIter_rangeiter st h
def iRng5 (ta : TA) : TI := fun σ H R => ta σ H fun vs H1 => ∃ j : Int, vs = [.int 0, .int j, .int 5] ∧ (0 < j ∧ j < 1000) ∧ R (It5 ((j + 4) / 5).toNat) H1
theorem size5 {j : Int} (h : 0 < j) : Builtin.Range.rangeSize 0 j 5 = (j + 4) / 5 := by
 unfold Builtin.Range.rangeSize
 rw [if_pos (by decide), if_pos h]
 omega
theorem small5 {j : Int} (h0 : 0 < j) (h1 : j < 1000) : Builtin.Range.small 0 j 5 = true := by
 unfold Builtin.Range.small
 rw [size5 h0]
 simp only [Builtin.Range.rangeFitsLong, Bool.and_eq_true, Bool.or_eq_true, decide_eq_true_eq, beq_iff_eq, show (5 : Int) > 0 by decide, if_true]
 omega
theorem md_ {X : Cx} {tg a b c : Expr} {ta : TA} {p pos : Pos} (hg : Gl X "range") (hm : X.mg "range" = none) (ha : PA X [a, b, c] ta) (hs : plainArgs [a, b, c] = true := by rfl) :
  PI X tg (.Call (.Name "range" p) [a, b, c] [] pos) (iRng5 ta) := by
 have h' : notStar a = true ∧ plainArgs [b, c] = true := by simpa [plainArgs] using hs
 intro pins s σ H R I h
 refine Call_ (d8_ I hg hm boot_range (PyProof.Rows.callWith_type1 (thn (ha pos pins s σ H _ I h) fun us s1 ⟨vs, H1, I1, r1, q1⟩ => ?_) (aq_ h'.1) (bp_ h'.2)))
 obtain ⟨j, e, ⟨q1, q2⟩, q⟩ := q1
 subst e
 cases r1 with
 | cons r rr =>
  cases rr with
  | cons r' rr =>
   cases rr with
   | cons r'' rr =>
    cases rr
    obtain ⟨t, rfl⟩ := r
    obtain ⟨t', rfl⟩ := r'
    obtain ⟨t'', rfl⟩ := r''
    refine call_range_3 (by decide) ?_ (Or.inl (PyProof.noPylong_of_log2 (by decide +kernel)))
    refine wpAny_pyIter_range (IsRange.new ..) (small5 q1 q2) ?_
    have I2 : Inv X pins σ H1 { s1 with heap := s1.heap.push { cls := .type "range", data := .fields #[.int 0 t, .int j t', .int 5 t''] }, toks := s1.toks } := I1.kept fun b o e => Heap.get?_push_of_some _ e
    refine ⟨(s1.heap.push { cls := .type "range", data := .fields #[.int 0 t, .int j t', .int 5 t''] }).objs.size, [(s1.heap.push { cls := .type "range", data := .fields #[.int 0 t, .int j t', .int 5 t''] }).objs.size], _, _, H1, rfl,
     I2.kept (t' := s1.toks) fun b o e => Heap.get?_push_of_some _ e, jO_ _ ((j + 4) / 5).toNat, ?_, fun b hb => ?_, q⟩
    ·have e2 : ((((j + 4) / 5).toNat : Nat) : Int) - ((0 : Nat) : Int) = Builtin.Range.rangeSize 0 j 5 := by rw [size5 q1]; omega
     show IsRangeIter _ _ (0 + ((0 : Nat) : Int) * 5) (((((j + 4) / 5).toNat : Nat) : Int) - ((0 : Nat) : Int)) 5
     rw [e2]
     exact Heap.get?_push_size _ rfl
    ·have e : b = (s1.heap.push { cls := .type "range", data := .fields #[.int 0 t, .int j t', .int 5 t''] }).objs.size := by simpa using hb
     subst e
     exact I2.fpOk (Nat.le_refl _) (I2.hok.fresh (Nat.le_refl _))
theorem oo_ {n : Nat} {g : TG} {tb : TS} {D : Ends} {σ : St} {H : Hp} (Pv : Nat → St → Hp → Prop) (h0 : Pv 0 σ H)
  (hs : ∀ i σ H, i < n → Pv i σ H → g (.int (5 * i)) σ H fun σ2 H2 => tb { D with nx := Pv (i + 1), ct := Pv (i + 1), bk := D.nx } σ2 H2) (hd : ∀ σ H, Pv n σ H → D.nx σ H) : ForGo (It5 n) g tb D σ H := by
 refine ⟨fun i m σ H => i ≤ n ∧ m = n - i ∧ Pv i σ H, ⟨n, Nat.zero_le _, by omega, h0⟩, ?_⟩
 rintro i m σ H ⟨h1, rfl, p⟩
 by_cases e : i = n
 ·subst e
  exact .inl ⟨Nat.le_refl _, hd _ _ p⟩
 ·refine .inr ⟨show i < n by omega, Pv (i + 1), fun σ' H' q => ⟨n - (i + 1), by omega, by omega, rfl, q⟩, ?_⟩
  rintro x H' ⟨rfl, rfl⟩
  exact hs i σ _ (by omega) p
theorem nc_ {n : Nat} {g : TG} {tb : TS} {nx bk ct : SHP} {rt : VK} {σ : St} {H : Hp} (Pv : Nat → St → Hp → Prop) (h0 : Pv 0 σ H)
  (hs : ∀ (i : Nat) σ H, i < n → ∀ (kk kb : SHP), (∀ σ' H', Pv (i + 1) σ' H' → kk σ' H') → (∀ σ' H', nx σ' H' → kb σ' H') → ∀ G : Prop, ((g (.int (5 * i)) σ H fun σ2 H2 => tb ⟨kk, rt, kb, kk⟩ σ2 H2) → G) → Pv i σ H → G) (hd : ∀ σ H, Pv n σ H → nx σ H) : ForGo (It5 n) g tb ⟨nx, rt, bk, ct⟩ σ H :=
 oo_ Pv h0 (fun i σ H hi p => hs i σ H hi _ _ (fun _ _ q => q) (fun _ _ q => q) _ id p) hd
end L2
namespace L2
open PySem PySem.Spec PyProof.Rows PySem.W
theorem k8_ {prog : Program} {w : World} {A : Around} {E : Value → Shared → Prop} {s : Shared} {l : Addr} {xs : Array (Int × Tok)} {Q : Value → Shared → Prop} (hh : A.handled = none) (hl : s.heap.IsTuple l (intItems xs)) (hne : 0 < xs.size)
  (h : ∀ v h' tk, (intItems xs)[argBest (fun i j => decide (numAt xs i > numAt xs j)) (xs.size - 1)]? = some v → (∀ b o, s.heap.get? b = some o → h'.get? b = some o) → Q v { s with heap := h', toks := tk }) :
  wpAny (model prog w) A (call (.builtin "max") [.ref l]) Q E s := by
 have hlt : l < s.heap.objs.size := by obtain ⟨_, e, _⟩ := hl; exact Heap.lt_size e
 refine call_max_walk (wpAny_pyIter_tuple hl ?_)
 refine ⟨_, [_, l], [_], _, _, _, _, rfl, Walks.tuple (A := A.in1) hh _ l (Nat.ne_of_lt hlt) (intItems xs),
  ⟨⟨_, Heap.get?_push_size _ rfl, rfl, rfl⟩, hl.push _⟩, fun c hc => ?_, by simpa [intItems] using hne, CmpOf.ints_gt (numAt xs) (fun _ _ => intItems_at), fun v h' tk hP hk => ?_⟩
 ·show c < (s.heap.push _).objs.size
  rw [Heap.size_push]
  rcases List.mem_cons.mp hc with rfl | hc
  ·exact Nat.lt_succ_self _
  ·rcases List.mem_cons.mp hc with rfl | hc
   ·exact Nat.lt_succ_of_lt hlt
   ·cases hc
 ·refine h v h' tk (by simpa [intItems] using hP) fun b o e => hk b o (fun hm => ?_) (Heap.get?_push_of_some _ e)
  rcases List.mem_cons.mp hm with e1 | hm
  ·exact absurd (e1 ▸ Heap.lt_size e) (Nat.lt_irrefl _)
  ·cases hm
def rMaxT : List V → Hp → VK → Prop := fun vs H Q => ∃ (p : Addr) (ns : List Int), vs = [.ref p] ∧ H p = some (.tup (ns.map V.int)) ∧ 0 < ns.length ∧ ∀ M : Int, M ∈ ns → (∀ a ∈ ns, a ≤ M) → Q (.int M) H
theorem me_ {X : Cx} (hc : X.calm = true) : CallR X (.builtin "max") rMaxT := by
 intro pins s σ H xs us Q I r h
 obtain ⟨p, ns, rfl, hp, h0, q⟩ := h
 obtain ⟨u, rfl, e⟩ := vals1 r
 cases e
 obtain ⟨its, rv, pl, _⟩ := I.tuple (.inl (.inl hp))
 obtain ⟨m, hn, F0⟩ := I.frm
 have hi : IntsAre its ns := hI_ rv
 obtain ⟨ys, e⟩ := hi.allInts.items
 have hns : ns = ys.toList.map (·.1) := by
  rw [← hi.numsOf, ← nums_intItems, ← e]
 have hsz : 0 < ys.size := by
  have h3 := h0; rw [hns, List.length_map, Array.length_toList] at h3; exact h3
 rw [e] at pl
 refine k8_ (I.ok.hd hc) pl hsz fun v h' tk hv hk => ?_
 obtain ⟨t, rfl⟩ := intItems_at hv
 obtain ⟨h1, h2⟩ := argBest_gt (numAt ys) (ys.size - 1)
 refine ⟨.int _, H, I.led (t' := tk) hn (F0.grownK hk) ((gq_).grown hk) (fun _ _ _ n => n) (fun _ _ w => w) (fun b o w n => by rw [w] at n; cases n), ⟨t, rfl⟩, q _ ?_ fun a ha => ?_⟩
 ·rw [hns, numAt_eq]; exact getD_mem (by rw [List.length_map, Array.length_toList]; omega)
 ·rw [hns] at ha
  obtain ⟨j, hj, rfl⟩ := mem_getD ha
  rw [List.length_map, Array.length_toList] at hj
  rw [← numAt_eq]; exact h2 j (by omega)
end L2
namespace Rim75
open PySem PySem.Spec PyProof.Rows L2 RimM
theorem k9_ : plainT "int" = True := eq_true (.inl rfl)
theorem jP_ : plainT "bool" = True := eq_true (.inr (.inl rfl))
theorem i6_ : plainT "tuple" = True := eq_true (.inr (.inr (.inl rfl)))
theorem jQ_ : plainT "list" = True := eq_true (.inr (.inr (.inr (.inl rfl))))
theorem la_ : plainT "str" = True := eq_true (.inr (.inr (.inr (.inr rfl))))
theorem kF_ {x y : Int} (hx : 0 ≤ x) (hy : 0 < y) : Int.gcd y (x % y) = Int.gcd x y := by
 obtain ⟨m, rfl⟩ := Int.eq_ofNat_of_zero_le hx
 obtain ⟨n, rfl⟩ := Int.eq_ofNat_of_zero_le (Int.le_of_lt hy)
 show Int.gcd (n : Int) ((m : Int) % (n : Int)) = Int.gcd (m : Int) (n : Int)
 rw [← Int.natCast_emod, Int.gcd_natCast_natCast, Int.gcd_natCast_natCast, Nat.gcd_comm n, ← Nat.gcd_rec, Nat.gcd_comm]
local macro_rules | `(tactic| walk_at "s2") => `(tactic| simp only [tSeq, tAsg, gName, tTup, tLst, tCons, tNil, tVar, tC, tCB, tOp, rI, rI0, tTest, tIfS, tNext, tRet, tRetN, tDrop, tB, tAnd, tOr, tNot, tAndV, tOrV, tNotV, rU, tUn, tBM0, tBM, rBits, tCall, L2.start, rIxTH, rIxLH, rLenH, rEqTH, rEq, rNe, scal, tyV, CMul, CMulB, CDivB, CDivF, CPow, List.map_cons, List.map_nil, List.length_cons, List.length_nil, List.replicate, List.cons_append, List.nil_append, List.append_nil, List.set_cons_zero, List.set_cons_succ, List.getElem?_cons_zero, List.getElem?_cons_succ, Option.some.injEq, List.cons.injEq, V.int.injEq, V.bl.injEq, V.str.injEq, V.ref.injEq, V.ty.injEq, HO.tup.injEq, HO.lst.injEq, exists_eq_left, exists_eq_left', exists_and_left, and_assoc, and_true, true_and, ad_, atI_0, atI_1, atI_2, Nat.zero_add, Nat.reduceAdd, Nat.reduceSub, decide_eq_true_eq, Bool.not_eq_true', decide_eq_false_iff_not, reduceCtorEq, false_or, or_false, true_or, or_true, k9_, jP_, i6_, jQ_, la_, Bool.false_eq_true, if_false, if_true, Bool.not_false, Bool.not_true, Bool.not_not, gSub, rSetL, oV_, nY_, rCat, iRng1, n8_, tPar, iList, tComp, pick, tYes, iZip, gTup, gCons, gNil, rSum, rListH, List.map, Option.bind, iRng2, iRngD, tSl, rSlH, tPart, tNoPart, tPar3, tDGet, tDIn, tDNotIn, sDPut, tDNewK, tDNewT, rAppend, rNeD, tSortRev, rInsert, rMulS, rIxS, rSlS, tLRange, rPopAt, iEnum, rIn, rExtend, tTest, rClear, rReverse, gLst2, rPop, tNotN, nF_, tIsN, rEqD, rJoin, tF3, tIf, tJRev, iSigns, rAllB, tChain, rSlE, rSplit, rStarts, rIntT])
local macro_rules | `(tactic| walk_at "s1") => `(tactic| first | (dsimp only [tSeq, tAsg, gName, tTup, tLst, tCons, tNil, tVar, tC, tCB, tOp, rI, rI0, tTest, tIfS, tNext, tRet, tRetN, tDrop, tB, tAnd, tOr, tNot, tAndV, tOrV, tNotV, rU, tUn, tBM0, tBM, rBits, tCall, L2.start, rIxTH, rIxLH, rLenH, rEqTH, rEq, rNe, CMul, CMulB, CDivB, CDivF, CPow, List.map_cons, List.map_nil, List.length_cons, List.length_nil, List.replicate, List.cons_append, List.nil_append, List.set_cons_zero, List.set_cons_succ, List.getElem?_cons_zero, List.getElem?_cons_succ, gSub, rSetL, rCat, iRng1, tPar, iList, tComp, pick, tYes, iZip, gTup, gCons, gNil, rSum, rListH, List.map, iRng2, iRngD, tSl, rSlH, tPart, tNoPart, tPar3, tDGet, tDIn, tDNotIn, sDPut, tDNewK, tDNewT, rAppend, rNeD, tSortRev, rInsert, rMulS, rIxS, rSlS, tLRange, rPopAt, iEnum, rIn, rExtend, tTest, rClear, rReverse, gLst2, rPop, tNotN, nF_, tIsN, rEqD, rJoin, tF3, tIf, tJRev, iSigns, rAllB, tChain, rSlE, rSplit, rStarts, rIntT]; try walk_at "s2") | walk_at "s2")
local macro_rules | `(tactic| walk_at "bx") => `(tactic| first | (refine oj_ ?_; intro _ _) | refine o7_ (by assumption) ?_ | refine box_g (by assumption) ?_)
local macro_rules | `(tactic| walk_at "rd") => `(tactic| ((first | walk_at "s1" | (walk_at "bx"; try walk_at "s1")); repeat (walk_at "bx"; try walk_at "s1")))
structure Txt (K : PySem.W.Frag) (mg : Str → Option Value) : Prop where
 n_abs : mg "abs" = none
 n_all : mg "all" = none
 n_max : mg "max" = none
 n_min : mg "min" = none
 n_ValueError : mg "ValueError" = none
 n_len : mg "len" = none
 n_range : mg "range" = none
 n_list : mg "list" = none
 n_isinstance : mg "isinstance" = none
 n_int : mg "int" = none
 n_bool : mg "bool" = none
 n_tuple : mg "tuple" = none
 n_str : mg "str" = none
 n_sorted : mg "sorted" = none
 n_reversed : mg "reversed" = none
 c_LONG_BITS : ∃ t, mg "LONG_BITS" = some (.int 8000 t)
 c_LONGEST_NAME : ∃ t, mg "LONGEST_NAME" = some (.int 8 t)
 c_NAME_SIGNS : ∃ t, mg "NAME_SIGNS" = some (.str (Str.ofString "abcdefghijklmnopqrstuvwxyz0123456789") t)
 c_FIGURES : ∃ t, mg "FIGURES" = some (.str (Str.ofString "0123456789") t)
 c_BLOCK_LENGTH : ∃ t, mg "BLOCK_LENGTH" = some (.int 64 t)
 c_MOST_POSTS : ∃ t, mg "MOST_POSTS" = some (.int 6 t)
variable {P : Program} {w : World} {K : PySem.W.Frag} {mg : Str → Option Value} {base : Heap}
theorem nd_ {b : Int} (h : b ≠ 0) : Builtin.Int.intBits b = b.natAbs.log2 + 1 := by
 unfold Builtin.Int.intBits
 simp [h]
theorem nI_ {g b : Int} (h0 : g ≠ 0) (h1 : g.natAbs ≤ b.natAbs) (hb : Builtin.Int.intBits b ≤ 8000) : g.natAbs.log2 < 9000 := by
 have h := PyProof.Rows.bits_of_natAbs_le (a := g) (b := b) (n := 8000) h1 hb
 rw [nd_ h0] at h
 omega
abbrev LK (s : Stmt) (x : Str) (k : NameKind) : Prop := (defScope s).names.lookup x = some k
abbrev stN (i : Nat) : Stmt := PySem.Challenge.pw_rimread_k75_texts_judged.main.body.getD i (.Pass ⟨0, 0, 0, 0⟩)
abbrev s_Lcell_at : Stmt := stN 37
theorem jR_ : FnScope ["_law_script", "_law_k"] ["_law_script", "_law_k"] (defScope s_Lcell_at) := ⟨rfl, rfl, rfl, by decide +kernel, rfl, by decide +kernel, by decide +kernel⟩
theorem fh_ : LK s_Lcell_at "_law_script" .local := by decide +kernel
theorem fi_ : LK s_Lcell_at "_law_k" .local := by decide +kernel
theorem g9_ : LK s_Lcell_at "len" .globalImplicit := by decide +kernel
def sp_cell (K : PySem.W.Frag) : Sp := fun vs H Q _ => ∃ (a : Addr) (ns : List Int) (i : Int), vs = [.ref a, .int i] ∧ SqL K H a (ns.map V.int) ∧ 0 ≤ i ∧ ∀ z, Q (.int z) H
theorem jS_ (T : Txt K mg) (F : Fn0 K mg "_law_cell_at" s_Lcell_at) : Cal P w K mg base "_law_cell_at" ["_law_script", "_law_k"] 1 (sp_cell K) := by
 refine aW_ F jR_ (fun _ _ _ _ _ _ us hl => match us, hl with | [_, _], _ => rfl) ?len ?body
 case len => rintro vs H Q E ⟨a, b, c, rfl, _⟩; rfl
 case body =>
  intro f cdv A outer s H vs Q E hr h
  obtain ⟨a, ns, i, rfl, hS, h0, k⟩ := h
  refine' ⟨_, ?D, ?R⟩
  case D =>
   refine' aa_ ?g1 ?g2
   case' g1 => refine' ps_if ?g3 ?g4 ar_
   case' g3 => refine' ak_ op_lt (pv1 1 rfl fi_) ?g7 (nomark _)
   case' g7 => refine' ah_ ea_ g9_ T.n_len aG_ ?g8
   case' g8 => refine' pa_c (pv1 0 rfl fh_) ab_
   case' g4 => refine' ae_ ?g11
   case' g11 => refine' ao_ ?g12
   case' g12 => refine' pe_ix (mV_ (K := K) rfl) (pv1 0 rfl fh_) (pv1 1 rfl fi_) (fun _ _ => rfl)
   case' g2 => refine' ae_ ?g15
   case' g15 => refine' ao_ ac_
  case R =>
   walk_at "rd"
   refine ⟨_, .inl hS, ?_⟩
   rw [List.length_map]
   refine ite2 (fun hl => ?_) (fun hl => ?_)
   ·refine ⟨a, _, i, V.int (ns.getD i.toNat 0), rfl, rfl, hS, b9_ h0 ?_, k _⟩
    have : i.toNat < ns.length := by omega
    simp [List.getElem?_map, this, List.getD]
   ·exact k 0
abbrev s_Lbig : Stmt := stN 38
theorem ed_ : FnScope ["_law_script", "_law_at", "_law_by", "_law_prime", "_law_cell", "_law_big_here", "_law_k", "_law_one"] ["_law_script", "_law_at"] (defScope s_Lbig) := ⟨rfl, rfl, rfl, by decide +kernel, rfl, by decide +kernel, by decide +kernel⟩
theorem i7_ : LK s_Lbig "_law_script" .local := by decide +kernel
theorem i8_ : LK s_Lbig "_law_at" .local := by decide +kernel
theorem i9_ : LK s_Lbig "_law_by" .local := by decide +kernel
theorem ja_ : LK s_Lbig "_law_prime" .local := by decide +kernel
theorem ha_ : LK s_Lbig "_law_cell" .local := by decide +kernel
theorem fj_ : LK s_Lbig "_law_big_here" .local := by decide +kernel
theorem dk_ : LK s_Lbig "_law_k" .local := by decide +kernel
theorem jb_ : LK s_Lbig "_law_one" .local := by decide +kernel
theorem d0_ : LK s_Lbig "_law_cell_at" .globalImplicit := by decide +kernel
theorem id_ : LK s_Lbig "range" .globalImplicit := by decide +kernel
def sp_big (K : PySem.W.Frag) : Sp := fun vs H Q _ => ∃ (a : Addr) (ns : List Int) (j : Int), vs = [.ref a, .int j] ∧ 0 ≤ j ∧ SqL K H a (ns.map V.int) ∧ ∀ z H', Same H H' → Q (.int z) H'
theorem by_at {a0 a1 a2 a3 a4 a5 a6 a7 : Int} (i : Int) (h0 : 0 ≤ i) (h1 : i < 8) (P : Int → Prop) (p0 : P a0) (p1 : P a1) (p2 : P a2) (p3 : P a3) (p4 : P a4) (p5 : P a5) (p6 : P a6) (p7 : P a7) :
  ∃ v, atI [V.int a0, .int a1, .int a2, .int a3, .int a4, .int a5, .int a6, .int a7] i = some (.int v) ∧ P v := by
 have : i = 0 ∨ i = 1 ∨ i = 2 ∨ i = 3 ∨ i = 4 ∨ i = 5 ∨ i = 6 ∨ i = 7 := by omega
 rcases this with rfl | rfl | rfl | rfl | rfl | rfl | rfl | rfl
 ·exact ⟨_, rfl, p0⟩
 ·exact ⟨_, rfl, p1⟩
 ·exact ⟨_, rfl, p2⟩
 ·exact ⟨_, rfl, p3⟩
 ·exact ⟨_, rfl, p4⟩
 ·exact ⟨_, rfl, p5⟩
 ·exact ⟨_, rfl, p6⟩
 ·exact ⟨_, rfl, p7⟩
theorem op_ (T : Txt K mg) (F : Fn0 K mg "_law_big" s_Lbig) (C_Lcell_at : Cal P w K mg base "_law_cell_at" ["_law_script", "_law_k"] 1 (sp_cell K)) : Cal P w K mg base "_law_big" ["_law_script", "_law_at"] 2 (sp_big K) := by
 refine aW_ F ed_ (fun _ _ _ _ _ _ us hl => match us, hl with | [_, _], _ => rfl) ?len ?body
 case len => rintro vs H Q E ⟨a, b, c, rfl, _⟩; rfl
 case body =>
  intro f cdv A outer s H vs Q E hr h
  obtain ⟨a, ns, j, rfl, hj, hS, k⟩ := h
  refine' ⟨_, ?D, ?R⟩
  case D =>
   refine' aa_ ?g1 ?g2
   case' g1 => refine' af_ (i := 2) ed_.nd rfl i9_ ?g3
   case' g3 => refine' aO_ ?g4
   case' g4 => refine' pa_c ac_ ?g6
   case' g6 => refine' pa_c ac_ ?g8
   case' g8 => refine' pa_c ac_ ?g10
   case' g10 => refine' pa_c ac_ ?g12
   case' g12 => refine' pa_c ac_ ?g14
   case' g14 => refine' pa_c ac_ ?g16
   case' g16 => refine' pa_c ac_ ?g18
   case' g18 => refine' pa_c ac_ ab_
   case' g2 => refine' aa_ ?g21 ?g22
   case' g21 => refine' af_ (i := 3) ed_.nd rfl ja_ ?g23
   case' g23 => refine' aO_ ?g24
   case' g24 => refine' pa_c ac_ ?g26
   case' g26 => refine' pa_c ac_ ?g28
   case' g28 => refine' pa_c ac_ ?g30
   case' g30 => refine' pa_c ac_ ?g32
   case' g32 => refine' pa_c ac_ ?g34
   case' g34 => refine' pa_c ac_ ?g36
   case' g36 => refine' pa_c ac_ ?g38
   case' g38 => refine' pa_c ac_ ab_
   case' g22 => refine' aa_ ?g41 ?g42
   case' g41 => refine' af_ (i := 4) ed_.nd rfl ha_ ?g43
   case' g43 => refine' al_ C_Lcell_at (hr.mono (by decide)) d0_ ?g44
   case' g44 => refine' pa_c (pv1 0 rfl i7_) ?g46
   case' g46 => refine' pa_c (pv1 1 rfl i8_) ab_
   case' g42 => refine' aa_ ?g49 ?g50
   case' g49 => refine' ps_if ?g51 ?g52 ar_
   case' g51 => refine' ak_ op_ge (pv1 4 rfl ha_) ?g55 (nomark _)
   case' g55 => refine' pe_op kk_ ac_ ac_
   case' g52 => refine' ae_ ?g58
   case' g58 => refine' ao_ (pv1 4 rfl ha_)
   case' g50 => refine' aa_ ?g60 ?g61
   case' g60 => refine' af_ (i := 5) ed_.nd rfl fj_ ac_
   case' g61 => refine' aa_ ?g63 ?g64
   case' g63 => refine' cB_ PassesOwn.never rfl ?g65 ?g66 ?g67
   case' g65 => refine' bg_ id_ T.n_range ?g68
   case' g68 => refine' pa_c ac_ ab_
   case g66 => exact aj_ (i := 6) ed_.nd rfl dk_
   case' g67 => refine' aa_ ?g71 ?g72
   case' g71 => refine' af_ (i := 7) ed_.nd rfl jb_ ?g73
   case' g73 => refine' pe_op aM_ ?g74 ?g75
   case' g74 => refine' pe_op aM_ ?g76 ac_
   case' g76 => refine' pe_op aw_ ?g78 ?g79
   case' g78 => refine' al_ C_Lcell_at (hr.mono (by decide)) d0_ ?g80
   case' g80 => refine' pa_c (pv1 0 rfl i7_) ?g82
   case' g82 => refine' pa_c ?g83 ab_
   case' g83 => refine' pe_op aM_ (pv1 1 rfl i8_) ?g86
   case' g86 => refine' pe_op aw_ (pv1 6 rfl dk_) ac_
   case' g79 => refine' pe_op kk_ ac_ ac_
   case' g75 => refine' pe_op iB_ (pv1 6 rfl dk_) (pv1 6 rfl dk_)
   case' g72 => refine' ae_ ?g93
   case' g93 => refine' af_ (i := 5) ed_.nd rfl fj_ ?g94
   case' g94 => refine' pe_op aM_ ?g95 ?g96
   case' g95 => refine' pe_op iB_ (pv1 5 rfl fj_) ac_
   case' g96 => refine' pe_op aw_ ?g99 ac_
   case' g99 => refine' pe_op aw_ ?g101 ?g102
   case' g101 => refine' pe_op iB_ (pv1 7 rfl jb_) ?g104
   case' g104 => refine' pe_ix bc_ (pv1 2 rfl i9_) ?g106 (fun _ _ => rfl)
   case' g106 => refine' pe_op aw_ (pv1 6 rfl dk_) ac_
   case' g102 => refine' pe_ix bc_ (pv1 3 rfl ja_) ?g110 (fun _ _ => rfl)
   case' g110 => refine' pe_op aw_ (pv1 6 rfl dk_) ac_
   case' g64 => refine' ae_ ?g113
   case' g113 => refine' ao_ (pv1 5 rfl fj_)
  case R =>
   walk_at "rd"
   refine ⟨by decide, fun p hp => ⟨by decide, fun q hq => ?_⟩⟩
   generalize e1 : upd H p (HO.tup _) = H1 at hq ⊢
   have s1 : Same H H1 := e1 ▸ Same.new hp
   have p1 : H1 p = some (.tup _) := e1 ▸ ad_
   generalize e2 : upd H1 q (HO.tup _) = H2
   have s2 : Same H1 H2 := e2 ▸ Same.new hq
   have q2 : H2 q = some (.tup _) := e2 ▸ ad_
   have p2 := s2 _ _ p1
   have sS : Same H H2 := s1.trans s2
   clear e1 e2
   refine ⟨a, ns, j, rfl, sS.seq hS, hj, fun z => ?_⟩
   walk_at "rd"
   refine ⟨by decide, by decide, by decide, ?_⟩
   refine ite2 (fun _ => k _ _ sS) (fun _ => ⟨by decide, by decide, ?_⟩)
   refine cr_ (fun i σ H' => H' = H2 ∧ ∃ (b : Int) (v6 v7 : Option V), σ = [some (V.ref a), some (V.int j), some (V.ref p), some (V.ref q), some (V.int z), some (V.int b), v6, v7]) ⟨rfl, 0, none, none, rfl⟩ ?_ ?_
   ·rintro i σ H' hi ⟨rfl, b, v6, v7, rfl⟩
    have hi' : i < 60 := hi
    walk_at "rd"
    have m9 := Int.emod_nonneg (0 + (i : Int)) (show (9 : Int) ≠ 0 by decide)
    refine ⟨by decide, a, ns, _, rfl, sS.seq hS, by omega, fun y => ?_⟩
    walk_at "rd"
    refine ⟨by decide, by decide, by decide, by decide, .inl ⟨by omega, by omega⟩, .inr ⟨by decide, by decide⟩, by decide, ?_⟩
    have m8 := Int.emod_nonneg (0 + (i : Int)) (show (8 : Int) ≠ 0 by decide)
    have l8 := Int.emod_lt_of_pos (0 + (i : Int)) (show (0 : Int) < 8 by decide)
    obtain ⟨v, hv, v0, v1⟩ := by_at (a0 := 48271) (a1 := 69621) (a2 := 16807) (a3 := 39373) (a4 := 21401) (a5 := 60493) (a6 := 87721) (a7 := 31337) ((0 + (i : Int)) % 8) m8 l8 (fun v => 0 < v ∧ v < 100000) (by decide) (by decide) (by decide) (by decide) (by decide) (by decide) (by decide) (by decide)
    obtain ⟨u, hu, u0, u1⟩ := by_at (a0 := 99991) (a1 := 99989) (a2 := 99971) (a3 := 99961) (a4 := 99929) (a5 := 99923) (a6 := 99907) (a7 := 99901) ((0 + (i : Int)) % 8) m8 l8 (fun v => 0 < v ∧ v < 100000) (by decide) (by decide) (by decide) (by decide) (by decide) (by decide) (by decide) (by decide)
    simp only [p2, q2, Option.some.injEq, HO.tup.injEq, exists_eq_left']
    simp only [hv, hu]
    walk_at "rd"
    exact ⟨.inr ⟨by omega, by omega⟩, by decide, u0, by decide, _, rfl⟩
   ·rintro σ H' ⟨rfl, b, v6, v7, rfl⟩
    walk_at "rd"
    exact k _ _ sS
def dF (p : Int × Int) : Dt := .tup [.int p.1, .int p.2]
theorem mf_ {H : Hp} {v : V} {p : Int × Int} (h : Rep H v (dF p)) : ∃ q, v = .ref q ∧ H q = some (.tup [.int p.1, .int p.2]) := by
 obtain ⟨q, xs, e, hq, x, r, e1, hx, y, r', e2, hy, e3⟩ := h
 cases hx
 cases hy
 subst e1 e2 e3
 exact ⟨q, e, hq⟩
abbrev s_Llow : Stmt := stN 39
theorem jT_ : FnScope ["_law_top", "_law_bottom", "_law_one", "_law_other"] ["_law_top", "_law_bottom"] (defScope s_Llow) := ⟨rfl, rfl, rfl, by decide +kernel, rfl, by decide +kernel, by decide +kernel⟩
theorem jc_ : LK s_Llow "_law_top" .local := by decide +kernel
theorem jd_ : LK s_Llow "_law_bottom" .local := by decide +kernel
theorem ee_ : LK s_Llow "_law_one" .local := by decide +kernel
theorem ef_ : LK s_Llow "_law_other" .local := by decide +kernel
theorem jU_ : LK s_Llow "abs" .globalImplicit := by decide +kernel
def sp_low : Sp := fun vs H Q _ => ∃ t b : Int, vs = [.int t, .int b] ∧ 0 < b ∧ Builtin.Int.intBits b ≤ 8000 ∧ ∀ p H', Same H H' → Rep (newH H H') (.ref p) (dF (nf t b)) → Q (.ref p) H'
theorem oq_ (T : Txt K mg) (F : Fn0 K mg "_law_low" s_Llow) : Cal P w K mg base "_law_low" ["_law_top", "_law_bottom"] 1 sp_low := by
 refine aW_ F jT_ (fun _ _ _ _ _ _ us hl => match us, hl with | [_, _], _ => rfl) ?len ?body
 case len => rintro vs H Q E ⟨a, b, rfl, _⟩; rfl
 case body =>
  intro f cdv A outer s H vs Q E hr h
  obtain ⟨a, b, rfl, hb, lb, k⟩ := h
  refine' ⟨_, ?D, ?R⟩
  case D =>
   refine' aa_ ?g1 ?g2
   case' g1 => refine' ns_ (i := 2) (j := 3) rfl jT_.nd rfl rfl (by decide) ee_ ef_ ?g3 rfl
   case' g3 => refine' pa_c ?g4 ?g5
   case' g4 => refine' ah_ gs_ jU_ T.n_abs kq_ ?g6
   case' g6 => refine' pa_c (pv1 0 rfl jc_) ab_
   case' g5 => refine' pa_c (pv1 1 rfl jd_) ab_
   case' g2 => refine' aa_ ?g11 ?g12
   case' g11 => refine' ew_ PassesOwn.never ?g13 ?g14
   case' g13 => refine' ak_ op_gt (pv1 3 rfl ef_) ac_ (nomark _)
   case' g14 => refine' ae_ ?g17
   case' g17 => refine' ns_ (i := 2) (j := 3) rfl jT_.nd rfl rfl (by decide) ee_ ef_ ?g18 rfl
   case' g18 => refine' pa_c (pv1 3 rfl ef_) ?g20
   case' g20 => refine' pa_c ?g21 ab_
   case' g21 => refine' pe_op aw_ (pv1 2 rfl ee_) (pv1 3 rfl ef_)
   case' g12 => refine' ae_ ?g25
   case' g25 => refine' ao_ ?g26
   case' g26 => refine' aO_ ?g27
   case' g27 => refine' pa_c ?g28 ?g29
   case' g28 => refine' pe_op an_ (pv1 0 rfl jc_) (pv1 2 rfl ee_)
   case' g29 => refine' pa_c ?g32 ab_
   case' g32 => refine' pe_op an_ (pv1 1 rfl jd_) (pv1 2 rfl ee_)
  case R =>
   walk_at "rd"
   refine fD_ (fun σ H1 => ∃ (x y : Int), σ = [some (.int a), some (.int b), some (.int x), some (.int y)] ∧ H1 = H ∧ 0 ≤ x ∧ 0 ≤ y ∧ Int.gcd x y = Int.gcd a b)
    (fun σ _ => match σ with | [_, _, _, some (.int y)] => y.toNat | _ => 0) ?_ ?_
   ·refine ⟨_, _, rfl, rfl, ?_, by omega, ?_⟩
    ·split <;> omega
    ·split
     ·rw [Int.neg_gcd]
     ·rfl
   ·rintro σ H1 ⟨x, y, rfl, rfl, hx, hy, e⟩
    walk_at "rd"
    refine ite2 (fun hne => ?_) (fun he => ?_)
    ·refine ⟨_, N_ok, ?_⟩
     walk_at "rd"
     have h1 := Int.emod_nonneg x (show y ≠ 0 by omega)
     have h2 := Int.emod_lt_of_pos x hne
     exact ⟨hne, hy, h1, (kF_ hx hne).trans e, by omega⟩
    ·have hy0 : y = 0 := by omega
     have hx' : x = (Int.gcd a b : Nat) := by
      rw [← e, hy0, Int.gcd_zero_right]; omega
     have g0 := gpos (t := a) (b := b) (by omega)
     have hl := nI_ (g := (Int.gcd a b : Int)) (b := b) (by omega) (Nat.le_of_dvd (by omega) (Int.natAbs_dvd_natAbs.mpr (Int.gcd_dvd_right ..))) lb
     subst hx'
     refine ⟨g0, hl, g0, hl, by decide, fun p hp => k p _ (Same.new hp) ⟨p, _, rfl, ?_, _, _, rfl, rfl, _, _, rfl, rfl, rfl⟩⟩
     rw [ck_ hp, ad_, kw_ hb]
abbrev s_Lworth_of : Stmt := stN 40
theorem ba_ : FnScope ["_law_big_here", "_law_bottom", "_law_top"] ["_law_big_here"] (defScope s_Lworth_of) := ⟨rfl, rfl, rfl, by decide +kernel, rfl, by decide +kernel, by decide +kernel⟩
theorem ay_ : LK s_Lworth_of "_law_big_here" .local := by decide +kernel
theorem b3_ : LK s_Lworth_of "_law_bottom" .local := by decide +kernel
theorem b4_ : LK s_Lworth_of "_law_top" .local := by decide +kernel
theorem fH_ : LK s_Lworth_of "_law_low" .globalImplicit := by decide +kernel
def sp_worth : Sp := fun vs H Q _ => ∃ z : Int, vs = [.int z] ∧ ∀ (p q : Addr) H' (t b y : Int), Same H H' → H p = none → H q = none → Ws (nf t b) → H' p = some (.tup [.ref q, .int y]) → H' q = some (.tup [.int (nf t b).1, .int (nf t b).2]) → Q (.ref p) H'
theorem je_ (T : Txt K mg) (F : Fn0 K mg "_law_worth_of" s_Lworth_of) (C_Llow : Cal P w K mg base "_law_low" ["_law_top", "_law_bottom"] 1 sp_low) : Cal P w K mg base "_law_worth_of" ["_law_big_here"] 2 sp_worth := by
 refine aW_ F ba_ (fun _ _ _ _ _ _ us hl => match us, hl with | [_], _ => rfl) ?len ?body
 case len => rintro vs H Q E ⟨a, rfl, _⟩; rfl
 case body =>
  intro f cdv A outer s H vs Q E hr h
  obtain ⟨z, rfl, k⟩ := h
  refine' ⟨_, ?D, ?R⟩
  case D =>
   refine' aa_ ?g1 ?g2
   case' g1 => refine' af_ (i := 1) ba_.nd rfl b3_ ?g3
   case' g3 => refine' pe_op aM_ ac_ ?g5
   case' g5 => refine' pe_op aw_ (pv1 0 rfl ay_) ac_
   case' g2 => refine' aa_ ?g8 ?g9
   case' g8 => refine' fe_ ?g10
   case' g10 => refine' ps_if ?g11 ?g12 ar_
   case' g11 => refine' ak_ op_eq ?g14 ac_ (nomark _)
   case' g14 => refine' pe_op aw_ ?g16 ac_
   case' g16 => refine' pe_op an_ (pv1 0 rfl ay_) ac_
   case' g12 => refine' ae_ ?g20
   case' g20 => refine' af_ (i := 1) ba_.nd rfl b3_ ?g21
   case' g21 => refine' pe_op aM_ ac_ ?g23
   case' g23 => refine' pe_op aw_ ?g24 ac_
   case' g24 => refine' pe_op an_ (pv1 0 rfl ay_) ac_
   case' g9 => refine' aa_ ?g28 ?g29
   case' g28 => refine' fe_ ?g30
   case' g30 => refine' ps_if ?g31 ?g32 ar_
   case' g31 => refine' ak_ op_eq ?g34 ac_ (nomark _)
   case' g34 => refine' pe_op aw_ ?g36 ac_
   case' g36 => refine' pe_op an_ (pv1 0 rfl ay_) ac_
   case' g32 => refine' ae_ ?g40
   case' g40 => refine' af_ (i := 1) ba_.nd rfl b3_ ?g41
   case' g41 => refine' pe_op aM_ ac_ ?g43
   case' g43 => refine' pe_op aw_ ?g44 ac_
   case' g44 => refine' pe_op an_ (pv1 0 rfl ay_) ac_
   case' g29 => refine' aa_ ?g48 ?g49
   case' g48 => refine' af_ (i := 0) ba_.nd rfl ay_ ?g50
   case' g50 => refine' pe_op an_ (pv1 0 rfl ay_) ac_
   case' g49 => refine' aa_ ?g53 ?g54
   case' g53 => refine' af_ (i := 2) ba_.nd rfl b4_ ?g55
   case' g55 => refine' pe_op aM_ ac_ ?g57
   case' g57 => refine' pe_op aw_ (pv1 0 rfl ay_) ac_
   case' g54 => refine' aa_ ?g60 ?g61
   case' g60 => refine' fe_ ?g62
   case' g62 => refine' ps_if ?g63 ?g64 ar_
   case' g63 => refine' ak_ op_eq ?g66 ac_ (nomark _)
   case' g66 => refine' pe_op aw_ ?g68 ac_
   case' g68 => refine' pe_op an_ (pv1 0 rfl ay_) ac_
   case' g64 => refine' ae_ ?g72
   case' g72 => refine' af_ (i := 2) ba_.nd rfl b4_ ?g73
   case' g73 => refine' pe_op aM_ ac_ ?g75
   case' g75 => refine' pe_op aw_ ?g76 ac_
   case' g76 => refine' pe_op an_ (pv1 0 rfl ay_) ac_
   case' g61 => refine' aa_ ?g80 ?g81
   case' g80 => refine' fe_ ?g82
   case' g82 => refine' ps_if ?g83 ?g84 ar_
   case' g83 => refine' ak_ op_eq ?g86 ac_ (nomark _)
   case' g86 => refine' pe_op aw_ ?g88 ac_
   case' g88 => refine' pe_op an_ (pv1 0 rfl ay_) ac_
   case' g84 => refine' ae_ ?g92
   case' g92 => refine' af_ (i := 2) ba_.nd rfl b4_ ?g93
   case' g93 => refine' pe_op aM_ ac_ ?g95
   case' g95 => refine' pe_op aw_ ?g96 ac_
   case' g96 => refine' pe_op an_ (pv1 0 rfl ay_) ac_
   case' g81 => refine' ae_ ?g100
   case' g100 => refine' ao_ ?g101
   case' g101 => refine' aO_ ?g102
   case' g102 => refine' pa_c ?g103 ?g104
   case' g103 => refine' al_ C_Llow (hr.mono (by decide)) fH_ ?g105
   case' g105 => refine' pa_c (pv1 2 rfl b4_) ?g107
   case' g107 => refine' pa_c (pv1 1 rfl b3_) ab_
   case' g104 => refine' pa_c ?g110 ab_
   case' g110 => refine' pe_op an_ (pv1 0 rfl ay_) ac_
  case R =>
   walk_at "rd"
   refine ⟨by decide, fun σ H1 => ∃ b : Int, σ = [some (.int z), some (.int b), none] ∧ H = H1 ∧ 0 < b ∧ b ≤ 1000, ?_, ?_⟩
   ·walk_at "rd"
    refine ⟨by decide, by decide, by decide, ite2 (fun _ => ?_) (fun _ => ?_)⟩
    ·have := Int.emod_nonneg (z / 12) (show (12 : Int) ≠ 0 by decide)
     have := Int.emod_lt_of_pos (z / 12) (show (0 : Int) < 12 by decide)
     exact ⟨by decide, by decide, by decide, by omega, by omega⟩
    ·have := Int.emod_nonneg z (show (3 : Int) ≠ 0 by decide)
     have := Int.emod_lt_of_pos z (show (0 : Int) < 3 by decide)
     omega
   rintro σ H1 ⟨b, rfl, rfl, b0, b1⟩
   walk_at "rd"
   refine ⟨fun σ H1 => ∃ b : Int, σ = [some (.int z), some (.int b), none] ∧ H = H1 ∧ 0 < b ∧ b ≤ 1000, ?_, ?_⟩
   ·walk_at "rd"
    refine ⟨by decide, by decide, by decide, ite2 (fun _ => ?_) (fun _ => ⟨b0, b1⟩)⟩
    have := Int.emod_nonneg (z / 48) (show (1000 : Int) ≠ 0 by decide)
    have := Int.emod_lt_of_pos (z / 48) (show (0 : Int) < 1000 by decide)
    exact ⟨by decide, by decide, by decide, by omega, by omega⟩
   clear b0 b1 b
   rintro σ H1 ⟨b, rfl, rfl, b0, b1⟩
   walk_at "rd"
   refine ⟨by decide, by decide, by decide, ?_⟩
   generalize z / 48000 = y
   refine ⟨fun σ H1 => ∃ t : Int, σ = [some (.int y), some (.int b), some (.int t)] ∧ H = H1 ∧ 0 < t ∧ t ≤ 1000, ?_, ?_⟩
   ·walk_at "rd"
    refine ⟨by decide, by decide, by decide, ite2 (fun _ => ?_) (fun _ => ?_)⟩
    ·have := Int.emod_nonneg (y / 20) (show (12 : Int) ≠ 0 by decide)
     have := Int.emod_lt_of_pos (y / 20) (show (0 : Int) < 12 by decide)
     exact ⟨by decide, by decide, by decide, by omega, by omega⟩
    ·have := Int.emod_nonneg y (show (5 : Int) ≠ 0 by decide)
     have := Int.emod_lt_of_pos y (show (0 : Int) < 5 by decide)
     omega
   rintro σ H1 ⟨t, rfl, rfl, t0, t1⟩
   walk_at "rd"
   refine ⟨fun σ H1 => ∃ t : Int, σ = [some (.int y), some (.int b), some (.int t)] ∧ H = H1 ∧ 0 < t ∧ t ≤ 1000, ?_, ?_⟩
   ·walk_at "rd"
    refine ⟨by decide, by decide, by decide, ite2 (fun _ => ?_) (fun _ => ⟨t0, t1⟩)⟩
    have := Int.emod_nonneg (y / 80) (show (1000 : Int) ≠ 0 by decide)
    have := Int.emod_lt_of_pos (y / 80) (show (0 : Int) < 1000 by decide)
    exact ⟨by decide, by decide, by decide, by omega, by omega⟩
   clear t0 t1 t
   rintro σ H1 ⟨t, rfl, rfl, t0, t1⟩
   walk_at "rd"
   refine ⟨t, b, rfl, b0, PyProof.Rows.bits_of_natAbs_le (b := 1000) (by omega) (by decide), fun q H1 s1 r1 => ?_⟩
   walk_at "rd"
   obtain ⟨q', eq, hq⟩ := mf_ r1
   cases eq
   obtain ⟨q0, q1⟩ := aJ_ hq
   refine ⟨by decide, by decide, by decide, fun p hp => k p q _ t b (y / 80000) (s1.trans (Same.new hp)) (s1.free hp) q0 (ws_nf t0 t1 b0 b1) ad_ (Same.new hp _ _ q1)⟩
open PySem PySem.Spec PyProof.Rows L2 RimM RimT
theorem un1 {n c : Nat} (h : n + 64 < c) : n + 1 < c := by omega
structure Tg {α : Type} (lab : α → V) (H : Hp) (l : Addr) (as_ : List Addr) (T : List (List α)) : Prop where
 top : H l = some (.lst (as_.map V.ref))
 len : as_.length = T.length
 row : ∀ p a, as_[p]? = some a → H a = some (.lst ((T.getD p []).map lab))
theorem Tg.mono {α : Type} {lab : α → V} {H H' : Hp} {l : Addr} {as_ : List Addr} {T : List (List α)} (h : Tg lab H l as_ T) (s : Same H H') : Tg lab H' l as_ T := ⟨s _ _ h.top, h.len, fun p a e => s _ _ (h.row p a e)⟩
theorem Tg.at_ {α : Type} {lab : α → V} {H : Hp} {l : Addr} {as_ : List Addr} {T : List (List α)} (h : Tg lab H l as_ T) {p : Nat} (hp : p < T.length) : ∃ a, as_[p]? = some a ∧ atI (as_.map V.ref) (p : Int) = some (.ref a) ∧ H a = some (.lst ((T.getD p []).map lab)) := by
 have e : as_[p]? = some (as_[p]'(by rw [h.len]; exact hp)) := List.getElem?_eq_getElem _
 refine ⟨_, e, ?_, h.row p _ e⟩
 rw [b9_ (by omega) (by rw [Int.toNat_natCast, List.getElem?_map, e]; rfl)]
abbrev Tn := Tg (fun n : Nat => V.int n)
def cV (c : Nat × Nat) : HO := .tup [.int c.1, .int c.2]
def cK (c : Nat × Nat) : List Key := [.inl c.1, .inl c.2]
def MatesAt {α : Type} (H : Hp) (m : Addr) (T : List (List α)) : Prop := ∃ kvs, H m = some (.dT kvs) ∧ ∀ a b, Mate T a b → ∃ q, valV kvs (cK a) = some (.ref q) ∧ H q = some (cV b)
theorem MatesAt.mono {α : Type} {H H' : Hp} {m : Addr} {T : List (List α)} (h : MatesAt H m T) (s : Same H H') : MatesAt H' m T := by
 obtain ⟨kvs, e, k⟩ := h
 exact ⟨kvs, s _ _ e, fun a b hab => (k a b hab).elim fun q hq => ⟨q, hq.1, s _ _ hq.2⟩⟩
abbrev s_Lcorner_behind : Stmt := stN 43
theorem a6_ : FnScope ["_law_turns", "_law_posts", "_law_mates_here", "_law_corner", "_law_p", "_law_k", "_law_q", "_law_j"] ["_law_turns", "_law_posts", "_law_mates_here", "_law_corner"] (defScope s_Lcorner_behind) := ⟨rfl, rfl, rfl, by decide +kernel, rfl, by decide +kernel, by decide +kernel⟩
theorem cE_ : LK s_Lcorner_behind "_law_turns" .local := by decide +kernel
theorem cF_ : LK s_Lcorner_behind "_law_posts" .local := by decide +kernel
theorem eX_ : LK s_Lcorner_behind "_law_mates_here" .local := by decide +kernel
theorem eY_ : LK s_Lcorner_behind "_law_corner" .local := by decide +kernel
theorem be_ : LK s_Lcorner_behind "_law_p" .local := by decide +kernel
theorem bz_ : LK s_Lcorner_behind "_law_k" .local := by decide +kernel
theorem aX_ : LK s_Lcorner_behind "_law_q" .local := by decide +kernel
theorem bA_ : LK s_Lcorner_behind "_law_j" .local := by decide +kernel
theorem cb_ : LK s_Lcorner_behind "len" .globalImplicit := by decide +kernel
def sp_behind : Sp := fun vs H Q _ => ∃ (α : Type) (_ : DecidableEq α) (lab : α → V) (l m c : Addr) (as_ : List Addr) (T : List (List α)) (P : Nat) (e : Nat × Nat), vs = [.ref l, .int P, .ref m, .ref c] ∧ Tg lab H l as_ T ∧ MatesAt H m T ∧ Tw T ∧ 0 < P ∧ H c = some (cV e) ∧ IsC T P e ∧
 ∀ q H' d, Same H H' → H q = none → H' q = some (cV d) → Nx T P e d → Q (.ref q) H'
theorem fI_ (T : Txt K mg) (F : Fn0 K mg "_law_corner_behind" s_Lcorner_behind) : Cal P w K mg base "_law_corner_behind" ["_law_turns", "_law_posts", "_law_mates_here", "_law_corner"] 1 sp_behind := by
 refine aW_ F a6_ (fun _ _ _ _ _ _ us hl => match us, hl with | [_, _, _, _], _ => rfl) ?len ?body
 case len => rintro vs H Q E ⟨_, _, _, l, m, c, as_, T, P, e, rfl, _⟩; rfl
 case body =>
  intro f cdv A outer s H vs Q E hr h
  obtain ⟨α, dec, lab, l, m, c, as_, Tt, Pp, e, rfl, hT, hm, tw, P0, hc, ic, k⟩ := h
  refine' ⟨_, ?D, ?R⟩
  case D =>
   refine' aa_ ?g1 ?g2
   case' g1 => refine' fd_ (pv1 3 rfl eY_) ?g4
   case' g4 => refine' bS_ (K := K) (n := 2) rfl rfl ?g5
   case' g5 => refine' aB_ ?g6 ?g7
   case g6 => exact aj_ (i := 4) a6_.nd rfl be_
   case' g7 => refine' aB_ ?g8 bQ_
   case g8 => exact aj_ (i := 5) a6_.nd rfl bz_
   case' g2 => refine' aa_ ?g10 ?g11
   case' g10 => refine' ps_if ?g12 ?g13 ar_
   case' g12 => refine' ak_ op_eq (pv1 5 rfl bz_) ?g16 (nomark _)
   case' g16 => refine' ah_ ap_ cb_ T.n_len aG_ ?g17
   case' g17 => refine' pa_c ?g18 ab_
   case' g18 => refine' pe_ix am_ (pv1 0 rfl cE_) (pv1 4 rfl be_) (fun _ _ => rfl)
   case' g13 => refine' ae_ ?g22
   case' g22 => refine' ao_ ?g23
   case' g23 => refine' aO_ ?g24
   case' g24 => refine' pa_c ?g25 ?g26
   case' g25 => refine' pe_op aw_ ?g27 (pv1 1 rfl cF_)
   case' g27 => refine' pe_op nt_ (pv1 4 rfl be_) ac_
   case' g26 => refine' pa_c ac_ ab_
   case' g11 => refine' aa_ ?g33 ?g34
   case' g33 => refine' fd_ ?g35 ?g36
   case' g35 => refine' jE_ (un1 hr.units) (pv1 2 rfl eX_) ?g38 (fun _ _ => rfl)
   case' g38 => refine' aO_ ?g39
   case' g39 => refine' pa_c (pv1 4 rfl be_) ?g41
   case' g41 => refine' pa_c (pv1 5 rfl bz_) ab_
   case' g36 => refine' bS_ (K := K) (n := 2) rfl rfl ?g44
   case' g44 => refine' aB_ ?g45 ?g46
   case g45 => exact aj_ (i := 6) a6_.nd rfl aX_
   case' g46 => refine' aB_ ?g47 bQ_
   case g47 => exact aj_ (i := 7) a6_.nd rfl bA_
   case' g34 => refine' aa_ ?g49 ?g50
   case' g49 => refine' ps_if ?g51 ?g52 ar_
   case' g51 => refine' ak_ op_lt (pv1 6 rfl aX_) (pv1 1 rfl cF_) (nomark _)
   case' g52 => refine' ae_ ?g56
   case' g56 => refine' ao_ ?g57
   case' g57 => refine' aO_ ?g58
   case' g58 => refine' pa_c (pv1 6 rfl aX_) ?g60
   case' g60 => refine' pa_c ?g61 ab_
   case' g61 => refine' pe_op aM_ (pv1 7 rfl bA_) ac_
   case' g50 => refine' ae_ ?g65
   case' g65 => refine' ao_ ?g66
   case' g66 => refine' aO_ ?g67
   case' g67 => refine' pa_c (pv1 6 rfl aX_) ?g69
   case' g69 => refine' pa_c ?g70 ab_
   case' g70 => refine' pe_op aw_ ?g72 ?g73
   case' g72 => refine' pe_op aM_ (pv1 7 rfl bA_) ac_
   case' g73 => refine' ah_ ap_ cb_ T.n_len aG_ ?g76
   case' g76 => refine' pa_c ?g77 ab_
   case' g77 => refine' pe_ix am_ (pv1 0 rfl cE_) (pv1 6 rfl aX_) (fun _ _ => rfl)
  case R =>
   walk_at "rd"
   obtain ⟨a, ea, at0, ra⟩ := hT.at_ ic.1
   refine ⟨_, SqT.of hc, rfl, _, _, rfl, _, _, rfl, rfl, _, _, rfl, hT.top, _, at0, _, rfl, _, .inl ra, ?_⟩
   walk_at "rd"
   rw [List.length_map]
   refine ite2 (fun he => ?_) (fun he => ?_)
   ·have hz : ((e.1 : Int) - 1) % (Pp : Int) = (((e.1 + Pp - 1) % Pp : Nat) : Int) := by
     rw [Int.natCast_emod, show ((e.1 + Pp - 1 : Nat) : Int) = (e.1 : Int) - 1 + Pp by omega]
     simp
    have he' : e.2 = rl Tt e.1 := by unfold rl; omega
    refine ⟨by omega, by decide, fun p hp => k p _ ((e.1 + Pp - 1) % Pp, 0) (Same.new hp) hp ?_ (.inl ⟨he', rfl⟩)⟩
    rw [ad_, hz]
    rfl
   ·have hlt : e.2 < rl Tt e.1 := by
     have := ic.2
     unfold rl at this ⊢
     split at this <;> omega
    obtain ⟨ww, hw⟩ := od_ hlt
    obtain ⟨b, hb⟩ := oc_ tw hw
    obtain ⟨kvs, hkv, hall⟩ := hm
    obtain ⟨q, vq, hq⟩ := hall e b hb
    refine ⟨by decide, fun p hp => ?_⟩
    have s1 : Same H (upd H p (.tup [.int e.1, .int e.2])) := Same.new hp
    generalize e1 : upd H p (.tup [.int e.1, .int e.2]) = H1 at s1 ⊢
    have hp1 : H1 p = some (cV e) := e1 ▸ ad_
    have g : DGet H1 m (.ref p) (some (.ref q)) := vq ▸ DGet.t (k := cK e) (s1 _ _ hkv) hp1
    have hT1 := hT.mono s1
    have hbl := wi_lt hb.2.choose_spec.2
    refine ⟨_, g, _, rfl, _, SqT.of (s1 _ _ hq), rfl, _, _, rfl, _, _, rfl, rfl, _, rfl, ?_⟩
    refine ite2 (fun hlp => ?_) (fun hlp => ?_)
    ·refine ⟨_, rfl, by decide, fun r hr => k r _ (b.1, b.2 + 1) (s1.trans (Same.new hr)) (s1.free hr) ?_ (.inr ⟨hlt, b, hb, ?_⟩)⟩
     ·rw [ad_]
      rfl
     ·rw [if_pos (by omega)]
    ·obtain ⟨a2, ea2, at2, ra2⟩ := hT1.at_ hbl.2
     have hl2 : (0 : Int) < (rl Tt b.1 : Nat) := by omega
     refine ⟨_, rfl, _, _, rfl, hT1.top, _, at2, _, rfl, _, .inl ra2, ?_⟩
     rw [List.length_map]
     refine ⟨hl2, by decide, fun r hr => k r _ (b.1, (b.2 + 1) % rl Tt b.1) (s1.trans (Same.new hr)) (s1.free hr) ?_ (.inr ⟨hlt, b, hb, ?_⟩)⟩
     ·rw [ad_]
      show some (HO.tup [V.int b.1, V.int (((b.2 : Int) + 1) % (rl Tt b.1 : Nat))]) = some (HO.tup [V.int b.1, V.int (((b.2 + 1) % rl Tt b.1 : Nat) : Int)])
      rw [Int.natCast_emod, Int.natCast_add]
      rfl
     ·rw [if_neg (by omega)]
def Cs (H : Hp) : List Addr → List (Nat × Nat) → Prop
 | [], [] => True
 | x :: xs, c :: cs => H x = some (cV c) ∧ Cs H xs cs
 | _, _ => False
theorem Cs.mono {H H' : Hp} (s : Same H H') : ∀ {xs : List Addr} {cs : List (Nat × Nat)}, Cs H xs cs → Cs H' xs cs
 | [], [], _ => trivial
 | x :: xs, c :: cs, h => ⟨s _ _ h.1, Cs.mono s h.2⟩
theorem Cs.len {H : Hp} : ∀ {xs : List Addr} {cs : List (Nat × Nat)}, Cs H xs cs → xs.length = cs.length
 | [], [], _ => rfl
 | x :: xs, c :: cs, h => by rw [List.length_cons, List.length_cons, Cs.len h.2]
theorem Cs.snoc {H : Hp} {y : Addr} {d : Nat × Nat} (hy : H y = some (cV d)) : ∀ {xs : List Addr} {cs : List (Nat × Nat)}, Cs H xs cs → Cs H (xs ++ [y]) (cs ++ [d])
 | [], [], _ => ⟨hy, trivial⟩
 | x :: xs, c :: cs, h => ⟨h.1, Cs.snoc hy h.2⟩
theorem Cs.get {H : Hp} : ∀ {xs : List Addr} {cs : List (Nat × Nat)} {i : Nat} {d : Nat × Nat}, Cs H xs cs → cs[i]? = some d → ∃ x, xs[i]? = some x ∧ H x = some (cV d)
 | [], [], i, d, h, e => by cases e
 | [], _ :: _, _, _, h, _ => h.elim
 | _ :: _, [], _, _, h, _ => h.elim
 | x :: xs, c :: cs, 0, d, h, e => by cases e; exact ⟨x, rfl, h.1⟩
 | x :: xs, c :: cs, i + 1, d, h, e => Cs.get (i := i) h.2 e
def dC (c : Nat × Nat) : Dt := .tup [.int c.1, .int c.2]
theorem mg_ {H : Hp} {x : Addr} {c : Nat × Nat} (h : H x = some (cV c)) : Rep H (.ref x) (dC c) := ⟨x, _, rfl, h, _, _, rfl, rfl, _, _, rfl, rfl, rfl⟩
theorem o9_ (a b : Nat × Nat) : deq (dC a) (dC b) = some (decide (a = b)) := by
 by_cases h1 : (a.1 : Int) = b.1 <;> by_cases h2 : (a.2 : Int) = b.2
 ·have e : a = b := Prod.ext (by omega) (by omega)
  subst e
  simp [dC, deq, deqs]
 ·have e : a ≠ b := fun z => h2 (by rw [z])
  simp [dC, deq, deqs, h1, h2, e]
 ·have e : a ≠ b := fun z => h1 (by rw [z])
  simp [dC, deq, deqs, h1, h2, e]
 ·have e : a ≠ b := fun z => h1 (by rw [z])
  simp [dC, deq, deqs, h1, h2, e]
abbrev s_Lregion : Stmt := stN 44
theorem eC_ : FnScope ["_law_turns", "_law_posts", "_law_mates_here", "_law_corner", "_law_found", "_law_here"] ["_law_turns", "_law_posts", "_law_mates_here", "_law_corner"] (defScope s_Lregion) := ⟨rfl, rfl, rfl, by decide +kernel, rfl, by decide +kernel, by decide +kernel⟩
theorem f2_ : LK s_Lregion "_law_turns" .local := by decide +kernel
theorem f3_ : LK s_Lregion "_law_posts" .local := by decide +kernel
theorem f4_ : LK s_Lregion "_law_mates_here" .local := by decide +kernel
theorem eg_ : LK s_Lregion "_law_corner" .local := by decide +kernel
theorem eh_ : LK s_Lregion "_law_found" .local := by decide +kernel
theorem cc_ : LK s_Lregion "_law_here" .local := by decide +kernel
theorem bv_ : LK s_Lregion "_law_corner_behind" .globalImplicit := by decide +kernel
def sp_region : Sp := fun vs H Q _ => ∃ (α : Type) (_ : DecidableEq α) (lab : α → V) (l m c : Addr) (as_ : List Addr) (T : List (List α)) (P : Nat) (e : Nat × Nat), vs = [.ref l, .int P, .ref m, .ref c] ∧ Tg lab H l as_ T ∧ MatesAt H m T ∧ Tw T ∧ 0 < P ∧ P ≤ T.length ∧ H c = some (cV e) ∧ IsC T P e ∧ (corners T P).length ≤ 900 ∧
 ∀ R H' xs cs, Same H H' → H R = none → H' R = some (.lst (xs.map V.ref)) → Cs H' xs cs → cs ≠ [] → cs.length ≤ (corners T P).length → (∀ d ∈ cs, IsC T P d) → Way T P cs e → cs.head? = some e → cs.Nodup → Q (.ref R) H'
theorem lb_ (T : Txt K mg) (F : Fn0 K mg "_law_region" s_Lregion) (C_Lcorner_behind : Cal P w K mg base "_law_corner_behind" ["_law_turns", "_law_posts", "_law_mates_here", "_law_corner"] 1 sp_behind) : Cal P w K mg base "_law_region" ["_law_turns", "_law_posts", "_law_mates_here", "_law_corner"] 2 sp_region := by
 refine aW_ F eC_ (fun _ _ _ _ _ _ us hl => match us, hl with | [_, _, _, _], _ => rfl) ?len ?body
 case len => rintro vs H Q E ⟨_, _, _, l, m, c, as_, T, P, e, rfl, _⟩; rfl
 case body =>
  intro f cdv A outer s H vs Q E hr h
  obtain ⟨α, dec, lab, l, m, c, as_, Tt, Pp, e, rfl, hT, hm, tw, P0, PT, hc, ic, c9, k⟩ := h
  refine' ⟨_, ?D, ?R⟩
  case D =>
   refine' aa_ ?g1 ?g2
   case' g1 => refine' af_ (i := 4) eC_.nd rfl eh_ ?g3
   case' g3 => refine' bh_ ?g4
   case' g4 => refine' pa_c (pv1 3 rfl eg_) ab_
   case' g2 => refine' aa_ ?g7 ?g8
   case' g7 => refine' af_ (i := 5) eC_.nd rfl cc_ ?g9
   case' g9 => refine' al_ C_Lcorner_behind (hr.mono (by decide)) bv_ ?g10
   case' g10 => refine' pa_c (pv1 0 rfl f2_) ?g12
   case' g12 => refine' pa_c (pv1 1 rfl f3_) ?g14
   case' g14 => refine' pa_c (pv1 2 rfl f4_) ?g16
   case' g16 => refine' pa_c (pv1 3 rfl eg_) ab_
   case' g8 => refine' aa_ ?g19 ?g20
   case' g19 => refine' ew_ PassesOwn.never ?g21 ?g22
   case' g21 => refine' ak_ (gR_ (hr.units)) (pv1 5 rfl cc_) (pv1 3 rfl eg_) (nomark _)
   case' g22 => refine' aa_ ?g25 ?g26
   case' g25 => refine' aZ_ ?g27
   case' g27 => refine' pe_bm PySem.F.plainAttrs_list PySem.F.slot_list_append PySem.F.type_list_append bi_ (pv1 4 rfl eh_) ?g29
   case' g29 => refine' pa_c (pv1 5 rfl cc_) ab_
   case' g26 => refine' ae_ ?g32
   case' g32 => refine' af_ (i := 5) eC_.nd rfl cc_ ?g33
   case' g33 => refine' al_ C_Lcorner_behind (hr.mono (by decide)) bv_ ?g34
   case' g34 => refine' pa_c (pv1 0 rfl f2_) ?g36
   case' g36 => refine' pa_c (pv1 1 rfl f3_) ?g38
   case' g38 => refine' pa_c (pv1 2 rfl f4_) ?g40
   case' g40 => refine' pa_c (pv1 5 rfl cc_) ab_
   case' g20 => refine' ae_ ?g43
   case' g43 => refine' ao_ (pv1 4 rfl eh_)
  case R =>
   walk_at "rd"
   refine ⟨by decide, fun R hR => ?_⟩
   have s0 : Same H (upd H R (.lst [.ref c])) := Same.new hR
   refine ⟨_, _, _, l, m, c, as_, Tt, Pp, e, rfl, hT.mono s0, hm.mono s0, tw, P0, s0 _ _ hc, ic, fun q H1 d s1 hq hd nx => ?_⟩
   walk_at "rd"
   refine fD_ (fun σ H' => ∃ (S : Hp) (xs : List Addr) (cs : List (Nat × Nat)) (h : Addr) (d : Nat × Nat), σ = [some (.ref l), some (.int Pp), some (.ref m), some (.ref c), some (.ref R), some (.ref h)] ∧ Same H S ∧ S R = none ∧ Same S H' ∧ H' R = some (.lst (xs.map V.ref)) ∧ Cs S xs cs ∧ S h = some (cV d) ∧ Way Tt Pp cs d ∧ cs.head? = some e ∧ cs.Nodup)
    (fun σ H' => match H' R with | some (.lst xs) => (corners Tt Pp).length + 1 - xs.length | _ => 0) ?_ ?_
   ·have h0R : upd H R (.lst [.ref c]) R = some (.lst [.ref c]) := ad_
    exact ⟨grow H (upd H R (.lst [.ref c])) H1, [c], [e], q, d, rfl, bq_ s0, by rw [bn_ h0R]; exact hR, ec_ s0 s1, s1 _ _ h0R, ⟨bq_ s0 _ _ hc, trivial⟩, by rw [cl_ hq]; exact hd, .one nx, rfl, by simp⟩
   ·rintro σ H' ⟨S, xs, cs, h, d, rfl, hS, SR, SH, hxs, hcs, hh, wy, hd0, nd⟩
    walk_at "rd"
    have wl := og_ tw P0 PT wy hd0 ic nd
    have wa := h8_ tw P0 PT wy hd0 ic
    have xl := hcs.len
    refine ⟨_, mg_ (SH _ _ hh), _, mg_ (SH _ _ (hS _ _ hc)), _, o9_ d e, by simp [dC, dep, deps], ?_⟩
    by_cases hde : d = e
    ·rw [if_neg (by simp [hde])]
     exact k R H' xs cs (hS.trans SH) hR hxs (hcs.mono SH) (kz_ wy) wl wa.2.1 (hde ▸ wy) hd0 nd
    ·rw [if_pos (by simp [hde])]
     refine ⟨_, N_ok, ?_⟩
     walk_at "rd"
     have sz : (xs.map V.ref).length < sizeLine := by
      have := small1000 (show xs.length + 1 ≤ 1000 by omega)
      rw [List.length_map]
      omega
     have dn := of_ tw P0 PT wy hd0 ic nd hde
     refine ⟨.inl ⟨_, SqL.of hxs⟩, _, hxs, sz, ?_⟩
     have SH2 : Same S (upd H' R (.lst (xs.map V.ref ++ [.ref h]))) := b2_ SH SR
     have e2 : upd H' R (.lst (xs.map V.ref ++ [.ref h])) R = some (.lst (xs.map V.ref ++ [.ref h])) := ad_
     generalize upd H' R (.lst (xs.map V.ref ++ [.ref h])) = H2 at SH2 e2 ⊢
     refine ⟨_, _, _, l, m, h, as_, Tt, Pp, d, rfl, (hT.mono hS).mono SH2, (hm.mono hS).mono SH2, tw, P0, SH2 _ _ hh, wa.1, fun q2 H3 d2 s3 hq2 hd2 nx2 => ⟨⟨grow S H2 H3, xs ++ [h], cs ++ [d], q2, rfl, hS.trans (bq_ SH2), ?_, ec_ SH2 s3, ?_, ?_, d2, ?_, .more wy nx2, ?_, ?_⟩, ?_⟩⟩
     ·rw [bn_ e2]; exact SR
     ·rw [List.map_append]; exact s3 _ _ e2
     ·exact Cs.snoc (bq_ SH2 _ _ hh) (hcs.mono (bq_ SH2))
     ·rw [cl_ hq2]; exact hd2
     ·cases cs with
      | nil => exact absurd rfl (kz_ wy)
      | cons a b => exact hd0
     ·rw [List.nodup_append]
      refine ⟨nd, by simp, fun a ha b hb ab => ?_⟩
      rw [List.mem_singleton.mp hb] at ab
      exact dn (ab ▸ ha)
     ·rw [s3 _ _ e2, hxs]
      simp only [List.length_append, List.length_map, List.length_singleton]
      omega
def cornersTo (T : List (List Nat)) (P n : Nat) : List (Nat × Nat) := (List.range n).flatMap fun p => (List.range (rl T p + (if p < P then 1 else 0))).map fun k => (p, k)
theorem dc_ (T : List (List Nat)) (P n : Nat) : cornersTo T P (n + 1) = cornersTo T P n ++ (List.range (rl T n + (if n < P then 1 else 0))).map fun k => (n, k) := by
 unfold cornersTo
 rw [List.range_succ, List.flatMap_append]
 simp
theorem f5_ (T : List (List Nat)) (P : Nat) {n : Nat} : ∀ {m : Nat}, n ≤ m → (cornersTo T P n).length ≤ (cornersTo T P m).length
 | 0, h => by rw [Nat.le_zero.mp h]; exact Nat.le_refl _
 | m + 1, h => by
  by_cases e : n = m + 1
  ·rw [e]; exact Nat.le_refl _
  ·have := f5_ T P (n := n) (m := m) (by omega)
   rw [dc_, List.length_append]
   omega
theorem nJ_ {H : Hp} : ∀ {vs : List V} {cs : List (Nat × Nat)}, Reps H vs (cs.map dC) → ∃ xs : List Addr, vs = xs.map V.ref ∧ Cs H xs cs
 | [], [], _ => ⟨[], rfl, trivial⟩
 | v :: vs, c :: cs, h => by
  obtain ⟨x, r, e, hx, hr⟩ := h
  cases e
  obtain ⟨q, ys, e1, hq, a, b, e2, ha, a2, b2, e3, ha2, e4⟩ := hx
  cases ha
  cases ha2
  subst e1 e2 e3 e4
  obtain ⟨xs, e5, hc⟩ := nJ_ hr
  exact ⟨q :: xs, by rw [e5]; rfl, hq, hc⟩
 | [], _ :: _, h => by obtain ⟨x, r, e, _⟩ := h; cases e
 | _ :: _, [], h => by cases h
abbrev s_Lcorners : Stmt := stN 42
theorem dE_ : FnScope ["_law_turns", "_law_posts", "_law_found", "_law_p"] ["_law_turns", "_law_posts"] (defScope s_Lcorners) := ⟨rfl, rfl, rfl, by decide +kernel, rfl, by decide +kernel, by decide +kernel⟩
theorem fk_ : LK s_Lcorners "_law_turns" .local := by decide +kernel
theorem ie_ : LK s_Lcorners "_law_posts" .local := by decide +kernel
theorem cs_ : LK s_Lcorners "_law_found" .local := by decide +kernel
theorem dF_ : LK s_Lcorners "_law_p" .cell := by decide +kernel
theorem hb_ : LK s_Lcorners "int" .globalImplicit := by decide +kernel
theorem ei_ : LK s_Lcorners "len" .globalImplicit := by decide +kernel
theorem dl_ : LK s_Lcorners "range" .globalImplicit := by decide +kernel
def sp_corners : Sp := fun vs H Q _ => ∃ (l : Addr) (as_ : List Addr) (T : List (List Nat)) (P : Nat), vs = [.ref l, .int P] ∧ Tn H l as_ T ∧ T.length ≤ 16 ∧ (corners T P).length ≤ 900 ∧
 ∀ R H', Same H H' → Rep (newH H H') (.ref R) (.lst ((corners T P).map dC)) → Q (.ref R) H'
theorem jV_ (T : Txt K mg) (F : Fn0 K mg "_law_corners" s_Lcorners) : Cal P w K mg base "_law_corners" ["_law_turns", "_law_posts"] 1 sp_corners := by
 refine aW_ F dE_ (fun _ _ _ _ _ _ us hl => match us, hl with | [_, _], _ => rfl) ?len ?body
 case len => rintro vs H Q E ⟨l, as_, T, P, rfl, _⟩; rfl
 case body =>
  intro f cdv A outer s H vs Q E hr h
  obtain ⟨l, as_, Tt, Pp, rfl, hT, t16, c9, k⟩ := h
  refine' ⟨_, ?D, ?R⟩
  case D =>
   refine' aa_ ?g1 ?g2
   case' g1 => refine' af_ (i := 2) dE_.nd rfl cs_ ?g3
   case' g3 => refine' bh_ ab_
   case' g2 => refine' aa_ ?g5 ?g6
   case' g5 => refine' cB_ PassesOwn.never rfl ?g7 ?g8 ?g9
   case' g7 => refine' bg_ dl_ T.n_range ?g10
   case' g10 => refine' pa_c ?g11 ab_
   case' g11 => refine' ah_ ap_ ei_ T.n_len aG_ ?g13
   case' g13 => refine' pa_c (pv1 0 rfl fk_) ab_
   case g8 => exact h0_ (i := 3) dE_.nd rfl dF_ rfl
   case' g9 => refine' ae_ ?g16
   case' g16 => refine' af_ (i := 2) dE_.nd rfl cs_ ?g17
   case' g17 => refine' pe_op gK_ (pv1 2 rfl cs_) ?g19
   case' g19 => refine' cC_ (N' := ["_law_k", "_law_p"]) (ix := [none, some 3]) rfl rfl (bN_ ?g20) ?g21 (fun _ _ _ => ?g22) (fun _ _ _ => ?g23) (fun _ _ _ => ?g24)
   case g20 => exact (by show scpB (defScope s_Lcorners) ["_law_turns", "_law_posts", "_law_found", "_law_p"] _ _ _ = true; decide +kernel)
   case' g21 => refine' bg_ dl_ T.n_range ?g25
   case' g25 => refine' pa_c ?g26 ab_
   case' g26 => refine' pe_op aM_ ?g28 ?g29
   case' g28 => refine' ah_ ap_ ei_ T.n_len aG_ ?g30
   case' g30 => refine' pa_c ?g31 ab_
   case' g31 => refine' pe_ix am_ (pv1 0 rfl fk_) (pvc 3 rfl dF_) (fun _ _ => rfl)
   case' g29 => refine' dA_ iF_ hb_ T.n_int hJ_ ?g35
   case' g35 => refine' pa_c ?g36 ab_
   case' g36 => refine' c9_ op_lt (pvc 3 rfl dF_) (pv1 1 rfl ie_) (nomark _)
   case g22 => exact aj_ (i := 0) (by show List.Nodup (["_law_k", "_law_p"] : List Str); decide +kernel) rfl rfl
   case g23 => exact c0_
   case' g24 => refine' aO_ ?g40
   case' g40 => refine' pa_c (pvc 1 rfl rfl) ?g42
   case' g42 => refine' pa_c (pv1 0 rfl rfl) ab_
   case' g6 => refine' ae_ ?g45
   case' g45 => refine' ao_ (pv1 2 rfl cs_)
  case R =>
   walk_at "rd"
   refine ⟨by decide, fun R hR => ?_⟩
   have s0 : Same H (upd H R (.lst [])) := Same.new hR
   refine ⟨_, .inl (s0 _ _ hT.top), ?_⟩
   rw [List.length_map, hT.len]
   refine ⟨by omega, by omega, ?_⟩
   rw [Int.toNat_natCast]
   refine cr_ (fun i σ H' => ∃ (R : Addr) (e : Option V), σ = [some (.ref l), some (.int Pp), some (.ref R), e] ∧ Same H H' ∧ Rep (newH H H') (.ref R) (.lst ((cornersTo Tt Pp i).map dC))) ?_ ?_ ?_
   ·refine ⟨R, none, rfl, s0, R, [], rfl, ?_, rfl⟩
    rw [ck_ hR, ad_]
   ·rintro i σ H' hi ⟨R, e, rfl, sH, rep⟩
    walk_at "rd"
    have hT' := hT.mono sH
    obtain ⟨a, ea, at0, ra⟩ := hT'.at_ hi
    rw [Int.zero_add]
    refine ⟨_, hT'.top, _, at0, _, rfl, _, .inl ra, ?_⟩
    right
    have eN : (((Tt.getD i []).map fun n : Nat => V.int n).length : Int) + (if (i : Int) < (Pp : Int) then 1 else 0) = ((rl Tt i + (if i < Pp then 1 else 0) : Nat) : Int) := by
     rw [List.length_map]
     unfold rl
     by_cases z : i < Pp
     ·rw [if_pos (by omega), if_pos z]; omega
     ·rw [if_neg (by omega), if_neg z]; omega
    rw [eN]
    have c1 := f5_ Tt Pp (n := i + 1) (m := Tt.length) hi
    have c2 : (cornersTo Tt Pp Tt.length).length ≤ 900 := c9
    rw [dc_, List.length_append, List.length_map, List.length_range] at c1
    clear eN
    generalize hN : rl Tt i + (if i < Pp then 1 else 0) = N at c1 ⊢
    refine ⟨by omega, by omega, ?_⟩
    obtain ⟨R', vs, eR, hR', reps⟩ := rep
    cases eR
    obtain ⟨nR, hR1⟩ := aJ_ hR'
    have lv := reps.length
    rw [List.length_map] at lv
    refine b1_ (n := N) (B := H) (Pσ := fun σ => ∃ e, σ = [e, some (.int i)]) (ds := ((List.range N).map fun k => (i, k)).map dC) sH ⟨none, rfl⟩ (by simp) (by omega) (fun j H2 hj s2 => by show j < Int.toNat _; omega) (fun H2 s2 => by show Int.toNat _ ≤ _; omega) ?_ ?_
    ·rintro D j z d σ' H2 H2' hD hDo hs2 hj hdj ⟨rfl, rfl⟩ ⟨e2, rfl⟩ R2 kR
     walk_at "rd"
     refine ⟨by decide, fun p hp => kR _ _ _ ⟨_, rfl⟩ (Same.new hp) ?_⟩
     have : d = dC (i, j) := by
      rw [List.map_map, List.getElem?_map, List.getElem?_range hj] at hdj
      exact (Option.some.inj hdj).symm
     rw [this]
     refine mg_ ?_
     obtain ⟨oD, hoD⟩ := hDo
     rw [eb_ (fun z => by rw [z, hoD] at hp; cases hp) ((sH.trans hs2).free hp), ad_]
     show some (HO.tup [V.int i, V.int (0 + (j : Int))]) = some (HO.tup [V.int i, V.int j])
     rw [Int.zero_add]
    ·intro D H2 hD s2 rep2
     obtain ⟨D', ws, eD, hD', reps2⟩ := rep2
     cases eD
     obtain ⟨nD, hD1⟩ := aJ_ hD'
     have lw := reps2.length
     rw [List.length_map, List.length_map, List.length_range] at lw
     refine ⟨_, rfl, _, s2 _ _ hR1, _, hD1, Nat.le_of_lt (small1000 (show vs.length + ws.length ≤ 1000 by rw [lv, lw]; omega)), fun p hp => ⟨(sH.trans s2).trans (Same.new hp), p, vs ++ ws, rfl, ?_, ?_⟩⟩
     ·rw [ck_ ((sH.trans s2).free hp), ad_]
     ·rw [dc_, hN, List.map_append]
      exact (Reps.mono (gU_ (s2.trans (Same.new hp))) _ reps).append (Reps.mono (gU_ (Same.new hp)) _ reps2)
   ·rintro σ H' ⟨R, e, rfl, sH, rep⟩
    walk_at "rd"
    exact k R H' sH rep
def Dn (p k : Nat) (e : Nat × Nat) : Prop := e.1 < p ∨ (e.1 = p ∧ e.2 < k)
theorem nK_ {a b : Nat × Nat} (h : cK a = cK b) : a = b := by
 unfold cK at h
 injection h with h1 h2
 injection h2 with h2 _
 injection h1 with h1
 injection h2 with h2
 exact Prod.ext (by omega) (by omega)
structure Mi {α : Type} (ky : α → Key) (T : List (List α)) (S : Hp) (D : Nat × Nat → Prop) (k1 : List (Key × V)) (k2 : List (List Key × V)) : Prop where
 fi : ∀ w : α, (∃ c q, D c ∧ wi T c = some w ∧ valV k1 (ky w) = some (.ref q) ∧ S q = some (cV c)) ∨ ((∀ c, D c → wi T c ≠ some w) ∧ valV k1 (ky w) = none)
 ma : ∀ a b, Mate T a b → D a → D b → ∃ q, valV k2 (cK a) = some (.ref q) ∧ S q = some (cV b)
theorem Mi.mono {α : Type} {ky : α → Key} {T : List (List α)} {S S' : Hp} {D : Nat × Nat → Prop} {k1 : List (Key × V)} {k2 : List (List Key × V)} (h : Mi ky T S D k1 k2) (s : Same S S') : Mi ky T S' D k1 k2 :=
 ⟨fun w => (h.fi w).imp (fun ⟨c, q, a, b, d, e⟩ => ⟨c, q, a, b, d, s _ _ e⟩) id, fun a b m x y => (h.ma a b m x y).elim fun q z => ⟨q, z.1, s _ _ z.2⟩⟩
theorem Mi.imp {α : Type} {ky : α → Key} {T : List (List α)} {S : Hp} {D D' : Nat × Nat → Prop} {k1 : List (Key × V)} {k2 : List (List Key × V)} (h : Mi ky T S D k1 k2) (i : ∀ c w, wi T c = some w → (D c ↔ D' c)) : Mi ky T S D' k1 k2 :=
 ⟨fun w => (h.fi w).imp (fun ⟨c, q, a, b, d, e⟩ => ⟨c, q, (i c _ b).mp a, b, d, e⟩) (fun ⟨a, b⟩ => ⟨fun c x y => a c ((i c _ y).mpr x) y, b⟩), fun a b m x y => by
  obtain ⟨_, w, wa, wb⟩ := id m
  exact h.ma a b m ((i a _ wa).mpr x) ((i b _ wb).mpr y)⟩
theorem Mi.new {α : Type} [DecidableEq α] {ky : α → Key} {T : List (List α)} {S : Hp} {D : Nat × Nat → Prop} {k1 : List (Key × V)} {k2 : List (List Key × V)} (h : Mi ky T S D k1 k2) {c0 : Nat × Nat} {w : α} {q0 : Addr} (inj : ∀ a b, ky a = ky b → a = b) (hw : wi T c0 = some w) (hn : valV k1 (ky w) = none) (h0 : S q0 = some (cV c0)) :
  Mi ky T S (fun c => D c ∨ c = c0) (putK k1 (ky w) (.ref q0)) k2 := by
 have no : ∀ c, D c → wi T c ≠ some w := by
  rcases h.fi w with ⟨c, q, _, _, e, _⟩ | ⟨a, _⟩
  ·rw [hn] at e; cases e
  ·exact a
 refine ⟨fun w' => ?_, fun a b m x y => ?_⟩
 ·rw [h6_]
  by_cases e : w' = w
  ·subst e
   exact .inl ⟨c0, q0, .inr rfl, hw, by rw [if_pos rfl], h0⟩
  ·rw [if_neg (fun z => e (inj _ _ z))]
   rcases h.fi w' with ⟨c, q, a, b, d, f⟩ | ⟨a, b⟩
   ·exact .inl ⟨c, q, .inl a, b, d, f⟩
   ·refine .inr ⟨fun c hc hcw => ?_, b⟩
    rcases hc with hc | hc
    ·exact a c hc hcw
    ·rw [hc, hw] at hcw; cases hcw; exact e rfl
 ·obtain ⟨ne, w', wa, wb⟩ := id m
  rcases x with x | x <;> rcases y with y | y
  ·exact h.ma a b m x y
  ·rw [y, hw] at wb; cases wb; exact absurd wa (no a x)
  ·rw [x, hw] at wa; cases wa; exact absurd wb (no b y)
  ·exact absurd (x.trans y.symm) ne
theorem Mi.old {α : Type} [DecidableEq α] {ky : α → Key} {T : List (List α)} {S : Hp} {D : Nat × Nat → Prop} {k1 : List (Key × V)} {k2 : List (List Key × V)} (tw : Tw T) (h : Mi ky T S D k1 k2) {c0 c : Nat × Nat} {w : α} {q q0 : Addr} (hw : wi T c0 = some w) (hD : ¬ D c0) (hc : D c) (hcw : wi T c = some w) (hq : S q = some (cV c)) (h0 : S q0 = some (cV c0)) :
  Mi ky T S (fun c => D c ∨ c = c0) k1 (putK (putK k2 (cK c0) (.ref q)) (cK c) (.ref q0)) := by
 have ne : c ≠ c0 := fun z => hD (z ▸ hc)
 have m0 : Mate T c c0 := ⟨ne, w, hcw, hw⟩
 refine ⟨fun w' => ?_, fun a b m x y => ?_⟩
 ·rcases h.fi w' with ⟨c, q, a, b, d, f⟩ | ⟨a, b⟩
  ·exact .inl ⟨c, q, .inl a, b, d, f⟩
  ·refine .inr ⟨fun c' hc' hcw' => ?_, b⟩
   rcases hc' with hc' | hc'
   ·exact a c' hc' hcw'
   ·rw [hc', hw] at hcw'; cases hcw'; exact a c hc hcw
 ·rw [h6_, h6_]
  by_cases e1 : a = c
  ·subst e1
   rw [if_pos rfl, gx_ tw m m0]
   exact ⟨q0, rfl, h0⟩
  ·rw [if_neg (fun z => e1 (nK_ z))]
   by_cases e2 : a = c0
   ·subst e2
    rw [if_pos rfl, gx_ tw m m0.symm]
    exact ⟨q, rfl, hq⟩
   ·rw [if_neg (fun z => e2 (nK_ z))]
    have da := x.resolve_right e2
    rcases y with y | y
    ·exact h.ma a b m da y
    ·rw [y] at m
     exact absurd (gx_ tw m.symm m0.symm) e1
structure MS (H S H' : Hp) (F M : Addr) (k1 : List (Key × V)) (k2 : List (List Key × V)) : Prop where
 hS : Same H S
 sF : S F = none
 sM : S M = none
 sH : Same S H'
 f : H' F = some (.dK k1)
 m : H' M = some (.dT k2)
theorem MS.new {H S H' : Hp} {F M p : Addr} {o : HO} {k1 : List (Key × V)} {k2 : List (List Key × V)} (h : MS H S H' F M k1 k2) (hp : H' p = none) : MS H (upd S p o) (upd H' p o) F M k1 k2 := by
 have nF : F ≠ p := fun z => by rw [← z, h.f] at hp; cases hp
 have nM : M ≠ p := fun z => by rw [← z, h.m] at hp; cases hp
 exact ⟨h.hS.trans (ca_ h.sH hp), by rw [ai_ nF]; exact h.sF, by rw [ai_ nM]; exact h.sM, h5_ h.sH hp, by rw [ai_ nF]; exact h.f, by rw [ai_ nM]; exact h.m⟩
theorem MS.ne {H S H' : Hp} {F M : Addr} {k1 : List (Key × V)} {k2 : List (List Key × V)} (h : MS H S H' F M k1 k2) : F ≠ M := fun z => by
 have := h.f
 rw [z, h.m] at this
 cases this
theorem MS.putF {H S H' : Hp} {F M : Addr} {k1 : List (Key × V)} {k2 : List (List Key × V)} (h : MS H S H' F M k1 k2) (k1' : List (Key × V)) : MS H S (upd H' F (.dK k1')) F M k1' k2 :=
 ⟨h.hS, h.sF, h.sM, b2_ h.sH h.sF, ad_, by rw [ai_ h.ne.symm]; exact h.m⟩
theorem MS.putM {H S H' : Hp} {F M : Addr} {k1 : List (Key × V)} {k2 : List (List Key × V)} (h : MS H S H' F M k1 k2) (k2' : List (List Key × V)) : MS H S (upd H' M (.dT k2')) F M k1 k2' :=
 ⟨h.hS, h.sF, h.sM, b2_ h.sH h.sM, by rw [ai_ h.ne]; exact h.f, ad_⟩
abbrev s_Lmates : Stmt := stN 41
theorem dm_ : FnScope ["_law_turns", "_law_first", "_law_mates_here", "_law_p", "_law_k", "_law_wire"] ["_law_turns"] (defScope s_Lmates) := ⟨rfl, rfl, rfl, by decide +kernel, rfl, by decide +kernel, by decide +kernel⟩
theorem eZ_ : LK s_Lmates "_law_turns" .local := by decide +kernel
theorem cG_ : LK s_Lmates "_law_first" .local := by decide +kernel
theorem dG_ : LK s_Lmates "_law_mates_here" .local := by decide +kernel
theorem bU_ : LK s_Lmates "_law_p" .local := by decide +kernel
theorem cH_ : LK s_Lmates "_law_k" .local := by decide +kernel
theorem cI_ : LK s_Lmates "_law_wire" .local := by decide +kernel
theorem fl_ : LK s_Lmates "len" .globalImplicit := by decide +kernel
theorem ej_ : LK s_Lmates "range" .globalImplicit := by decide +kernel
def sp_mates : Sp := fun vs H Q _ => ∃ (α : Type) (_ : DecidableEq α) (lab : α → V) (ky : α → Key) (l : Addr) (as_ : List Addr) (T : List (List α)), vs = [.ref l] ∧ (∀ w, lab w = kV (ky w)) ∧ (∀ a b, ky a = ky b → a = b) ∧ Tg lab H l as_ T ∧ Tw T ∧ T.length ≤ 16 ∧ (∀ p, rl T p ≤ 30) ∧ ∀ m H', Same H H' → H m = none → MatesAt H' m T → Q (.ref m) H'
theorem mh_ (T : Txt K mg) (F : Fn0 K mg "_law_mates" s_Lmates) : Cal P w K mg base "_law_mates" ["_law_turns"] 1 sp_mates := by
 refine aW_ F dm_ (fun _ _ _ _ _ _ us hl => match us, hl with | [_], _ => rfl) ?len ?body
 case len => rintro vs H Q E ⟨_, _, _, _, l, as_, T, rfl, _⟩; rfl
 case body =>
  intro f cdv A outer s H vs Q E hr h
  obtain ⟨α, dec, lab, ky, l, as_, Tt, rfl, hlab, inj, hT, tw, t16, r30, k⟩ := h
  refine' ⟨_, ?D, ?R⟩
  case D =>
   refine' aa_ ?g1 ?g2
   case g1 => exact af_ (i := 1) dm_.nd rfl cG_ m2_
   case' g2 => refine' aa_ ?g3 ?g4
   case g3 => exact af_ (i := 2) dm_.nd rfl dG_ m3_
   case' g4 => refine' aa_ ?g5 ?g6
   case' g5 => refine' cB_ PassesOwn.never rfl ?g7 ?g8 ?g9
   case' g7 => refine' bg_ ej_ T.n_range ?g10
   case' g10 => refine' pa_c ?g11 ab_
   case' g11 => refine' ah_ ap_ fl_ T.n_len aG_ ?g13
   case' g13 => refine' pa_c (pv1 0 rfl eZ_) ab_
   case g8 => exact aj_ (i := 3) dm_.nd rfl bU_
   case' g9 => refine' ae_ ?g16
   case' g16 => refine' cB_ PassesOwn.never rfl ?g17 ?g18 ?g19
   case' g17 => refine' bg_ ej_ T.n_range ?g20
   case' g20 => refine' pa_c ?g21 ab_
   case' g21 => refine' ah_ ap_ fl_ T.n_len aG_ ?g23
   case' g23 => refine' pa_c ?g24 ab_
   case' g24 => refine' pe_ix am_ (pv1 0 rfl eZ_) (pv1 3 rfl bU_) (fun _ _ => rfl)
   case g18 => exact aj_ (i := 4) dm_.nd rfl cH_
   case' g19 => refine' aa_ ?g28 ?g29
   case' g28 => refine' af_ (i := 5) dm_.nd rfl cI_ ?g30
   case' g30 => refine' pe_ix am_ ?g31 (pv1 4 rfl cH_) (fun _ _ => rfl)
   case' g31 => refine' pe_ix am_ (pv1 0 rfl eZ_) (pv1 3 rfl bU_) (fun _ _ => rfl)
   case' g29 => refine' ae_ ?g35
   case' g35 => refine' ps_if ?g36 ?g37 ?g38
   case' g36 => refine' hH_ (o2_ (un1 hr.units) (pv1 5 rfl cI_) (pv1 1 rfl cG_))
   case' g37 => refine' aa_ ?g41 ?g42
   case' g41 => refine' jF_ (un1 hr.units) (pv1 2 rfl dG_) ?g44 ?g45 rfl
   case' g44 => refine' aO_ ?g46
   case' g46 => refine' pa_c (pv1 3 rfl bU_) ?g48
   case' g48 => refine' pa_c (pv1 4 rfl cH_) ab_
   case' g45 => refine' jE_ (un1 hr.units) (pv1 1 rfl cG_) (pv1 5 rfl cI_) (fun _ _ => rfl)
   case' g42 => refine' ae_ ?g53
   case' g53 => refine' jF_ (un1 hr.units) (pv1 2 rfl dG_) ?g55 ?g56 rfl
   case' g55 => refine' jE_ (un1 hr.units) (pv1 1 rfl cG_) (pv1 5 rfl cI_) (fun _ _ => rfl)
   case' g56 => refine' aO_ ?g59
   case' g59 => refine' pa_c (pv1 3 rfl bU_) ?g61
   case' g61 => refine' pa_c (pv1 4 rfl cH_) ab_
   case' g38 => refine' ae_ ?g64
   case' g64 => refine' jF_ (un1 hr.units) (pv1 1 rfl cG_) (pv1 5 rfl cI_) ?g67 rfl
   case' g67 => refine' aO_ ?g68
   case' g68 => refine' pa_c (pv1 3 rfl bU_) ?g70
   case' g70 => refine' pa_c (pv1 4 rfl cH_) ab_
   case' g6 => refine' ae_ ?g73
   case' g73 => refine' ao_ (pv1 2 rfl dG_)
  case R =>
   walk_at "rd"
   intro Fd hFd Md hMd
   have s0 : Same H (upd (upd H Fd (HO.dK [])) Md (HO.dT [])) := (Same.new hFd).trans (Same.new hMd)
   have nF : Fd ≠ Md := fun z => by rw [← z, ad_] at hMd; cases hMd
   have hM0 : H Md = none := (Same.new hFd).free hMd
   have ms0 : MS H H (upd (upd H Fd (HO.dK [])) Md (HO.dT [])) Fd Md [] [] := ⟨Same.refl _, hFd, hM0, s0, by rw [ai_ nF]; exact ad_, ad_⟩
   generalize upd (upd H Fd (HO.dK [])) Md (HO.dT []) = H0 at s0 ms0 ⊢
   refine ⟨_, .inl (s0 _ _ hT.top), ?_⟩
   rw [List.length_map, hT.len]
   refine ⟨by omega, by omega, ?_⟩
   rw [Int.toNat_natCast]
   refine cr_ (fun i σ H' => ∃ (S : Hp) (k1 : List (Key × V)) (k2 : List (List Key × V)) (e3 e4 e5 : Option V), σ = [some (.ref l), some (.ref Fd), some (.ref Md), e3, e4, e5] ∧ MS H S H' Fd Md k1 k2 ∧ Mi ky Tt S (Dn i 0) k1 k2 ∧ k1.length ≤ 30 * i ∧ k2.length ≤ 60 * i) ?_ ?_ ?_
   ·refine ⟨H, [], [], _, _, _, rfl, ms0, ⟨fun w => .inr ⟨fun c hc => ?_, rfl⟩, fun a b m x y => ?_⟩, Nat.le_refl _, Nat.le_refl _⟩
    ·rcases hc with z | z <;> omega
    ·rcases x with z | z <;> omega
   ·rintro i σ H' hi ⟨S, k1, k2, e3, e4, e5, rfl, ms, mi, l1, l2⟩
    have hT1 := (hT.mono ms.hS).mono ms.sH
    obtain ⟨a, ea, at0, ra⟩ := hT1.at_ hi
    walk_at "rd"
    rw [Int.zero_add]
    refine ⟨_, hT1.top, _, at0, _, rfl, _, .inl ra, ?_⟩
    rw [List.length_map]
    have r3 := r30 i
    unfold rl at r3
    refine ⟨by omega, by omega, ?_⟩
    rw [Int.toNat_natCast]
    refine cr_ (fun j σ H' => ∃ (S : Hp) (k1 : List (Key × V)) (k2 : List (List Key × V)) (e4 e5 : Option V), σ = [some (.ref l), some (.ref Fd), some (.ref Md), some (.int i), e4, e5] ∧ MS H S H' Fd Md k1 k2 ∧ Mi ky Tt S (Dn i j) k1 k2 ∧ k1.length ≤ 30 * i + j ∧ k2.length ≤ 60 * i + 2 * j) ?_ ?_ ?_
    ·exact ⟨S, k1, k2, _, _, rfl, ms, mi, by omega, by omega⟩
    ·clear ms mi l1 l2 hT1 ra ea at0 a k1 k2 S
     rintro j σ H' hj ⟨S, k1, k2, e4, e5, rfl, ms, mi, l1, l2⟩
     have hT1 := (hT.mono ms.hS).mono ms.sH
     obtain ⟨a, ea, at0, ra⟩ := hT1.at_ hi
     walk_at "rd"
     simp only [Int.zero_add]
     obtain ⟨w, hw⟩ : ∃ w, (Tt.getD i [])[j]? = some w := ⟨_, List.getElem?_eq_getElem hj⟩
     have hwi : wi Tt (i, j) = some w := hw
     have i16 : i < 16 := by omega
     have nD : ¬ Dn i j (i, j) := by unfold Dn; omega
     have eD : ∀ c w', wi Tt c = some w' → ((Dn i j c ∨ c = (i, j)) ↔ Dn i (j + 1) c) := fun c w' _ => by
      unfold Dn
      constructor
      ·rintro ((z | ⟨z, z2⟩) | z)
       ·exact .inl z
       ·exact .inr ⟨z, by omega⟩
       ·rw [z]; exact .inr ⟨rfl, Nat.lt_succ_self _⟩
      ·rintro (z | ⟨z, z2⟩)
       ·exact .inl (.inl z)
       ·by_cases y : c.2 = j
        ·exact .inr (Prod.ext z y)
        ·exact .inl (.inr ⟨z, by omega⟩)
     refine ⟨_, hT1.top, _, at0, _, rfl, _, ra, kV (ky w), ?_, _, DGet.k (k := ky w) ms.f, ?_⟩
     ·exact b9_ (by omega) (by rw [Int.toNat_natCast, List.getElem?_map, hw, Option.map_some, hlab])
     rcases mi.fi w with ⟨c, q, dc, wc, hv, hq⟩ | ⟨no, hv⟩
     ·rw [if_pos (by rw [hv]; rfl)]
      refine ⟨.ref q, hv ▸ DGet.k (k := ky w) ms.f, by decide, fun p hp => ?_⟩
      have ms1 := ms.new (o := cV (i, j)) hp
      have ms2 := ms1.putM (putK k2 (cK (i, j)) (.ref q))
      have z1 := cD_ k2 (cK (i, j)) (.ref q)
      refine ⟨_, DPut.t (k := cK (i, j)) ms1.m ad_ (small1000 (by omega)), by decide, fun q0 hq0 => ?_⟩
      have ms3 := ms2.new (o := cV (i, j)) hq0
      have mi3 := (mi.mono (ca_ (o := cV (i, j)) ms.sH hp)).mono (ca_ (o := cV (i, j)) ms2.sH hq0)
      have hqS := ca_ (o := cV (i, j)) ms2.sH hq0 _ _ (ca_ (o := cV (i, j)) ms.sH hp _ _ hq)
      have z2 := cD_ (putK k2 (cK (i, j)) (.ref q)) (cK c) (.ref q0)
      refine ⟨.ref q, hv ▸ DGet.k (k := ky w) ms3.f, _, DPut.t (k := cK c) ms3.m (ms3.sH _ _ hqS) (small1000 (by omega)), ?_⟩
      exact ⟨_, _, _, ms3.putM _, (Mi.old tw mi3 hwi nD dc wc hqS ad_).imp eD, by omega, by omega⟩
     ·rw [if_neg (by rw [hv]; decide)]
      refine ⟨by decide, fun q0 hq0 => ?_⟩
      have ms1 := ms.new (o := cV (i, j)) hq0
      have z1 := cD_ k1 (ky w) (.ref q0)
      refine ⟨_, DPut.k (k := ky w) ms1.f (small1000 (by omega)), ?_⟩
      exact ⟨_, _, _, ms1.putF _, ((mi.mono (ca_ ms.sH hq0)).new inj hwi hv ad_).imp eD, by omega, by omega⟩
    ·rintro σ H' ⟨S, k1, k2, e4, e5, rfl, ms, mi, l1, l2⟩
     refine ⟨S, k1, k2, _, _, _, rfl, ms, mi.imp fun c w hw => ?_, by omega, by omega⟩
     have := (wi_lt hw).1
     unfold rl at this
     unfold Dn
     constructor
     ·rintro (z | ⟨z, z2⟩)
      ·exact .inl (by omega)
      ·exact .inl (by omega)
     ·rintro (z | ⟨z, z2⟩)
      ·by_cases y : c.1 = i
       ·rw [y] at this; exact .inr ⟨y, this⟩
       ·exact .inl (by omega)
      ·omega
   ·rintro σ H' ⟨S, k1, k2, e3, e4, e5, rfl, ms, mi, l1, l2⟩
    walk_at "rd"
    refine k Md H' (ms.hS.trans ms.sH) hM0 ⟨k2, ms.m, fun a b m => ?_⟩
    obtain ⟨ne, w, wa, wb⟩ := id m
    obtain ⟨q, h1, h2⟩ := mi.ma a b m (.inl (wi_lt wa).2) (.inl (wi_lt wb).2)
    exact ⟨q, h1, ms.sH _ _ h2⟩
structure To (B H : Hp) (l : Addr) (as_ : List Addr) (T : List (List Nat)) : Prop where
 tn : Tn H l as_ T
 nd : as_.Nodup
 nl : l ∉ as_
 fl : B l = none
 fa : ∀ a ∈ as_, B a = none
theorem To.mono {B H H' : Hp} {l : Addr} {as_ : List Addr} {T : List (List Nat)} (h : To B H l as_ T) (s : Same H H') : To B H' l as_ T := ⟨h.tn.mono s, h.nd, h.nl, h.fl, h.fa⟩
theorem jW_ (n p : Nat) : (List.replicate n ([] : List Nat)).getD p [] = [] := by
 rw [List.getD_eq_getElem?_getD, List.getElem?_replicate]
 split <;> rfl
theorem rl_le (T : List (List Nat)) (p : Nat) : rl T p ≤ T.flatten.length := by
 unfold rl
 rw [List.getD_eq_getElem?_getD]
 cases e : T[p]? with
 | none => exact Nat.zero_le _
 | some l =>
  obtain ⟨hp, e1⟩ := List.getElem?_eq_some_iff.mp e
  have h2 : T.flatten.length = (T.take p).flatten.length + (T.drop p).flatten.length := by rw [← List.length_append, ← List.flatten_append, List.take_append_drop]
  rw [List.drop_eq_getElem_cons hp, e1, List.flatten_cons, List.length_append] at h2
  show l.length ≤ _
  omega
theorem both {c1 : Prop} [Decidable c1] {α : Type} {C : α → Prop} {c2 : α → Prop} [∀ x, Decidable (c2 x)] {X : α → Prop} {Y : Prop} (a : α) (ha : C a) (hX : c1 → c2 a → X a) (hY : Y) : if c1 then ∃ x, C x ∧ (if c2 x then X x else Y) else Y := by
 by_cases h1 : c1
 ·rw [if_pos h1]
  refine ⟨a, ha, ?_⟩
  by_cases h2 : c2 a
  ·rw [if_pos h2]; exact hX h1 h2
  ·rw [if_neg h2]; exact hY
 ·rw [if_neg h1]; exact hY
theorem jX_ (l : List Nat) (k wire : Nat) : (l.map fun n : Nat => V.int n).take k ++ V.int (0 + (wire : Nat)) :: (l.map fun n : Nat => V.int n).drop k = (RimT.ins l k wire).map fun n : Nat => V.int n := by
 unfold RimT.ins
 rw [List.map_append, List.map_cons, List.map_take, List.map_drop, Int.zero_add]
theorem To.ins {B H : Hp} {l : Addr} {as_ : List Addr} {T : List (List Nat)} (h : To B H l as_ T) {c : Nat × Nat} {a : Addr} (ha : as_[c.1]? = some a) (wire : Nat) : To B (upd H a (.lst ((RimT.ins (T.getD c.1 []) c.2 wire).map fun n : Nat => V.int n))) l as_ (insAt T c wire) := by
 have la : l ≠ a := fun e => h.nl (by rw [e]; exact List.mem_of_getElem? ha)
 have cl : c.1 < as_.length := (List.getElem?_eq_some_iff.mp ha).1
 refine ⟨⟨by rw [ai_ la]; exact h.tn.top, by rw [aK_]; exact h.tn.len, fun p b hb => ?_⟩, h.nd, h.nl, h.fl, h.fa⟩
 by_cases e : c.1 = p
 ·subst e
  rw [ha] at hb
  cases hb
  rw [ad_]
  unfold insAt
  rw [List.getD_eq_getElem?_getD (l := T.set _ _), List.getElem?_set, if_pos rfl, if_pos (by rw [← h.tn.len]; exact cl)]
  rfl
 ·have ba : b ≠ a := fun z => by
   rw [z] at hb
   exact e ((List.getElem?_inj cl h.nd).mp (ha.trans hb.symm))
  rw [ai_ ba, h.tn.row p b hb]
  unfold insAt
  rw [List.getD_eq_getElem?_getD (l := T.set _ _), List.getElem?_set, if_neg e, ← List.getD_eq_getElem?_getD]
theorem To.more {B H : Hp} {l : Addr} {as_ : List Addr} {T : List (List Nat)} (h : To B H l as_ T) (sB : Same B H) {a : Addr} (na : H a = none) (r : List Nat) : To B (upd (upd H a (.lst (r.map fun n : Nat => V.int n))) l (.lst ((as_ ++ [a]).map V.ref))) l (as_ ++ [a]) (T ++ [r]) := by
 have la : l ≠ a := ag_ h.tn.top na
 have an : a ∉ as_ := fun z => by
  obtain ⟨p, hp, e⟩ := List.mem_iff_getElem.mp z
  have := h.tn.row p a (by rw [List.getElem?_eq_getElem hp, e])
  rw [na] at this
  cases this
 refine ⟨⟨ad_, by simp [h.tn.len], fun p b hb => ?_⟩, List.nodup_append.mpr ⟨h.nd, by simp, fun x hx y hy e => an (by rw [← List.mem_singleton.mp hy, ← e]; exact hx)⟩, fun z => ?_, h.fl, fun b hb => ?_⟩
 ·have bl : b ≠ l := fun e => by
   rw [e] at hb
   rcases List.mem_append.mp (List.mem_of_getElem? hb) with z | z
   ·exact h.nl z
   ·exact la (List.mem_singleton.mp z)
  rw [ai_ bl]
  by_cases hp : p < as_.length
  ·rw [List.getElem?_append_left hp] at hb
   have e := h.tn.row p b hb
   rw [ai_ (fun z => by rw [z, na] at e; cases e), e, List.getD_eq_getElem?_getD, List.getD_eq_getElem?_getD, List.getElem?_append_left (by rw [← h.tn.len]; exact hp)]
  ·rw [List.getElem?_append_right (by omega)] at hb
   have e := List.mem_singleton.mp (List.mem_of_getElem? hb)
   have hz : p = as_.length := by
    have := (List.getElem?_eq_some_iff.mp hb).1
    simp at this
    omega
   rw [e, ad_, hz, h.tn.len, List.getD_eq_getElem?_getD, List.getElem?_append_right (Nat.le_refl _)]
   simp
 ·rcases List.mem_append.mp z with z | z
  ·exact h.nl z
  ·exact la (List.mem_singleton.mp z)
 ·rcases List.mem_append.mp hb with z | z
  ·exact h.fa b z
  ·rw [List.mem_singleton.mp z]; exact sB.free na
abbrev s_Lgrown : Stmt := stN 45
theorem a7_ : FnScope ["_law_big_here", "_law_posts", "_law_many", "_law_within", "_law_turns", "_law_wire", "_law_corners_here", "_law_one", "_law_way", "_law_region_here", "_law_other", "_law_p", "_law_k"] ["_law_big_here", "_law_posts", "_law_many", "_law_within"] (defScope s_Lgrown) := ⟨rfl, rfl, rfl, by decide +kernel, rfl, by decide +kernel, by decide +kernel⟩
theorem a3_ : LK s_Lgrown "_law_big_here" .local := by decide +kernel
theorem dH_ : LK s_Lgrown "_law_posts" .local := by decide +kernel
theorem jY_ : LK s_Lgrown "_law_many" .local := by decide +kernel
theorem jZ_ : LK s_Lgrown "_law_within" .local := by decide +kernel
theorem bf_ : LK s_Lgrown "_law_turns" .local := by decide +kernel
theorem dI_ : LK s_Lgrown "_law_wire" .local := by decide +kernel
theorem dJ_ : LK s_Lgrown "_law_corners_here" .local := by decide +kernel
theorem cJ_ : LK s_Lgrown "_law_one" .local := by decide +kernel
theorem hc_ : LK s_Lgrown "_law_way" .local := by decide +kernel
theorem dK_ : LK s_Lgrown "_law_region_here" .local := by decide +kernel
theorem f6_ : LK s_Lgrown "_law_other" .local := by decide +kernel
theorem f7_ : LK s_Lgrown "_law_p" .local := by decide +kernel
theorem f8_ : LK s_Lgrown "_law_k" .local := by decide +kernel
theorem fm_ : LK s_Lgrown "_law_corners" .globalImplicit := by decide +kernel
theorem gj_ : LK s_Lgrown "_law_mates" .globalImplicit := by decide +kernel
theorem fJ_ : LK s_Lgrown "_law_region" .globalImplicit := by decide +kernel
theorem bH_ : LK s_Lgrown "len" .globalImplicit := by decide +kernel
theorem ek_ : LK s_Lgrown "range" .globalImplicit := by decide +kernel
theorem gk_ : LK s_Lgrown "sorted" .globalImplicit := by decide +kernel
def sp_grown : Sp := fun vs H Q _ => ∃ (z : Int) (P W : Nat), vs = [.int z, .int P, .int W, .int 10] ∧ 1 ≤ P ∧ P ≤ 6 ∧ W ≤ 15 ∧
 ∀ (p l : Addr) (as_ : List Addr) (T : List (List Nat)) (y : Int) H', Same H H' → H' p = some (.tup [.ref l, .int y]) → To H H' l as_ T → Gr P W T → Q (.ref p) H'
theorem mi_ (T : Txt K mg) (F : Fn0 K mg "_law_grown" s_Lgrown) (C_Lcorners : Cal P w K mg base "_law_corners" ["_law_turns", "_law_posts"] 1 sp_corners) (C_Lmates : Cal P w K mg base "_law_mates" ["_law_turns"] 1 sp_mates) (C_Lregion : Cal P w K mg base "_law_region" ["_law_turns", "_law_posts", "_law_mates_here", "_law_corner"] 2 sp_region) : Cal P w K mg base "_law_grown" ["_law_big_here", "_law_posts", "_law_many", "_law_within"] 3 sp_grown := by
 refine aW_ F a7_ (fun _ _ _ _ _ _ us hl => match us, hl with | [_, _, _, _], _ => rfl) ?len ?body
 case len => rintro vs H Q E ⟨a, b, c, rfl, _⟩; rfl
 case body =>
  intro f cdv A outer s H vs Q E hr h
  obtain ⟨z, Pp, W, rfl, P1, P6, W15, k⟩ := h
  refine' ⟨_, ?D, ?R⟩
  case D =>
   refine' aa_ ?g1 ?g2
   case' g1 => refine' eT_ (i := 4) (N' := ["_law_p"]) (ix := [none]) rfl rfl a7_.nd rfl bf_ rfl (bN_ ?g3) ?g4 (fun _ _ _ => ?g5) (fun _ _ _ => ?g6) (fun _ _ _ => ?g7)
   case g3 => exact (by show scpB (defScope s_Lgrown) ["_law_big_here", "_law_posts", "_law_many", "_law_within", "_law_turns", "_law_wire", "_law_corners_here", "_law_one", "_law_way", "_law_region_here", "_law_other", "_law_p", "_law_k"] _ _ _ = true; decide +kernel)
   case' g4 => refine' bg_ ek_ T.n_range ?g8
   case' g8 => refine' pa_c (pv1 1 rfl dH_) ab_
   case g5 => exact aj_ (i := 0) (by show List.Nodup (["_law_p"] : List Str); decide +kernel) rfl rfl
   case g6 => exact c0_
   case' g7 => refine' bh_ ab_
   case' g2 => refine' aa_ ?g12 ?g13
   case' g12 => refine' cB_ PassesOwn.never rfl ?g14 ?g15 ?g16
   case' g14 => refine' bg_ ek_ T.n_range ?g17
   case' g17 => refine' pa_c (pv1 2 rfl jY_) ab_
   case g15 => exact aj_ (i := 5) a7_.nd rfl dI_
   case' g16 => refine' aa_ ?g20 ?g21
   case' g20 => refine' af_ (i := 6) a7_.nd rfl dJ_ ?g22
   case' g22 => refine' al_ C_Lcorners (hr.mono (by decide)) fm_ ?g23
   case' g23 => refine' pa_c (pv1 4 rfl bf_) ?g25
   case' g25 => refine' pa_c (pv1 1 rfl dH_) ab_
   case' g21 => refine' aa_ ?g28 ?g29
   case' g28 => refine' af_ (i := 7) a7_.nd rfl cJ_ ?g30
   case' g30 => refine' pe_ix am_ (pv1 6 rfl dJ_) ?g32 (fun _ _ => rfl)
   case' g32 => refine' pe_op aw_ (pv1 0 rfl a3_) ?g34
   case' g34 => refine' ah_ ap_ bH_ T.n_len aG_ ?g35
   case' g35 => refine' pa_c (pv1 6 rfl dJ_) ab_
   case' g29 => refine' aa_ ?g38 ?g39
   case' g38 => refine' af_ (i := 0) a7_.nd rfl a3_ ?g40
   case' g40 => refine' pe_op an_ (pv1 0 rfl a3_) ?g42
   case' g42 => refine' ah_ ap_ bH_ T.n_len aG_ ?g43
   case' g43 => refine' pa_c (pv1 6 rfl dJ_) ab_
   case' g39 => refine' aa_ ?g46 ?g47
   case' g46 => refine' af_ (i := 8) a7_.nd rfl hc_ ?g48
   case' g48 => refine' pe_op aw_ (pv1 0 rfl a3_) ac_
   case' g47 => refine' aa_ ?g51 ?g52
   case' g51 => refine' af_ (i := 0) a7_.nd rfl a3_ ?g53
   case' g53 => refine' pe_op an_ (pv1 0 rfl a3_) ac_
   case' g52 => refine' ae_ ?g56
   case' g56 => refine' ps_if ?g57 ?g58 ?g59
   case' g57 => refine' PW.pt ?g60
   case' g60 => refine' eO_ ?g61 ?g62
   case' g61 => refine' ak_ op_eq (pv1 8 rfl hc_) ac_ (nomark _)
   case' g62 => refine' eS_ ?g65
   case' g65 => refine' ak_ op_lt ?g66 ?g67 (nomark _)
   case' g66 => refine' ah_ ap_ bH_ T.n_len aG_ ?g68
   case' g68 => refine' pa_c (pv1 4 rfl bf_) ab_
   case' g67 => refine' pe_op aM_ (pv1 1 rfl dH_) (pv1 3 rfl jZ_)
   case' g58 => refine' aa_ ?g73 ?g74
   case' g73 => refine' aZ_ ?g75
   case' g75 => refine' pe_bm PySem.F.plainAttrs_list PySem.F.slot_list_insert PySem.F.type_list_insert gX_ ?g76 ?g77
   case' g76 => refine' pe_ix am_ (pv1 4 rfl bf_) ?g79 (fun _ _ => rfl)
   case' g79 => refine' pe_ix bc_ (pv1 7 rfl cJ_) ac_ (fun _ _ => rfl)
   case' g77 => refine' pa_c ?g82 ?g83
   case' g82 => refine' pe_ix bc_ (pv1 7 rfl cJ_) ac_ (fun _ _ => rfl)
   case' g83 => refine' pa_c (pv1 5 rfl dI_) ab_
   case' g74 => refine' ae_ ?g88
   case' g88 => refine' aZ_ ?g89
   case' g89 => refine' pe_bm PySem.F.plainAttrs_list PySem.F.slot_list_append PySem.F.type_list_append bi_ (pv1 4 rfl bf_) ?g91
   case' g91 => refine' pa_c ?g92 ab_
   case' g92 => refine' bh_ ?g94
   case' g94 => refine' pa_c (pv1 5 rfl dI_) ab_
   case' g59 => refine' aa_ ?g97 ?g98
   case' g97 => refine' af_ (i := 9) a7_.nd rfl dK_ ?g99
   case' g99 => refine' al_ C_Lregion (hr.mono (by decide)) fJ_ ?g100
   case' g100 => refine' pa_c (pv1 4 rfl bf_) ?g102
   case' g102 => refine' pa_c (pv1 1 rfl dH_) ?g104
   case' g104 => refine' pa_c ?g105 ?g106
   case' g105 => refine' al_ C_Lmates (hr.mono (by decide)) gj_ ?g107
   case' g107 => refine' pa_c (pv1 4 rfl bf_) ab_
   case' g106 => refine' pa_c (pv1 7 rfl cJ_) ab_
   case' g98 => refine' aa_ ?g112 ?g113
   case' g112 => refine' af_ (i := 10) a7_.nd rfl f6_ ?g114
   case' g114 => refine' pe_ix am_ (pv1 9 rfl dK_) ?g116 (fun _ _ => rfl)
   case' g116 => refine' pe_op aw_ (pv1 0 rfl a3_) ?g118
   case' g118 => refine' ah_ ap_ bH_ T.n_len aG_ ?g119
   case' g119 => refine' pa_c (pv1 9 rfl dK_) ab_
   case' g113 => refine' aa_ ?g122 ?g123
   case' g122 => refine' af_ (i := 0) a7_.nd rfl a3_ ?g124
   case' g124 => refine' pe_op an_ (pv1 0 rfl a3_) ?g126
   case' g126 => refine' ah_ ap_ bH_ T.n_len aG_ ?g127
   case' g127 => refine' pa_c (pv1 9 rfl dK_) ab_
   case' g123 => refine' ae_ ?g130
   case' g130 => refine' cB_ PassesOwn.never rfl ?g131 ?g132 ?g133
   case' g131 => refine' bm_ (K := K) rfl ?g134
   case' g134 => refine' k2_ hr.units gk_ T.n_sorted ?g135
   case' g135 => refine' pa_c ?g136 ab_
   case' g136 => refine' bh_ ?g138
   case' g138 => refine' pa_c (pv1 7 rfl cJ_) ?g140
   case' g140 => refine' pa_c (pv1 10 rfl f6_) ab_
   case' g132 => refine' bS_ (K := K) (n := 2) rfl rfl ?g143
   case' g143 => refine' aB_ ?g144 ?g145
   case g144 => exact aj_ (i := 11) a7_.nd rfl f7_
   case' g145 => refine' aB_ ?g146 bQ_
   case g146 => exact aj_ (i := 12) a7_.nd rfl f8_
   case' g133 => refine' ae_ ?g148
   case' g148 => refine' aZ_ ?g149
   case' g149 => refine' pe_bm PySem.F.plainAttrs_list PySem.F.slot_list_insert PySem.F.type_list_insert gX_ ?g150 ?g151
   case' g150 => refine' pe_ix am_ (pv1 4 rfl bf_) (pv1 11 rfl f7_) (fun _ _ => rfl)
   case' g151 => refine' pa_c (pv1 12 rfl f8_) ?g155
   case' g155 => refine' pa_c (pv1 5 rfl dI_) ab_
   case' g13 => refine' ae_ ?g158
   case' g158 => refine' ao_ ?g159
   case' g159 => refine' aO_ ?g160
   case' g160 => refine' pa_c (pv1 4 rfl bf_) ?g162
   case' g162 => refine' pa_c (pv1 0 rfl a3_) ab_
  case R =>
   walk_at "rd"
   refine ⟨by omega, by omega, ?_⟩
   rw [show Int.toNat (Pp : Int) = Pp by omega]
   intro D hD
   refine ⟨fun i m σ H' => m = Pp - i ∧ i ≤ Pp ∧ (∃ e, σ = [e]) ∧ Same H H' ∧ ∃ as_ : List Addr, as_.length = i ∧ To H H' D as_ (List.replicate i []), ⟨Pp, by simp, Nat.zero_le _, ⟨_, rfl⟩, Same.new hD, [], rfl, ⟨⟨ad_, rfl, fun p a h => (by cases h)⟩, List.nodup_nil, fun h => (by cases h), hD, fun a h => (by cases h)⟩⟩, ?_⟩
   rintro i m σ H' ⟨rfl, hi, ⟨e, rfl⟩, s1, as_, al, hT⟩
   by_cases hlt : i < Pp
   ·refine .inr ⟨hlt, fun σ2 H2 => (∃ e, σ2 = [e]) ∧ Same H H2 ∧ ∃ as_ : List Addr, as_.length = i + 1 ∧ To H H2 D as_ (List.replicate (i + 1) []), fun σ2 H2 ⟨a, b, c⟩ => ⟨Pp - (i + 1), by omega, rfl, hlt, a, b, c⟩, ?_⟩
    rintro x H'' ⟨rfl, rfl⟩
    walk_at "rd"
    refine ⟨Nat.zero_le _, fun a na => ?_⟩
    have fa : H a = none := s1.free na
    have Da : D ≠ a := ag_ hT.tn.top na
    refine ⟨as_.map V.ref, by rw [ai_ Da]; exact hT.tn.top, small1000 (by rw [List.length_map]; omega), ⟨_, rfl⟩, fun b o hb => ?_, as_ ++ [a], by simp [al], ?_⟩
    ·rw [ai_ (ag_ hb hD), ai_ (ag_ hb fa)]
     exact s1 _ _ hb
    ·have an : a ∉ as_ := fun h => by
      obtain ⟨p, hp, e⟩ := List.mem_iff_getElem.mp h
      have := hT.tn.row p a (by rw [List.getElem?_eq_getElem hp, e])
      rw [na] at this
      cases this
     refine ⟨⟨by rw [ad_, List.map_append]; rfl, by simp [al], fun p b hb => ?_⟩, ?_, ?_, hD, fun b hb => ?_⟩
     ·have hbD : b ≠ D := fun e => by
       rw [e] at hb
       rcases List.mem_append.mp (List.mem_of_getElem? hb) with h | h
       ·exact hT.nl h
       ·exact Da (List.mem_singleton.mp h)
      rw [ai_ hbD]
      by_cases hp : p < as_.length
      ·rw [List.getElem?_append_left hp] at hb
       have e := hT.tn.row p b hb
       rw [ai_ (fun z => by rw [z, na] at e; cases e), e, jW_, show ([] : List Nat) :: List.replicate i [] = List.replicate (i + 1) [] from rfl, jW_]
      ·have e : b = a := by
        rw [List.getElem?_append_right (by omega)] at hb
        have := List.mem_of_getElem? hb
        exact List.mem_singleton.mp this
       rw [e, ad_, show ([] : List Nat) :: List.replicate i [] = List.replicate (i + 1) [] from rfl, jW_]
       rfl
     ·exact List.nodup_append.mpr ⟨hT.nd, by simp, fun x hx y hy e => an (by rw [← List.mem_singleton.mp hy, ← e]; exact hx)⟩
     ·intro h
      rcases List.mem_append.mp h with h | h
      ·exact hT.nl h
      ·exact Da (List.mem_singleton.mp h)
     ·rcases List.mem_append.mp hb with h | h
      ·exact hT.fa b h
      ·rw [List.mem_singleton.mp h]; exact fa
   ·have e : i = Pp := by omega
    subst e
    refine .inl ⟨Nat.le_refl _, ?_⟩
    walk_at "rd"
    refine ⟨by omega, by omega, ?_⟩
    rw [show Int.toNat (W : Int) = W by omega]
    refine cr_ (fun v σ H2 => ∃ (z : Int) (e5 e6 e7 e8 e9 e10 e11 e12 : Option V) (as_ : List Addr) (T : List (List Nat)), σ = [some (.int z), some (.int i), some (.int W), some (.int 10), some (.ref D), e5, e6, e7, e8, e9, e10, e11, e12] ∧ Same H H2 ∧ To H H2 D as_ T ∧ Gr i v T) ⟨z, none, none, none, none, none, none, none, none, as_, _, rfl, s1, hT, m5_ i⟩ ?_ ?_
    ·rintro v σ H2 hv ⟨z, e5, e6, e7, e8, e9, e10, e11, e12, as_, T, rfl, s2, hT, gr⟩
     have hv' : v < W := hv
     have gc := gr.corners
     have gl := gr.len
     have gm := gr.most
     walk_at "rd"
     refine ⟨D, as_, T, i, rfl, hT.tn, by omega, by omega, fun R H3 s3 repR => ?_⟩
     obtain ⟨_, vs, e0, hR', hvs⟩ := id repR
     cases e0
     obtain ⟨nR, hR⟩ := aJ_ hR'
     have hvl : vs.length = (corners T i).length := by rw [hvs.length, List.length_map]
     have c0 : 0 < (corners T i).length := by
      have : (0, 0) ∈ corners T i := eV_.mpr ⟨by show 0 < T.length; omega, by show 0 < _ + (if 0 < i then 1 else 0); rw [if_pos (by omega)]; omega⟩
      exact List.length_pos_of_mem this
     obtain ⟨j, hj, jl⟩ : ∃ j : Nat, z % (vs.length : Int) = j ∧ j < vs.length := ⟨(z % (vs.length : Int)).toNat, by have := Int.emod_nonneg z (show (vs.length : Int) ≠ 0 by omega); omega, by have := Int.emod_nonneg z (show (vs.length : Int) ≠ 0 by omega); have := Int.emod_lt_of_pos z (show (0 : Int) < (vs.length : Int) by omega); omega⟩
     obtain ⟨xs, ex, hcs⟩ := nJ_ (Reps.mono gS_ _ hvs)
     have ec : (corners T i)[j]? = some ((corners T i)[j]'(by omega)) := List.getElem?_eq_getElem _
     obtain ⟨q, hxq, hq⟩ := hcs.get ec
     have ic : IsC T i ((corners T i)[j]'(by omega)) := eV_.mp (List.getElem_mem _)
     generalize (corners T i)[j]'(by omega) = c at *
     have lg : ((vs.length : Int)).natAbs.log2 < 9000 := by
      have : ((vs.length : Int)).natAbs ≤ 1000 := by omega
      by_cases h0 : ((vs.length : Int)).natAbs = 0
      ·rw [h0]; decide
      ·rw [Nat.log2_lt h0]
       exact Nat.lt_of_le_of_lt this (by decide +kernel)
     refine ⟨R, rfl, vs, .inl hR, by omega, R, rfl, vs, hR, .ref q, ?_, R, rfl, vs, .inl hR, by omega, lg, by decide, by decide, by decide +kernel, ?_⟩
     ·rw [hj]
      refine b9_ (by omega) ?_
      rw [Int.toNat_natCast, ex, List.getElem?_map, hxq]
      rfl
     have hT3 := hT.mono s3
     have s23 := s2.trans s3
     have cb : c.2 ≤ rl T c.1 := by
      have := ic.2
      split at this <;> omega
     refine both (as_.map V.ref) (.inl hT3.tn.top) (fun h1 h2 => ?_) ?_
     ·obtain ⟨a, ea, at0, ra⟩ := hT3.tn.at_ ic.1
      have rw30 : rl T c.1 ≤ 30 := by
       have := rl_le T c.1
       rw [gr.tot] at this
       omega
      have rln : (T.getD c.1 []).length = rl T c.1 := rfl
      have Da : D ≠ a := fun e => hT3.nl (by rw [e]; exact List.mem_of_getElem? ea)
      have fa := hT3.fa a (List.mem_of_getElem? ea)
      refine ⟨q, rfl, _, hq, _, atI_0, _, _, rfl, hT3.tn.top, .ref a, at0, .inl ⟨_, .inl (.inl ra)⟩, q, rfl, _, hq, _, atI_1, a, rfl, _, _, rfl, ra, by omega, by rw [List.length_map, rln]; omega, by rw [List.length_map, rln]; omega, ?_⟩
      rw [Int.toNat_natCast, jX_]
      have hT4 := hT3.ins ea v
      have s4 : Same H (upd H3 a (.lst ((RimT.ins (T.getD c.1 []) c.2 v).map fun n : Nat => V.int n))) := fun b o hb => by
       rw [ai_ (ag_ hb fa)]
       exact s23 _ _ hb
      generalize upd H3 a (.lst ((RimT.ins (T.getD c.1 []) c.2 v).map fun n : Nat => V.int n)) = H4 at *
      refine ⟨.inl ⟨_, .inl (.inl hT4.tn.top)⟩, by decide, fun p np => ?_⟩
      have Dp : D ≠ p := ag_ hT4.tn.top np
      have hT5 := hT4.more s4 np [v]
      refine ⟨as_.map V.ref, by rw [ai_ Dp]; exact hT4.tn.top, small1000 (by rw [List.length_map]; have := hT4.tn.len; rw [aK_] at this; omega), ?_⟩
      have e1 : as_.map V.ref ++ [V.ref p] = (as_ ++ [p]).map V.ref := by simp
      have e2 : [V.int (0 + (v : Nat))] = [v].map fun n : Nat => V.int n := by simp
      rw [e1, e2]
      refine ⟨fun b o hb => ?_, _, _, hT5, oh_ gr ic.1 (by rw [List.length_map] at h2; have := hT3.tn.len; omega)⟩
      rw [ai_ (ag_ hb hT.fl), ai_ (ag_ hb (s4.free np))]
      exact s4 _ _ hb
     ·have rl30 : ∀ p, rl T p ≤ 30 := fun p => by
       have := rl_le T p
       rw [gr.tot] at this
       omega
      refine ⟨Nat, _, _, fun n : Nat => .inl (n : Int), D, as_, T, rfl, fun _ => rfl, fun a b h => Int.ofNat.inj (Sum.inl.inj h), hT3.tn, gr.tw, by omega, rl30, fun M H4 s4 nM hM => ?_⟩
      refine ⟨_, _, _, D, M, q, as_, T, i, c, rfl, hT3.tn.mono s4, hM, gr.tw, by omega, gl, s4 _ _ hq, ic, by omega, fun R2 H5 xs2 cs2 s5 nR2 hR2 hcs2 ne2 len2 all2 _ _ _ => ?_⟩
      have x2l : xs2.length = cs2.length := hcs2.len
      have l2 : 0 < cs2.length := List.length_pos_iff.mpr ne2
      have lg2 : (((xs2.map V.ref).length : Int)).natAbs.log2 < 9000 := by
       rw [List.length_map]
       by_cases h0 : ((xs2.length : Int)).natAbs = 0
       ·rw [h0]; decide
       ·rw [Nat.log2_lt h0]
        exact Nat.lt_of_le_of_lt (show ((xs2.length : Int)).natAbs ≤ 1000 by omega) (by decide +kernel)
      generalize hy : z / (vs.length : Int) / 3 = y
      obtain ⟨j2, hj2, jl2⟩ : ∃ j : Nat, y % ((xs2.map V.ref).length : Int) = j ∧ j < xs2.length := by
       rw [List.length_map]
       have a1 := Int.emod_nonneg y (show (xs2.length : Int) ≠ 0 by omega)
       have a2 := Int.emod_lt_of_pos y (show (0 : Int) < (xs2.length : Int) by omega)
       exact ⟨(y % (xs2.length : Int)).toNat, by omega, by omega⟩
      have ec2 : cs2[j2]? = some (cs2[j2]'(by omega)) := List.getElem?_eq_getElem _
      obtain ⟨q2, hxq2, hq2⟩ := hcs2.get ec2
      have ic2 : IsC T i (cs2[j2]'(by omega)) := all2 _ (List.getElem_mem _)
      generalize cs2[j2]'(by omega) = d at *
      have hq5 := s5 _ _ (s4 _ _ hq)
      refine ⟨R2, rfl, _, .inl hR2, by rw [List.length_map]; omega, R2, rfl, _, hR2, .ref q2, ?_, R2, rfl, _, .inl hR2, by rw [List.length_map]; omega, lg2, by decide, fun p np => ⟨q, rfl, q2, rfl, (c.1, c.2), (Same.new np) _ _ hq5, (d.1, d.2), (Same.new np) _ _ hq2, fun l zs nl hzs => ⟨⟨_, .inl (.inl ad_)⟩, ?_⟩⟩⟩
      ·rw [hj2]
       refine b9_ (by omega) ?_
       rw [Int.toNat_natCast, List.getElem?_map, hxq2]
       rfl
      obtain ⟨r1, r2, a1, a2, ez, g1, g2, i1, i2⟩ : ∃ (r1 r2 : Addr) (a1 a2 : Nat × Nat), zs = [V.ref r1, V.ref r2] ∧ H5 r1 = some (cV a1) ∧ H5 r2 = some (cV a2) ∧ IsC T i a1 ∧ IsC T i a2 := by
       rcases hzs with e | e
       ·exact ⟨q, q2, c, d, e, hq5, hq2, ic, ic2⟩
       ·exact ⟨q2, q, d, c, e, hq2, hq5, ic2, ic⟩
      have S6 : Same H5 (upd (upd H5 p (HO.lst [V.ref q, V.ref q2])) l (HO.lst zs)) := (Same.new np).trans (Same.new nl)
      have hT6 := ((hT3.mono s4).mono s5).mono S6
      have s6 : Same H (upd (upd H5 p (HO.lst [V.ref q, V.ref q2])) l (HO.lst zs)) := s23.trans (s4.trans (s5.trans S6))
      have hl6 := ad_ (H := upd H5 p (HO.lst [V.ref q, V.ref q2])) (a := l) (o := HO.lst zs)
      have h61 := S6 _ _ g1
      have h62 := S6 _ _ g2
      have lT : l ∉ as_ := fun z => by
       obtain ⟨p', hp', e⟩ := List.mem_iff_getElem.mp z
       have e2 := ((hT3.mono s4).mono s5).tn.row p' l (by rw [List.getElem?_eq_getElem hp', e])
       have e3 := (Same.new np (o := HO.lst [V.ref q, V.ref q2])) _ _ e2
       rw [nl] at e3
       cases e3
      generalize upd (upd H5 p (HO.lst [V.ref q, V.ref q2])) l (HO.lst zs) = H6 at *
      have notT : ∀ r a, H6 r = some (cV a) → r ∉ as_ := fun r a hr z => by
       obtain ⟨p', hp', e⟩ := List.mem_iff_getElem.mp z
       have e2 := hT6.tn.row p' r (by rw [List.getElem?_eq_getElem hp', e])
       rw [hr] at e2
       cases e2
      subst ez
      have step : ∀ (T' : List (List Nat)) (a : Nat × Nat) (H7 : Hp), T'.length = T.length → (∀ p, rl T p ≤ rl T' p) → (∀ p, rl T' p ≤ 40) → IsC T i a → To H H7 D as_ T' → Same H H7 → ∃ ad, atI (as_.map V.ref) (a.1 : Int) = some (.ref ad) ∧ H7 ad = some (.lst ((T'.getD a.1 []).map fun n : Nat => V.int n)) ∧ (a.2 : Nat) ≤ (T'.getD a.1 []).length ∧ (T'.getD a.1 []).length < 1000 ∧ ad ∈ as_ ∧ To H (upd H7 ad (.lst ((RimT.ins (T'.getD a.1 []) a.2 v).map fun n : Nat => V.int n))) D as_ (insAt T' a v) ∧ Same H (upd H7 ad (.lst ((RimT.ins (T'.getD a.1 []) a.2 v).map fun n : Nat => V.int n))) := fun T' a H7 hl hm h40 ia hT7 s7 => by
       obtain ⟨ad, ea, at0, ra⟩ := hT7.tn.at_ (p := a.1) (by rw [hl]; exact ia.1)
       have := ia.2
       have m1 := hm a.1
       have m2 := h40 a.1
       have ab : a.2 ≤ rl T a.1 := by split at this <;> omega
       refine ⟨ad, at0, ra, by unfold rl at *; omega, by unfold rl at *; omega, List.mem_of_getElem? ea, hT7.ins ea v, fun b o hb => ?_⟩
       rw [ai_ (ag_ hb (hT7.fa ad (List.mem_of_getElem? ea)))]
       exact s7 _ _ hb
      have lenS : ∀ (T' : List (List Nat)) (a : Nat × Nat) (p : Nat), rl (insAt T' a v) p ≤ rl T' p + 1 := fun T' a p => by
       unfold insAt rl
       rw [List.getD_eq_getElem?_getD, List.getD_eq_getElem?_getD, List.getElem?_set]
       by_cases h : a.1 = p
       ·subst h
        by_cases h2 : a.1 < T'.length
        ·simp only [if_true, h2, Option.getD_some, fE_]
         rw [List.getD_eq_getElem?_getD]
         exact Nat.le_refl _
        ·simp [h2, List.getElem?_eq_none (Nat.not_lt.mp h2)]
       ·simp [h]
      refine lG_ (xs := [V.ref r1, V.ref r2]) (fun t σ H7 => ∃ (e11 e12 : Option V), σ = [some (.int (y / ((xs2.map V.ref).length : Int))), some (.int i), some (.int W), some (.int 10), some (.ref D), some (.int (0 + (v : Nat))), some (.ref R), some (.ref q), some (.int (z / (vs.length : Int) % 3)), some (.ref R2), some (.ref q2), e11, e12] ∧ Same H H7 ∧ (∀ b o, b ∉ as_ → H6 b = some o → H7 b = some o) ∧ To H H7 D as_ (if t = 0 then T else if t = 1 then insAt T a1 v else insAt (insAt T a1 v) a2 v)) ⟨e11, e12, rfl, s6, fun b o _ h => h, hT6⟩ ?_ ?_ ?_
      ·rintro t σ H7 ht ⟨e11, e12, rfl, s7, k7, hT7⟩
       exact .inl (.inl (k7 _ _ lT hl6))
      ·rintro t x σ H7 hx ⟨e11, e12, rfl, s7, k7, hT7⟩
       match t, hx with
       | 0, hx =>
        cases hx
        have hr1 := k7 _ _ (notT _ _ h61) h61
        obtain ⟨ad, at0, ra, ab, a1000, ain, hT8, s8⟩ := step T a1 H7 rfl (fun _ => Nat.le_refl _) (fun p => by have := rl30 p; omega) i1 hT7 s7
        walk_at "rd"
        refine ⟨_, SqT.of hr1, rfl, _, _, rfl, _, _, rfl, rfl, _, _, rfl, hT7.tn.top, .ref ad, at0, .inl ⟨_, .inl (.inl ra)⟩, ad, rfl, _, _, rfl, ra, by omega, by rw [List.length_map, Int.toNat_natCast]; exact ab, by rw [List.length_map]; exact a1000, ?_⟩
        rw [Int.toNat_natCast, jX_]
        exact ⟨s8, fun b o hb h => by rw [ai_ (fun e => hb (by rw [e]; exact ain))]; exact k7 b o hb h, hT8⟩
       | 1, hx =>
        cases hx
        have hr2 := k7 _ _ (notT _ _ h62) h62
        obtain ⟨ad, at0, ra, ab, a1000, ain, hT8, s8⟩ := step (insAt T a1 v) a2 H7 (aK_ ..) (fun p => gy_ v p) (fun p => by have := rl30 p; have := lenS T a1 p; omega) i2 hT7 s7
        walk_at "rd"
        refine ⟨_, SqT.of hr2, rfl, _, _, rfl, _, _, rfl, rfl, _, _, rfl, hT7.tn.top, .ref ad, at0, .inl ⟨_, .inl (.inl ra)⟩, ad, rfl, _, _, rfl, ra, by omega, by rw [List.length_map, Int.toNat_natCast]; exact ab, by rw [List.length_map]; exact a1000, ?_⟩
        rw [Int.toNat_natCast, jX_]
        exact ⟨s8, fun b o hb h => by rw [ai_ (fun e => hb (by rw [e]; exact ain))]; exact k7 b o hb h, hT8⟩
      ·rintro σ H7 ⟨e11, e12, rfl, s7, k7, hT7⟩
       exact ⟨_, _, _, _, _, _, _, _, _, rfl, s7, as_, _, hT7, o4_ gr i1.1 i2.1⟩
    ·rintro σ H2 ⟨z, e5, e6, e7, e8, e9, e10, e11, e12, as_, T, rfl, s2, hT, gr⟩
     walk_at "rd"
     exact ⟨by decide, fun p np => k p D as_ T z _ (s2.trans (Same.new np)) ad_ (hT.mono (Same.new np)) gr⟩
def sgs : List Nat := (Str.ofString "abcdefghijklmnopqrstuvwxyz0123456789").cps.toList
theorem mj_ : sgs.length = 36 := by decide +kernel
theorem pa_ : sgs.Nodup := by decide +kernel
def sg (i : Nat) : Nat := sgs.getD i 0
theorem sg_at {i : Nat} (h : i < 36) : sgs[i]? = some (sg i) := by
 unfold sg
 rw [List.getD_eq_getElem?_getD, List.getElem?_eq_getElem (by rw [mj_]; exact h)]
 rfl
theorem mk_ {i j : Nat} (hi : i < 36) (hj : j < 36) (h : sg i = sg j) : i = j := (List.getElem?_inj (by rw [mj_]; exact hi) pa_).mp (by rw [sg_at hi, sg_at hj, h])
theorem kG_ {z : Int} (h0 : 0 ≤ z) (h1 : z < 36) : atI sgs z = some (sg z.toNat) := b9_ h0 (sg_at (by omega))
def one (c : Nat) : Str := ⟨#[c]⟩
def nmA (hd tl : Str) (fi k : Nat) : Str := hd ++ one (sg ((fi + 7 * k) % 36)) ++ tl
theorem gB_ (a b : Str) : (a ++ b).cps.toList = a.cps.toList ++ b.cps.toList := by
 show (a.cps ++ b.cps).toList = _
 simp
theorem or_ {hd tl : Str} {fi a b : Nat} (ha : a < 16) (hb : b < 16) (h : nmA hd tl fi a = nmA hd tl fi b) : a = b := by
 have e := congrArg (fun s : Str => s.cps.toList) h
 simp only [nmA, gB_] at e
 have e2 := List.append_cancel_right e
 have e3 := List.append_cancel_left e2
 have e4 : sg ((fi + 7 * a) % 36) = sg ((fi + 7 * b) % 36) := (List.cons.inj e3).1
 have := mk_ (Nat.mod_lt _ (by decide)) (Nat.mod_lt _ (by decide)) e4
 omega
def rep (c m : Nat) : List Nat := List.replicate m c
def nmB (fi k : Nat) : Str := ⟨(List.replicate (1 + k % 7) (sg fi) ++ if 6 < k then [sg ((fi + 1 + k / 7) % 36)] else []).toArray⟩
theorem os_ {fi a b : Nat} (hf : fi < 36) (ha : a < 16) (hb : b < 16) (h : nmB fi a = nmB fi b) : a = b := by
 have e0 := congrArg (fun s : Str => s.cps.toList) h
 have e : List.replicate (1 + a % 7) (sg fi) ++ (if 6 < a then [sg ((fi + 1 + a / 7) % 36)] else []) = List.replicate (1 + b % 7) (sg fi) ++ (if 6 < b then [sg ((fi + 1 + b / 7) % 36)] else []) := by simpa [nmB] using e0
 have ne : ∀ c, 6 < c → c < 16 → sg ((fi + 1 + c / 7) % 36) ≠ sg fi := fun c h1 h2 z => by
  have := mk_ (Nat.mod_lt _ (by decide)) hf z
  omega
 have len := congrArg List.length e
 simp only [List.length_append, List.length_replicate] at len
 have last := congrArg List.getLast? e
 by_cases h1 : 6 < a <;> by_cases h2 : 6 < b
 ·rw [if_pos h1, if_pos h2] at last len
  rw [List.getLast?_append, List.getLast?_append] at last
  have e4 : sg ((fi + 1 + a / 7) % 36) = sg ((fi + 1 + b / 7) % 36) := by simpa using last
  have := mk_ (Nat.mod_lt _ (by decide)) (Nat.mod_lt _ (by decide)) e4
  simp at len
  omega
 ·rw [if_pos h1, if_neg h2] at last
  rw [List.getLast?_append, List.append_nil, Nat.add_comm 1 (b % 7), List.replicate_succ', List.getLast?_append] at last
  exact absurd (by simpa using last) (ne a h1 ha)
 ·rw [if_neg h1, if_pos h2] at last
  rw [List.append_nil, Nat.add_comm 1 (a % 7), List.replicate_succ', List.getLast?_append, List.getLast?_append] at last
  exact absurd (by simpa using last.symm) (ne b h2 hb)
 ·rw [if_neg h1, if_neg h2] at len
  simp at len
  omega
theorem kH_ {f : Nat → Str} {n : Nat} (h : ∀ a b, a < n → b < n → f a = f b → a = b) : ((List.range n).map f).Nodup := by
 unfold List.Nodup
 rw [List.pairwise_map]
 exact List.Pairwise.imp_of_mem (fun {a b} ha hb ne e => ne (h a b (List.mem_range.mp ha) (List.mem_range.mp hb) e)) List.nodup_range
theorem mul_one {c : Nat} : ∀ m : Nat, 1 ≤ m → m ≤ 7 → MulOk (one c) (m : Int) ∧ Txt.mul (one c) (m : Int) = ⟨(List.replicate m c).toArray⟩
 | 0, h, _ => absurd h (by decide)
 | 1, _, _ => ⟨⟨by decide, fun _ h => absurd h (by simp), fun _ h => absurd h (by simp)⟩, rfl⟩
 | 2, _, _ => ⟨⟨by decide, fun _ _ => (by show ¬ ((1 : Int) > _); decide), fun _ _ => (by show Builtin.Str.tooLong 2 = false; decide +kernel)⟩, rfl⟩
 | 3, _, _ => ⟨⟨by decide, fun _ _ => (by show ¬ ((1 : Int) > _); decide), fun _ _ => (by show Builtin.Str.tooLong 3 = false; decide +kernel)⟩, rfl⟩
 | 4, _, _ => ⟨⟨by decide, fun _ _ => (by show ¬ ((1 : Int) > _); decide), fun _ _ => (by show Builtin.Str.tooLong 4 = false; decide +kernel)⟩, rfl⟩
 | 5, _, _ => ⟨⟨by decide, fun _ _ => (by show ¬ ((1 : Int) > _); decide), fun _ _ => (by show Builtin.Str.tooLong 5 = false; decide +kernel)⟩, rfl⟩
 | 6, _, _ => ⟨⟨by decide, fun _ _ => (by show ¬ ((1 : Int) > _); decide), fun _ _ => (by show Builtin.Str.tooLong 6 = false; decide +kernel)⟩, rfl⟩
 | 7, _, _ => ⟨⟨by decide, fun _ _ => (by show ¬ ((1 : Int) > _); decide), fun _ _ => (by show Builtin.Str.tooLong 7 = false; decide +kernel)⟩, rfl⟩
 | m + 8, _, h => absurd h (by omega)
def opt (x : Str) (b : Bool) : Str := if b then x else Str.empty
theorem ot_ (x : Str) (p : Prop) [Decidable p] : MulOk x (if p then 1 else 0) ∧ Txt.mul x (if p then 1 else 0) = opt x (decide p) := by
 by_cases h : p
 ·rw [if_pos h, show decide p = true from decide_eq_true h]
  exact ⟨⟨by decide, fun _ h => absurd h (by simp), fun _ h => absurd h (by simp)⟩, rfl⟩
 ·rw [if_neg h, show decide p = false from decide_eq_false h]
  exact ⟨⟨by decide, fun h => absurd (by decide) h, fun h => absurd (by decide) h⟩, rfl⟩
theorem pb_ (fi k : Nat) : (⟨(List.replicate (1 + k % 7) (sg fi)).toArray⟩ : Str) ++ opt (one (sg ((fi + 1 + k / 7) % 36))) (decide (6 < k)) = nmB fi k := by
 unfold nmB opt
 by_cases h : 6 < k
 ·rw [if_pos (decide_eq_true h), if_pos h]
  show (⟨(List.replicate (1 + k % 7) (sg fi)).toArray ++ [sg ((fi + 1 + k / 7) % 36)].toArray⟩ : Str) = _
  rw [List.append_toArray]
 ·rw [if_neg (by simp [h]), if_neg h]
  show (⟨_ ++ #[]⟩ : Str) = _
  simp
theorem aP_ {H : Hp} : ∀ (ts : List Str), Reps H (ts.map V.str) (ts.map Dt.str)
 | [] => rfl
 | t :: ts => ⟨_, _, rfl, rfl, aP_ ts⟩
theorem b5_ {H : Hp} : ∀ {us : List V} {ts : List Str}, Reps H us (ts.map Dt.str) → us = ts.map V.str
 | us, [], h => h
 | us, n :: ns, ⟨x, r, e, hx, hr⟩ => by
  cases hx
  rw [e, b5_ hr]
  rfl
theorem kI_ {B H : Hp} {D : Addr} {ts : List Str} (hB : B D = none) (h : H D = some (.lst (ts.map V.str))) : Rep (newH B H) (.ref D) (.lst (ts.map Dt.str)) := ⟨D, _, rfl, by rw [ck_ hB]; exact h, aP_ ts⟩
def NameOk (x : Str) : Prop := 1 ≤ x.length ∧ x.length ≤ 8 ∧ ∀ c ∈ x.cps.toList, c ∈ sgs
theorem sg_in (i : Nat) (h : i < 36) : sg i ∈ sgs := List.mem_of_getElem? (sg_at h)
theorem pc_ {hd tl : Str} {fi k sp size : Nat} (hl : hd.length = sp) (tl1 : tl.length + sp + 1 = size) (s8 : size ≤ 8) (hh : ∀ c ∈ hd.cps.toList, c ∈ sgs) (ht : ∀ c ∈ tl.cps.toList, c ∈ sgs) : NameOk (nmA hd tl fi k) := by
 have e : (nmA hd tl fi k).length = hd.length + 1 + tl.length := by
  unfold nmA
  rw [dC_, dC_]
  rfl
 refine ⟨by omega, by omega, fun c hc => ?_⟩
 unfold nmA at hc
 rw [gB_, gB_] at hc
 rcases List.mem_append.mp hc with hc | hc
 ·rcases List.mem_append.mp hc with hc | hc
  ·exact hh c hc
  ·rw [List.mem_singleton.mp (show c ∈ [sg ((fi + 7 * k) % 36)] from hc)]
   exact sg_in _ (Nat.mod_lt _ (by decide))
 ·exact ht c hc
theorem pd_ {fi k : Nat} (hf : fi < 36) (hk : k < 16) : NameOk (nmB fi k) := by
 have e : (nmB fi k).length = 1 + k % 7 + if 6 < k then 1 else 0 := by
  unfold nmB
  show (List.toArray _).size = _
  rw [List.size_toArray, List.length_append, List.length_replicate]
  split <;> rfl
 refine ⟨by omega, by split at e <;> omega, fun c hc => ?_⟩
 have hc' : c = sg fi ∨ 6 < k ∧ c = sg ((fi + 1 + k / 7) % 36) := by simpa [nmB] using hc
 rcases hc' with e | ⟨_, e⟩
 ·rw [e]
  exact sg_in _ hf
 ·rw [e]
  exact sg_in _ (Nat.mod_lt _ (by decide))
abbrev s_Lnames : Stmt := stN 46
theorem aQ_ : FnScope ["_law_big_here", "_law_many", "_law_signs", "_law_size", "_law_spot", "_law_word", "_law_rest", "_law_k", "_law_first", "_law_head", "_law_tail", "_law_names_here", "_law_more"] ["_law_big_here", "_law_many"] (defScope s_Lnames) := ⟨rfl, rfl, rfl, by decide +kernel, rfl, by decide +kernel, by decide +kernel⟩
theorem e0_ : LK s_Lnames "_law_big_here" .local := by decide +kernel
theorem hd_ : LK s_Lnames "_law_many" .local := by decide +kernel
theorem dL_ : LK s_Lnames "_law_signs" .cell := by decide +kernel
theorem e1_ : LK s_Lnames "_law_size" .local := by decide +kernel
theorem e2_ : LK s_Lnames "_law_spot" .local := by decide +kernel
theorem cK_ : LK s_Lnames "_law_word" .local := by decide +kernel
theorem bV_ : LK s_Lnames "_law_rest" .local := by decide +kernel
theorem cL_ : LK s_Lnames "_law_k" .local := by decide +kernel
theorem e3_ : LK s_Lnames "_law_first" .cell := by decide +kernel
theorem j0_ : LK s_Lnames "_law_head" .cell := by decide +kernel
theorem jf_ : LK s_Lnames "_law_tail" .cell := by decide +kernel
theorem c1_ : LK s_Lnames "_law_names_here" .local := by decide +kernel
theorem f9_ : LK s_Lnames "_law_more" .local := by decide +kernel
theorem if_ : LK s_Lnames "int" .globalImplicit := by decide +kernel
theorem cM_ : LK s_Lnames "range" .globalImplicit := by decide +kernel
def sp_names : Sp := fun vs H Q _ => ∃ (z : Int) (n : Nat), vs = [.int z, .int n] ∧ n ≤ 16 ∧ ∀ D (nms : List Str) H', Same H H' → Rep (newH H H') (.ref D) (.lst (nms.map Dt.str)) → nms.length = n → nms.Nodup → (∀ x ∈ nms, NameOk x) → Q (.ref D) H'
theorem ml_ (T : Txt K mg) (F : Fn0 K mg "_law_names" s_Lnames) : Cal P w K mg base "_law_names" ["_law_big_here", "_law_many"] 1 sp_names := by
 refine aW_ F aQ_ (fun _ _ _ _ _ _ us hl => match us, hl with | [_, _], _ => rfl) ?len ?body
 case len => rintro vs H Q E ⟨a, b, rfl, _⟩; rfl
 case body =>
  intro f cdv A outer s H vs Q E hr h
  obtain ⟨z, n, rfl, n16, k⟩ := h
  refine' ⟨_, ?D, ?R⟩
  case D =>
   refine' aa_ ?g1 ?g2
   case' g1 => refine' hZ_ (i := 2) aQ_.nd rfl dL_ rfl aF_ rfl
   case' g2 => refine' aa_ ?g4 ?g5
   case' g4 => refine' af_ (i := 3) aQ_.nd rfl e1_ ?g6
   case' g6 => refine' pe_op aM_ ac_ ?g8
   case' g8 => refine' pe_op aw_ (pv1 0 rfl e0_) ac_
   case' g5 => refine' aa_ ?g11 ?g12
   case' g11 => refine' af_ (i := 4) aQ_.nd rfl e2_ ?g13
   case' g13 => refine' pe_op aw_ ?g14 (pv1 3 rfl e1_)
   case' g14 => refine' pe_op an_ (pv1 0 rfl e0_) ac_
   case' g12 => refine' aa_ ?g18 ?g19
   case' g18 => refine' af_ (i := 5) aQ_.nd rfl cK_ aF_
   case' g19 => refine' aa_ ?g21 ?g22
   case' g21 => refine' af_ (i := 6) aQ_.nd rfl bV_ ?g23
   case' g23 => refine' pe_op an_ (pv1 0 rfl e0_) ac_
   case' g22 => refine' aa_ ?g26 ?g27
   case' g26 => refine' cB_ PassesOwn.never rfl ?g28 ?g29 ?g30
   case' g28 => refine' bg_ cM_ T.n_range ?g31
   case' g31 => refine' pa_c (pv1 3 rfl e1_) ab_
   case g29 => exact aj_ (i := 7) aQ_.nd rfl cL_
   case' g30 => refine' aa_ ?g34 ?g35
   case' g34 => refine' af_ (i := 5) aQ_.nd rfl cK_ ?g36
   case' g36 => refine' pe_op bl_ (pv1 5 rfl cK_) ?g38
   case' g38 => refine' pe_ix gJ_ (pvc 2 rfl dL_) ?g40 (fun _ _ => rfl)
   case' g40 => refine' pe_op aw_ (pv1 6 rfl bV_) ac_
   case' g35 => refine' ae_ ?g43
   case' g43 => refine' af_ (i := 6) aQ_.nd rfl bV_ ?g44
   case' g44 => refine' pe_op an_ (pv1 6 rfl bV_) ac_
   case' g27 => refine' aa_ ?g47 ?g48
   case' g47 => refine' hZ_ (i := 8) aQ_.nd rfl e3_ rfl ?g49 rfl
   case' g49 => refine' pe_op aw_ (pv1 6 rfl bV_) ac_
   case' g48 => refine' aa_ ?g52 ?g53
   case' g52 => refine' fd_ ?g54 ?g55
   case' g54 => refine' aO_ ?g56
   case' g56 => refine' pa_c ?g57 ?g58
   case' g57 => refine' aL_ db_ (pv1 5 rfl cK_) ?g60 ?g61
   case g60 => exact a2_
   case' g61 => refine' aV_ (pv1 4 rfl e2_)
   case' g58 => refine' pa_c ?g63 ab_
   case' g63 => refine' aL_ db_ (pv1 5 rfl cK_) ?g66 ?g67
   case' g66 => refine' aV_ ?g68
   case' g68 => refine' pe_op aM_ (pv1 4 rfl e2_) ac_
   case g67 => exact a2_
   case' g55 => refine' bS_ (K := K) (n := 2) rfl rfl ?g71
   case' g71 => refine' aB_ ?g72 ?g73
   case g72 => exact h0_ (i := 9) aQ_.nd rfl j0_ rfl
   case' g73 => refine' aB_ ?g74 bQ_
   case g74 => exact h0_ (i := 10) aQ_.nd rfl jf_ rfl
   case' g53 => refine' aa_ ?g76 ?g77
   case' g76 => refine' eT_ (i := 11) (N' := ["_law_k", "_law_head", "_law_signs", "_law_first", "_law_tail"]) (ix := [none, some 9, some 2, some 8, some 10]) rfl rfl aQ_.nd rfl c1_ rfl (bN_ ?g78) ?g79 (fun _ _ _ => ?g80) (fun _ _ _ => ?g81) (fun _ _ _ => ?g82)
   case g78 => exact (by show scpB (defScope s_Lnames) ["_law_big_here", "_law_many", "_law_signs", "_law_size", "_law_spot", "_law_word", "_law_rest", "_law_k", "_law_first", "_law_head", "_law_tail", "_law_names_here", "_law_more"] _ _ _ = true; decide +kernel)
   case' g79 => refine' bg_ cM_ T.n_range ?g83
   case' g83 => refine' pa_c (pv1 1 rfl hd_) ab_
   case g80 => exact aj_ (i := 0) (by show List.Nodup (["_law_k", "_law_head", "_law_signs", "_law_first", "_law_tail"] : List Str); decide +kernel) rfl rfl
   case g81 => exact c0_
   case' g82 => refine' pe_op bl_ ?g86 (pvc 4 rfl rfl)
   case' g86 => refine' pe_op bl_ (pvc 1 rfl rfl) ?g89
   case' g89 => refine' pe_ix gJ_ (pvc 2 rfl rfl) ?g91 (fun _ _ => rfl)
   case' g91 => refine' pe_op aw_ ?g92 ac_
   case' g92 => refine' pe_op aM_ (pvc 3 rfl rfl) ?g95
   case' g95 => refine' pe_op iB_ ac_ (pv1 0 rfl rfl)
   case' g77 => refine' aa_ ?g98 ?g99
   case' g98 => refine' ps_if ?g100 ?g101 ar_
   case' g100 => refine' ak_ op_eq ?g103 ac_ (nomark _)
   case' g103 => refine' pe_op aw_ ?g105 ac_
   case' g105 => refine' pe_op an_ (pv1 6 rfl bV_) ac_
   case' g101 => refine' aa_ ?g109 ?g110
   case' g109 => refine' af_ (i := 11) aQ_.nd rfl c1_ ?g111
   case' g111 => refine' bh_ ab_
   case' g110 => refine' ae_ ?g113
   case' g113 => refine' cB_ PassesOwn.never rfl ?g114 ?g115 ?g116
   case' g114 => refine' bg_ cM_ T.n_range ?g117
   case' g117 => refine' pa_c (pv1 1 rfl hd_) ab_
   case g115 => exact aj_ (i := 7) aQ_.nd rfl cL_
   case' g116 => refine' aa_ ?g120 ?g121
   case' g120 => refine' af_ (i := 12) aQ_.nd rfl f9_ ?g122
   case' g122 => refine' pe_ix gJ_ (pvc 2 rfl dL_) ?g124 (fun _ _ => rfl)
   case' g124 => refine' pe_op aw_ ?g125 ac_
   case' g125 => refine' pe_op aM_ ?g127 ?g128
   case' g127 => refine' pe_op aM_ (pvc 8 rfl e3_) ac_
   case' g128 => refine' pe_op an_ (pv1 7 rfl cL_) ac_
   case' g121 => refine' ae_ ?g133
   case' g133 => refine' aZ_ ?g134
   case' g134 => refine' pe_bm PySem.F.plainAttrs_list PySem.F.slot_list_append PySem.F.type_list_append bi_ (pv1 11 rfl c1_) ?g136
   case' g136 => refine' pa_c ?g137 ab_
   case' g137 => refine' pe_op bl_ ?g139 ?g140
   case' g139 => refine' pe_op hN_ ?g141 ?g142
   case' g141 => refine' pe_ix gJ_ (pvc 2 rfl dL_) (pvc 8 rfl e3_) (fun _ _ => rfl)
   case' g142 => refine' pe_op aM_ ac_ ?g146
   case' g146 => refine' pe_op aw_ (pv1 7 rfl cL_) ac_
   case' g140 => refine' pe_op hN_ (pv1 12 rfl f9_) ?g150
   case' g150 => refine' dA_ iF_ if_ T.n_int hJ_ ?g151
   case' g151 => refine' pa_c ?g152 ab_
   case' g152 => refine' c9_ op_gt (pv1 7 rfl cL_) ac_ (nomark _)
   case' g99 => refine' ae_ ?g156
   case' g156 => refine' ao_ (pv1 11 rfl c1_)
  case R =>
   walk_at "rd"
   have m8 := Int.emod_nonneg z (show (8 : Int) ≠ 0 by decide)
   have l8 := Int.emod_lt_of_pos z (show (0 : Int) < 8 by decide)
   refine ⟨by decide, by decide, by decide +kernel, by omega, by decide, by decide +kernel, by omega, by omega, ?_⟩
   have sz : 100000 ≤ sizeLine := by rw [sizeLine_eq]; decide
   have sl : (Str.ofString "abcdefghijklmnopqrstuvwxyz0123456789").length ≤ sizeLine := Nat.le_trans (by decide +kernel) sz
   have e1 : ∀ c, (one c).length = 1 := fun _ => rfl
   obtain ⟨spn, hsp, spl⟩ : ∃ m : Nat, z / 8 % (1 + z % 8) = m ∧ m < (1 + z % 8).toNat := by
    have a1 := Int.emod_nonneg (z / 8) (show (1 + z % 8 : Int) ≠ 0 by omega)
    have a2 := Int.emod_lt_of_pos (z / 8) (show (0 : Int) < 1 + z % 8 by omega)
    exact ⟨(z / 8 % (1 + z % 8)).toNat, by omega, by omega⟩
   rw [hsp]
   obtain ⟨size, hsize, s8⟩ : ∃ m : Nat, (1 + z % 8).toNat = m ∧ m ≤ 8 := ⟨_, rfl, by omega⟩
   rw [hsize] at spl
   rw [hsize]
   generalize hz8 : 1 + z % 8 = z8
   generalize z / 64 = r0
   refine cr_ (fun i σ H' => ∃ (word : Str) (rest : Int) (e7 : Option V), σ = [some (.int z), some (.int n), some (.str (Str.ofString "abcdefghijklmnopqrstuvwxyz0123456789")), some (.int z8), some (.int spn), some (.str word), some (.int rest), e7, none, none, none, none, none] ∧ H' = H ∧ word.length = i ∧ ∀ c ∈ word.cps.toList, c ∈ sgs) ⟨_, r0, none, rfl, rfl, by decide +kernel, by decide +kernel⟩ ?_ ?_
   ·rintro i σ H' hi ⟨word, rest, e7, rfl, rfl, wl, win⟩
    have hi' : i < size := hi
    walk_at "rd"
    have m36 := Int.emod_nonneg rest (show (36 : Int) ≠ 0 by decide)
    have l36 := Int.emod_lt_of_pos rest (show (0 : Int) < 36 by decide)
    refine ⟨by decide, sl, _, kG_ m36 l36, ?_⟩
    have e2 : (⟨#[sg (rest % 36).toNat]⟩ : Str).length = 1 := rfl
    refine ⟨by omega, by decide, by decide +kernel, by rw [dC_]; omega, fun c hc => ?_⟩
    rw [gB_] at hc
    rcases List.mem_append.mp hc with hc | hc
    ·exact win c hc
    ·rw [List.mem_singleton.mp (show c ∈ [sg (rest % 36).toNat] from hc)]
     exact sg_in _ (by omega)
   ·rintro σ H' ⟨word, rest, e7, rfl, rfl, wl, win⟩
    walk_at "rd"
    have ch := dD_ (z := word) (lo := none) (hi := some (spn : Int)) (a := 0) (b := spn) (Nat.zero_le _) (by omega) (.inr ⟨rfl, rfl⟩) (.inl rfl)
    have ct := dD_ (z := word) (lo := some ((spn : Int) + 1)) (hi := none) (a := spn + 1) (b := word.length) (by omega) (Nat.le_refl _) (.inl (by rw [Int.natCast_add]; rfl)) (.inr ⟨rfl, rfl⟩)
    refine ⟨by decide, by omega, by omega, by decide, fun p np => ⟨_, SqT.of ad_, rfl, _, _, rfl, _, _, rfl, rfl, by omega, by omega, ?_⟩⟩
    generalize Txt.slice word none (some (spn : Int)) = hd at *
    generalize Txt.slice word (some ((spn : Int) + 1)) none = tl at *
    have hl : hd.length = spn := by rw [← ax_, ch, List.drop_zero, List.length_take, ax_]; omega
    have tl' : tl.length + spn + 1 = size := by rw [← ax_, ct, List.length_take, List.length_drop, ax_]; omega
    have hin : ∀ c ∈ hd.cps.toList, c ∈ sgs := fun c hc => win c (by
     rw [show hd.cps.toList = _ from ch, List.drop_zero] at hc
     exact List.mem_of_mem_take hc)
    have tin : ∀ c ∈ tl.cps.toList, c ∈ sgs := fun c hc => win c (by
     rw [show tl.cps.toList = _ from ct] at hc
     exact List.mem_of_mem_drop (List.mem_of_mem_take hc))
    clear ch ct
    have S1 : Same H' (upd H' p (HO.tup [V.str hd, V.str tl])) := Same.new np
    generalize upd H' p (HO.tup [V.str hd, V.str tl]) = H1 at *
    obtain ⟨fi, hfi, fi36⟩ : ∃ fi : Nat, rest % 36 = fi ∧ fi < 36 := by
     have a1 := Int.emod_nonneg rest (show (36 : Int) ≠ 0 by decide)
     have a2 := Int.emod_lt_of_pos rest (show (0 : Int) < 36 by decide)
     exact ⟨(rest % 36).toNat, by omega, by omega⟩
    rw [hfi, show Int.toNat (n : Int) = n by omega]
    refine b1_ (n := n) (B := fun _ => none) (Pσ := fun σ => ∃ e, σ = [e, some (.str hd), some (.str (Str.ofString "abcdefghijklmnopqrstuvwxyz0123456789")), some (.int fi), some (.str tl)]) (ds := ((List.range n).map (nmA hd tl fi)).map Dt.str) (fun b o e => by cases e) ⟨_, rfl⟩ (by simp) (by omega) (fun j H2 hj s2 => hj) (fun H2 s2 => Nat.le_refl _) ?_ ?_
    ·rintro D i x d σ' H2 H2' hD hDo hs2 hi hdi ⟨rfl, rfl⟩ ⟨e, rfl⟩ R kR
     walk_at "rd"
     have hi' : i < n := hi
     have hd2 : d = Dt.str (nmA hd tl fi i) := by
      rw [List.getElem?_map, List.getElem?_map, List.getElem?_range hi'] at hdi
      exact (Option.some.inj hdi).symm
     have eI : ((fi : Int) + 7 * (0 + (i : Nat))) % 36 = (((fi + 7 * i) % 36 : Nat) : Int) := by omega
     have lt36 : (fi + 7 * i) % 36 < 36 := Nat.mod_lt _ (by decide)
     rw [eI]
     refine ⟨.inl ⟨by decide, by decide⟩, by decide, sl, _, kG_ (by omega) (by omega), ?_⟩
     rw [Int.toNat_natCast]
     have e2 : (⟨#[sg ((fi + 7 * i) % 36)]⟩ : Str).length = 1 := rfl
     refine ⟨by omega, by rw [dC_]; omega, ?_⟩
     refine kR _ _ _ ⟨_, rfl⟩ (Same.refl _) ?_
     rw [hd2]
     exact rfl
    ·intro D H2 hD s2 rep2
     refine ⟨by decide, by decide +kernel, by decide, ite2 (fun _ => ?_) (fun _ => ?_)⟩
     ·refine ⟨Nat.zero_le _, fun l nl => ⟨by omega, by omega, ?_⟩⟩
      have nl' : H' l = none := (S1.trans s2).free nl
      refine cr_ (fun i σ H3 => ∃ (e7 e12 : Option V), σ = [some (.int z), some (.int n), some (.str (Str.ofString "abcdefghijklmnopqrstuvwxyz0123456789")), some (.int z8), some (.int spn), some (.str word), some (.int rest), e7, some (.int fi), some (.str hd), some (.str tl), some (.ref l), e12] ∧ Same H' H3 ∧ H3 l = some (.lst (((List.range i).map (nmB fi)).map V.str))) ⟨_, _, rfl, (S1.trans s2).upd nl', ad_⟩ ?_ ?_
      ·rintro i σ H3 hi ⟨e7, e12, rfl, s3, hl3⟩
       have hi' : i < n := hi
       walk_at "rd"
       have eI : ((fi : Int) + 1 + (0 + (i : Nat)) / 7) % 36 = (((fi + 1 + i / 7) % 36 : Nat) : Int) := by omega
       have lt36 : (fi + 1 + i / 7) % 36 < 36 := Nat.mod_lt _ (by decide)
       have eM : (1 : Int) + (0 + (i : Nat)) % 7 = ((1 + i % 7 : Nat) : Int) := by omega
       rw [eI, eM]
       obtain ⟨mo, me⟩ := mul_one (c := sg fi) (1 + i % 7) (by omega) (by omega)
       refine ⟨by decide, by decide +kernel, by decide, sl, _, kG_ (by omega) (by omega), ?_⟩
       refine ⟨.inl ⟨_, .inl (.inl hl3)⟩, sl, _, kG_ (by omega) (by omega), by decide, ?_⟩
       rw [Int.toNat_natCast, Int.toNat_natCast]
       change MulOk (one (sg fi)) _ ∧ _
       refine ⟨mo, .inr ?_⟩
       change MulOk (one (sg ((fi + 1 + i / 7) % 36))) _ ∧ ((Txt.mul (one (sg fi)) _).length + (Txt.mul (one (sg ((fi + 1 + i / 7) % 36))) _).length ≤ sizeLine) ∧ ∃ x, _ ∧ _ ∧ Same H' (upd H3 l (HO.lst (x ++ [V.str (Txt.mul (one (sg fi)) _ ++ Txt.mul (one (sg ((fi + 1 + i / 7) % 36))) _)]))) ∧ x ++ [V.str (Txt.mul (one (sg fi)) _ ++ Txt.mul (one (sg ((fi + 1 + i / 7) % 36))) _)] = _
       obtain ⟨p1, p2⟩ := ot_ (one (sg ((fi + 1 + i / 7) % 36))) (6 < 0 + (i : Int))
       have ln : (⟨(List.replicate (1 + i % 7) (sg fi)).toArray⟩ : Str).length ≤ 7 := by
        show ((List.replicate (1 + i % 7) (sg fi)).toArray).size ≤ 7
        simp
        omega
       have lo : (opt (one (sg ((fi + 1 + i / 7) % 36))) (decide (6 < 0 + (i : Int)))).length ≤ 1 := by
        unfold opt
        split
        ·exact Nat.le_refl _
        ·exact Nat.zero_le _
       rw [me, p2]
       have eD : decide (6 < 0 + (i : Int)) = decide (6 < i) := by apply decide_eq_decide.mpr; omega
       refine ⟨p1, by omega, _, hl3, small1000 (by simp; omega), fun b o hb => ?_, ?_⟩
       ·rw [ai_ (ag_ hb nl')]
        exact s3 _ _ hb
       ·rw [eD, pb_, List.range_succ, List.map_append, List.map_append]
        rfl
      ·rintro σ H3 ⟨e7, e12, rfl, s3, hl3⟩
       walk_at "rd"
       exact k l _ H3 s3 (kI_ nl' hl3) (by simp) (kH_ fun a b ha hb e => os_ fi36 (by omega) (by omega) e) fun x hx => by obtain ⟨k, hk, rfl⟩ := List.mem_map.mp hx; exact pd_ fi36 (by have := List.mem_range.mp hk; omega)
     ·obtain ⟨_, us, e0, hD2, hus⟩ := id rep2
      cases e0
      rw [b5_ hus] at hD2
      exact k D _ H2 (S1.trans s2) (kI_ (S1.free hD) (aJ_ hD2).2) (by simp) (kH_ fun a b ha hb e => or_ (by omega) (by omega) e) fun x hx => by obtain ⟨k, hk, rfl⟩ := List.mem_map.mp hx; exact pc_ hl tl' s8 hin tin
def rot (l : List Nat) (t : Nat) : List Nat := l.drop t ++ l.take t
theorem mm_ (l : List Nat) (t : Nat) : (rot l t).length = l.length := by
 unfold rot
 rw [List.length_append, List.length_drop, List.length_take]
 omega
theorem mn_ (l : List Nat) (t x : Nat) : (rot l t).count x = l.count x := by
 unfold rot
 rw [List.count_append, Nat.add_comm, ← List.count_append, List.take_append_drop]
theorem pe_ {P W p t : Nat} {T : List (List Nat)} (g : Gr P W T) (hp : p < T.length) : Gr P W (T.set p (rot (T.getD p []) t)) := by
 have fc : ∀ x, (T.set p (rot (T.getD p []) t)).flatten.count x = T.flatten.count x := fun x => by
  have := g1_ x (rot (T.getD p []) t) T p hp
  rw [mn_] at this
  omega
 refine ⟨by rw [List.length_set]; exact g.len, by rw [List.length_set]; exact g.most, fun w hw => by rw [fc]; exact g.two w hw, fun w hw => ?_, fun q h1 h2 => ?_, ?_⟩
 ·have := List.count_pos_iff.mpr hw
  rw [fc] at this
  exact g.lt w (List.count_pos_iff.mp this)
 ·rw [List.length_set] at h2
  have := g.ne q h1 h2
  unfold rl at this ⊢
  rw [List.getD_eq_getElem?_getD, List.getElem?_set]
  by_cases e : p = q
  ·subst e
   rw [if_pos rfl, if_pos hp]
   show 0 < (rot (T.getD p []) t).length
   rw [mm_]
   exact this
  ·rw [if_neg e, ← List.getD_eq_getElem?_getD]
   exact this
 ·have := jG_ (rot (T.getD p []) t) T p hp
  rw [mm_, g.tot] at this
  omega
theorem jg_ {a : Addr} : ∀ {l : List Addr} {p : Nat}, a ∉ l → l.Nodup → (l.set p a).Nodup
 | [], _, _, _ => List.nodup_nil
 | x :: l, 0, ha, h => by
  rw [List.set_cons_zero]
  exact List.nodup_cons.mpr ⟨fun z => ha (List.mem_cons_of_mem _ z), (List.nodup_cons.mp h).2⟩
 | x :: l, p + 1, ha, h => by
  rw [List.set_cons_succ]
  refine List.nodup_cons.mpr ⟨fun z => ?_, jg_ (fun z => ha (List.mem_cons_of_mem _ z)) (List.nodup_cons.mp h).2⟩
  rcases List.mem_or_eq_of_mem_set z with z | z
  ·exact (List.nodup_cons.mp h).1 z
  ·exact ha (by rw [z]; exact List.mem_cons_self)
theorem To.put {B H : Hp} {l : Addr} {as_ : List Addr} {T : List (List Nat)} (h : To B H l as_ T) (sB : Same B H) {a : Addr} {p : Nat} (hp : p < T.length) (na : H a = none) (r : List Nat) : To B (upd (upd H a (.lst (r.map fun n : Nat => V.int n))) l (.lst ((as_.set p a).map V.ref))) l (as_.set p a) (T.set p r) := by
 have la : l ≠ a := ag_ h.tn.top na
 have an : a ∉ as_ := fun z => by
  obtain ⟨p, hp, e⟩ := List.mem_iff_getElem.mp z
  have := h.tn.row p a (by rw [List.getElem?_eq_getElem hp, e])
  rw [na] at this
  cases this
 have mem : ∀ b, b ∈ as_.set p a → b = a ∨ b ∈ as_ := fun b hb => List.mem_or_eq_of_mem_set hb |>.symm
 have pl : p < as_.length := by rw [h.tn.len]; exact hp
 refine ⟨⟨ad_, by rw [List.length_set, List.length_set]; exact h.tn.len, fun q b hb => ?_⟩, ?_, fun z => ?_, h.fl, fun b hb => ?_⟩
 ·have bl : b ≠ l := fun e => by
   rcases mem b (List.mem_of_getElem? hb) with z | z
   ·exact la (e.symm.trans z)
   ·exact h.nl (by rw [← e]; exact z)
  rw [ai_ bl, List.getD_eq_getElem?_getD, List.getElem?_set]
  rw [List.getElem?_set] at hb
  by_cases e : p = q
  ·rw [if_pos e, if_pos hp]
   rw [if_pos e, if_pos pl] at hb
   cases hb
   rw [ad_]
   rfl
  ·rw [if_neg e] at hb ⊢
   have e2 := h.tn.row q b hb
   rw [ai_ (fun z => by rw [z, na] at e2; cases e2), e2, List.getD_eq_getElem?_getD]
 ·exact jg_ an h.nd
 ·rcases mem l z with z | z
  ·exact la z
  ·exact h.nl z
 ·rcases mem b hb with z | z
  ·rw [z]; exact sB.free na
  ·exact h.fa b z
abbrev s_Lbegun : Stmt := stN 47
theorem fn_ : FnScope ["_law_turns", "_law_posts", "_law_big_here", "_law_p", "_law_turn"] ["_law_turns", "_law_posts", "_law_big_here"] (defScope s_Lbegun) := ⟨rfl, rfl, rfl, by decide +kernel, rfl, by decide +kernel, by decide +kernel⟩
theorem bB_ : LK s_Lbegun "_law_turns" .local := by decide +kernel
theorem j1_ : LK s_Lbegun "_law_posts" .local := by decide +kernel
theorem e4_ : LK s_Lbegun "_law_big_here" .local := by decide +kernel
theorem bW_ : LK s_Lbegun "_law_p" .local := by decide +kernel
theorem e5_ : LK s_Lbegun "_law_turn" .local := by decide +kernel
theorem dM_ : LK s_Lbegun "len" .globalImplicit := by decide +kernel
theorem he_ : LK s_Lbegun "range" .globalImplicit := by decide +kernel
def sp_begun : Sp := fun vs H Q _ => ∃ (B : Hp) (l : Addr) (as_ : List Addr) (T : List (List Nat)) (P W : Nat) (z : Int), vs = [.ref l, .int P, .int z] ∧ Same B H ∧ To B H l as_ T ∧ Gr P W T ∧ P ≤ 6 ∧ W ≤ 15 ∧
 ∀ bs T' H', Same B H' → (∀ b o, b ≠ l → H b = some o → H' b = some o) → To B H' l bs T' → Gr P W T' → T'.length = T.length → Q (.ref l) H'
theorem mo_ (T : Txt K mg) (F : Fn0 K mg "_law_begun" s_Lbegun) : Cal P w K mg base "_law_begun" ["_law_turns", "_law_posts", "_law_big_here"] 1 sp_begun := by
 refine aW_ F fn_ (fun _ _ _ _ _ _ us hl => match us, hl with | [_, _, _], _ => rfl) ?len ?body
 case len => rintro vs H Q E ⟨a, b, c, d, e, f, g, rfl, _⟩; rfl
 case body =>
  intro f cdv A outer s H vs Q E hr h
  obtain ⟨B, l, as_, Tt, Pp, W, z, rfl, sB, hT, gr, P6, W15, k⟩ := h
  have gl := gr.len
  have gm := gr.most
  refine' ⟨_, ?D, ?R⟩
  case D =>
   refine' aa_ ?g1 ?g2
   case' g1 => refine' cB_ PassesOwn.never rfl ?g3 ?g4 ?g5
   case' g3 => refine' ls_ he_ T.n_range ?g6
   case' g6 => refine' pa_c (pv1 1 rfl j1_) ?g8
   case' g8 => refine' pa_c ?g9 ab_
   case' g9 => refine' ah_ ap_ dM_ T.n_len aG_ ?g11
   case' g11 => refine' pa_c (pv1 0 rfl bB_) ab_
   case g4 => exact aj_ (i := 3) fn_.nd rfl bW_
   case' g5 => refine' aa_ ?g14 ?g15
   case' g14 => refine' af_ (i := 4) fn_.nd rfl e5_ ?g16
   case' g16 => refine' pe_op aw_ (pv1 2 rfl e4_) ?g18
   case' g18 => refine' ah_ ap_ dM_ T.n_len aG_ ?g19
   case' g19 => refine' pa_c ?g20 ab_
   case' g20 => refine' pe_ix am_ (pv1 0 rfl bB_) (pv1 3 rfl bW_) (fun _ _ => rfl)
   case' g15 => refine' aa_ ?g24 ?g25
   case' g24 => refine' af_ (i := 2) fn_.nd rfl e4_ ?g26
   case' g26 => refine' pe_op an_ (pv1 2 rfl e4_) ?g28
   case' g28 => refine' ah_ ap_ dM_ T.n_len aG_ ?g29
   case' g29 => refine' pa_c ?g30 ab_
   case' g30 => refine' pe_ix am_ (pv1 0 rfl bB_) (pv1 3 rfl bW_) (fun _ _ => rfl)
   case' g25 => refine' ae_ ?g34
   case' g34 => refine' fd_ ?g35 (ki_ (pv1 0 rfl bB_) (pv1 3 rfl bW_) gt_)
   case' g35 => refine' pe_op gK_ ?g38 ?g39
   case' g38 => refine' aL_ bw_ ?g40 ?g41 ?g42
   case' g40 => refine' pe_ix am_ (pv1 0 rfl bB_) (pv1 3 rfl bW_) (fun _ _ => rfl)
   case' g41 => refine' aV_ (pv1 4 rfl e5_)
   case g42 => exact a2_
   case' g39 => refine' aL_ bw_ ?g46 ?g47 ?g48
   case' g46 => refine' pe_ix am_ (pv1 0 rfl bB_) (pv1 3 rfl bW_) (fun _ _ => rfl)
   case g47 => exact a2_
   case' g48 => refine' aV_ (pv1 4 rfl e5_)
   case' g2 => refine' ae_ ?g52
   case' g52 => refine' ao_ (pv1 0 rfl bB_)
  case R =>
   walk_at "rd"
   have al := hT.tn.len
   refine ⟨_, .inl hT.tn.top, by omega, by omega, by rw [List.length_map]; omega, by rw [List.length_map]; omega, ?_⟩
   rw [List.length_map, show Int.toNat ((as_.length : Nat) - (Pp : Nat) : Int) = Tt.length - Pp by omega]
   refine cr_ (fun i σ H' => ∃ (z : Int) (e3 e4 : Option V) (bs : List Addr) (T' : List (List Nat)), σ = [some (.ref l), some (.int Pp), some (.int z), e3, e4] ∧ Same B H' ∧ (∀ b o, b ≠ l → H b = some o → H' b = some o) ∧ To B H' l bs T' ∧ Gr Pp W T' ∧ T'.length = Tt.length) ⟨z, none, none, as_, Tt, rfl, sB, fun b o _ h => h, hT, gr, rfl⟩ ?_ ?_
   ·rintro i σ H' hi ⟨z, e3, e4, bs, T', rfl, sB', kp, hT', gr', hl⟩
    have hi' : i < Tt.length - Pp := hi
    obtain ⟨a, ea, at0, ra⟩ := hT'.tn.at_ (p := Pp + i) (by omega)
    have r0 := gr'.ne (Pp + i) (by omega) (by omega)
    have rt : rl T' (Pp + i) ≤ 30 := by
     have := rl_le T' (Pp + i)
     rw [gr'.tot] at this
     omega
    have rle : (T'.getD (Pp + i) []).length = rl T' (Pp + i) := rfl
    have eP : (Pp : Int) + (i : Nat) = ((Pp + i : Nat) : Int) := by omega
    walk_at "rd"
    rw [eP]
    have rdef : T'.getD (Pp + i) [] = T'.getD (Pp + i) [] := rfl
    generalize hr0 : T'.getD (Pp + i) [] = r at *
    obtain ⟨t, ht, tl⟩ : ∃ t : Nat, z % (((r.map fun n : Nat => V.int n).length : Nat) : Int) = t ∧ t < r.length := by
     rw [List.length_map]
     have a1 := Int.emod_nonneg z (show (r.length : Int) ≠ 0 by omega)
     have a2 := Int.emod_lt_of_pos z (show (0 : Int) < (r.length : Int) by omega)
     exact ⟨(z % (r.length : Int)).toNat, by omega, by omega⟩
    have lg : (((r.map fun n : Nat => V.int n).length : Int)).natAbs.log2 < 9000 := by
     rw [List.length_map]
     by_cases h0 : ((r.length : Int)).natAbs = 0
     ·rw [h0]; decide
     ·rw [Nat.log2_lt h0]
      exact Nat.lt_of_le_of_lt (show ((r.length : Int)).natAbs ≤ 1000 by omega) (by decide +kernel)
    have c1 : cutV (r.map fun n : Nat => V.int n) (some (t : Int)) none = (r.drop t).map fun n : Nat => V.int n := by rw [ff_ _ _ (by simp; omega), List.map_drop]
    have c2 : cutV (r.map fun n : Nat => V.int n) none (some (t : Int)) = (r.take t).map fun n : Nat => V.int n := by rw [nA_ _ _ (by simp; omega), List.map_take]
    have top := hT'.tn.top
    refine ⟨_, top, _, at0, a, rfl, _, .inl ra, by rw [List.length_map]; omega, _, top, _, at0, a, rfl, _, .inl ra, by rw [List.length_map]; omega, lg, _, top, _, at0, a, rfl, _, ra, fun p1 n1 => ⟨_, (Same.new n1) _ _ top, _, at0, a, rfl, _, (Same.new n1) _ _ ra, fun p2 n2 => ?_⟩⟩
    rw [ht, c1] at n2 ⊢
    rw [c2]
    have S2 : Same H' (upd (upd H' p1 (HO.lst ((r.drop t).map fun n : Nat => V.int n))) p2 (HO.lst ((r.take t).map fun n : Nat => V.int n))) := (Same.new n1).trans (Same.new n2)
    have h1 := (Same.new n2 (o := HO.lst ((r.take t).map fun n : Nat => V.int n))) _ _ (ad_ (H := H') (a := p1) (o := HO.lst ((r.drop t).map fun n : Nat => V.int n)))
    generalize upd (upd H' p1 (HO.lst ((r.drop t).map fun n : Nat => V.int n))) p2 (HO.lst ((r.take t).map fun n : Nat => V.int n)) = H2 at *
    refine ⟨_, h1, by rw [List.length_map, List.length_map]; exact Nat.le_trans (show _ ≤ 1000 by rw [List.length_drop, List.length_take]; omega) (by rw [sizeLine_eq]; decide), fun p3 n3 => ?_⟩
    have e3 : ((r.drop t).map fun n : Nat => V.int n) ++ ((r.take t).map fun n : Nat => V.int n) = (rot r t).map fun n : Nat => V.int n := by rw [← List.map_append]; rfl
    rw [e3]
    have hT2 := (hT'.mono S2).put (sB'.trans S2) (p := Pp + i) (by omega) n3 (rot r t)
    rw [List.map_set] at hT2
    have lp : l ≠ p3 := ag_ (S2 _ _ top) n3
    refine ⟨_, by rw [ai_ lp]; exact S2 _ _ top, Pp + i, ?_, fun b o hb => ?_, fun b o hb h => ?_, bs.set (Pp + i) p3, T'.set (Pp + i) (rot r t), hT2, ?_, by rw [List.length_set]; exact hl⟩
    ·have bl := hT'.tn.len
     unfold ixN
     rw [List.length_map]
     rw [if_pos (by omega), if_pos (by omega), Int.toNat_natCast]
    ·rw [ai_ (ag_ hb hT.fl), ai_ (ag_ hb ((sB'.trans S2).free n3))]
     exact S2 _ _ (sB' _ _ hb)
    ·have e4 := kp b o hb h
     rw [ai_ hb, ai_ (ag_ (S2 _ _ e4) n3)]
     exact S2 _ _ e4
    ·have g2 := pe_ (t := t) gr' (p := Pp + i) (by omega)
     rw [hr0] at g2
     exact g2
   ·rintro σ H' ⟨z, e3, e4, bs, T', rfl, sB', kp, hT', gr', hl⟩
    walk_at "rd"
    exact k bs T' H' sB' kp hT' gr' hl
def dS (x : Str) : Dt := .str x
def dRw (r : Str × List Str) : Dt := .tup [.str r.1, .lst (r.2.map dS)]
def dWo (r : Str × (Int × Int)) : Dt := .tup [.str r.1, .tup [.int r.2.1, .int r.2.2]]
def dNet (N : Net Str) : Dt := .tup [.lst (N.posts.map dS), .lst (N.rows.map dRw), .lst (N.worths.map dWo)]
theorem e6_ {xs : List Str} {i : Nat} (h : i < xs.length) : (xs.map V.str)[i]? = some (.str (xs.getD i Str.empty)) := by
 rw [List.getElem?_map, List.getElem?_eq_getElem h, List.getD_eq_getElem?_getD, List.getElem?_eq_getElem h]
 rfl
theorem ig_ {xs : List Str} (h : xs.Nodup) {a b : Nat} (ha : a < xs.length) (hb : b < xs.length) (e : xs.getD a Str.empty = xs.getD b Str.empty) : a = b := by
 refine (List.getElem?_inj ha h).mp ?_
 rw [List.getD_eq_getElem?_getD, List.getD_eq_getElem?_getD, List.getElem?_eq_getElem ha, List.getElem?_eq_getElem hb] at e
 rw [List.getElem?_eq_getElem ha, List.getElem?_eq_getElem hb]
 exact congrArg some e
theorem jh_ {α β : Type} (f : α → β) : ∀ (l : List α) (t : Nat), (l.map f).eraseIdx t = (l.eraseIdx t).map f
 | [], _ => rfl
 | _ :: _, 0 => rfl
 | x :: l, t + 1 => by
  show f x :: (l.map f).eraseIdx t = f x :: (l.eraseIdx t).map f
  rw [jh_ f l t]
theorem hP_ : ∀ {l : List Nat} {t : Nat} (h : t < l.length), (l[t] :: l.eraseIdx t).Perm l
 | x :: l, 0, _ => .refl _
 | x :: l, t + 1, h => by
  have ih := hP_ (l := l) (t := t) (by simpa using h)
  show (l[t]'(by simpa using h) :: x :: l.eraseIdx t).Perm (x :: l)
  exact (List.Perm.swap _ _ _).trans (ih.cons x)
theorem ih_ {H : Hp} : ∀ {us : List V} {ts : List Str}, Reps H us (ts.map dS) → us = ts.map V.str := fun h => b5_ h
theorem mp_ {α : Type} (f : α → Dt) {H : Hp} {zs ws : List V} (h : zs.Perm ws) : ∀ {wl : List α}, Reps H ws (wl.map f) → ∃ wl' : List α, wl'.Perm wl ∧ Reps H zs (wl'.map f) := by
 induction h with
 | nil => exact fun {wl} r => ⟨wl, .refl _, r⟩
 | cons x _ ih =>
  intro wl r
  cases wl with
  | nil => cases r
  | cons d wl =>
   obtain ⟨_, _, e, hx, hr⟩ := r
   cases e
   obtain ⟨wl', p, r'⟩ := ih hr
   exact ⟨d :: wl', p.cons d, _, _, rfl, hx, r'⟩
 | swap x y l =>
  intro wl r
  cases wl with
  | nil => cases r
  | cons d wl =>
   obtain ⟨_, _, e, hx, hr⟩ := r
   cases e
   cases wl with
   | nil => cases hr
   | cons d2 wl =>
    obtain ⟨_, _, e, hy, hr⟩ := hr
    cases e
    exact ⟨d2 :: d :: wl, .swap _ _ _, _, _, rfl, hy, _, _, rfl, hx, hr⟩
 | trans _ _ h1 h2 =>
  intro wl r
  obtain ⟨w1, p1, r1⟩ := h2 r
  obtain ⟨w2, p2, r2⟩ := h1 r1
  exact ⟨w2, p2.trans p1, r2⟩
def NLoop (H6 : Hp) (k0 : Int) (a l D1 D2 O R : Addr) (Pp W n : Nat) (nms wns : List Str) (T' : List (List Nat)) (σ : L2.St) (H' : Hp) : Prop :=
 ∃ (z : Int) (e11 : Option V) (S : Hp) (rem dn : List Nat) (ys : List V), σ = [some (.ref a), some (.int k0), some (.int 5), some (.int z), some (.int Pp), some (.int W), some (.ref l), some (.ref D1), some (.ref D2), some (.ref O), some (.ref R), e11, none, none, none] ∧ Same H6 S ∧ Same S H' ∧ S O = none ∧ S R = none ∧ H' O = some (.lst (rem.map fun n : Nat => V.int n)) ∧ H' R = some (.lst ys) ∧ Reps S ys ((rowsOf (fun p => nms.getD p Str.empty) (fun v => wns.getD v Str.empty) T' dn).map dRw) ∧ (dn ++ rem).Perm (List.range n)
def lenO (O : Addr) (H : Hp) : Nat := match H O with | some (.lst xs) => xs.length | _ => 0
abbrev s_Lnet_by : Stmt := stN 48
theorem aC_ : FnScope ["_law_script", "_law_at", "_law_most", "_law_big_here", "_law_posts", "_law_many", "_law_turns", "_law_names_here", "_law_wires", "_law_order", "_law_rows", "_law_p", "_law_worths", "_law_wire", "_law_worth_here"] ["_law_script", "_law_at", "_law_most"] (defScope s_Lnet_by) := ⟨rfl, rfl, rfl, by decide +kernel, rfl, by decide +kernel, by decide +kernel⟩
theorem c2_ : LK s_Lnet_by "_law_script" .local := by decide +kernel
theorem c3_ : LK s_Lnet_by "_law_at" .local := by decide +kernel
theorem c4_ : LK s_Lnet_by "_law_most" .local := by decide +kernel
theorem aE_ : LK s_Lnet_by "_law_big_here" .local := by decide +kernel
theorem c5_ : LK s_Lnet_by "_law_posts" .local := by decide +kernel
theorem cd_ : LK s_Lnet_by "_law_many" .local := by decide +kernel
theorem bD_ : LK s_Lnet_by "_law_turns" .local := by decide +kernel
theorem el_ : LK s_Lnet_by "_law_names_here" .local := by decide +kernel
theorem ga_ : LK s_Lnet_by "_law_wires" .cell := by decide +kernel
theorem ce_ : LK s_Lnet_by "_law_order" .local := by decide +kernel
theorem dN_ : LK s_Lnet_by "_law_rows" .local := by decide +kernel
theorem dO_ : LK s_Lnet_by "_law_p" .local := by decide +kernel
theorem dP_ : LK s_Lnet_by "_law_worths" .local := by decide +kernel
theorem fo_ : LK s_Lnet_by "_law_wire" .local := by decide +kernel
theorem fp_ : LK s_Lnet_by "_law_worth_here" .local := by decide +kernel
theorem fK_ : LK s_Lnet_by "_law_begun" .globalImplicit := by decide +kernel
theorem bI_ : LK s_Lnet_by "_law_big" .globalImplicit := by decide +kernel
theorem fL_ : LK s_Lnet_by "_law_grown" .globalImplicit := by decide +kernel
theorem dn_ : LK s_Lnet_by "_law_names" .globalImplicit := by decide +kernel
theorem eF_ : LK s_Lnet_by "_law_worth_of" .globalImplicit := by decide +kernel
theorem b6_ : LK s_Lnet_by "len" .globalImplicit := by decide +kernel
theorem hf_ : LK s_Lnet_by "list" .globalImplicit := by decide +kernel
theorem d1_ : LK s_Lnet_by "range" .globalImplicit := by decide +kernel
theorem fM_ : LK s_Lnet_by "sorted" .globalImplicit := by decide +kernel
structure NmN (N : Net Str) : Prop where
 ps : ∀ x ∈ N.posts, NameOk x
 rs : ∀ r ∈ N.rows, NameOk r.1 ∧ r.2.length ≤ 30 ∧ ∀ x ∈ r.2, NameOk x
 ws : ∀ r ∈ N.worths, NameOk r.1 ∧ Ws r.2
theorem mq_ {l : List Str} {i : Nat} (h : i < l.length) : l.getD i Str.empty ∈ l := by
 rw [List.getD_eq_getElem?_getD, List.getElem?_eq_getElem h]
 exact List.getElem_mem _
def sp_net (K : PySem.W.Frag) : Sp := fun vs H Q _ => ∃ (a : Addr) (ns : List Int) (k0 : Int), vs = [.ref a, .int k0, .int 5] ∧ 0 ≤ k0 ∧ k0 ≤ 30 ∧ SqL K H a (ns.map V.int) ∧ ∀ v (N : Net Str) H', Same H H' → Rep H' v (dNet N) → NetOk N → PostsOk N → NmN N → Q v H'
theorem lc_ (T : Txt K mg) (F : Fn0 K mg "_law_net_by" s_Lnet_by) (C_Lbig : Cal P w K mg base "_law_big" ["_law_script", "_law_at"] 2 (sp_big K)) (C_Lgrown : Cal P w K mg base "_law_grown" ["_law_big_here", "_law_posts", "_law_many", "_law_within"] 3 sp_grown) (C_Lnames : Cal P w K mg base "_law_names" ["_law_big_here", "_law_many"] 1 sp_names) (C_Lbegun : Cal P w K mg base "_law_begun" ["_law_turns", "_law_posts", "_law_big_here"] 1 sp_begun) (C_Lworth_of : Cal P w K mg base "_law_worth_of" ["_law_big_here"] 2 sp_worth) : Cal P w K mg base "_law_net_by" ["_law_script", "_law_at", "_law_most"] 4 (sp_net K) := by
 refine aW_ F aC_ (fun _ _ _ _ _ _ us hl => match us, hl with | [_, _, _], _ => rfl) ?len ?body
 case len => rintro vs H Q E ⟨a, b, c, rfl, _⟩; rfl
 case body =>
  intro f cdv A outer s H vs Q E hr h
  obtain ⟨a, ns, k0, rfl, k00, k30, hS, k⟩ := h
  refine' ⟨_, ?D, ?R⟩
  case D =>
   refine' aa_ ?g1 ?g2
   case' g1 => refine' af_ (i := 3) aC_.nd rfl aE_ ?g3
   case' g3 => refine' al_ C_Lbig (hr.mono (by decide)) bI_ ?g4
   case' g4 => refine' pa_c (pv1 0 rfl c2_) ?g6
   case' g6 => refine' pa_c (pv1 1 rfl c3_) ab_
   case' g2 => refine' aa_ ?g9 ?g10
   case' g9 => refine' af_ (i := 4) aC_.nd rfl c5_ ?g11
   case' g11 => refine' pe_op aM_ ac_ ?g13
   case' g13 => refine' pe_op aw_ (pv1 3 rfl aE_) ac_
   case' g10 => refine' aa_ ?g16 ?g17
   case' g16 => refine' af_ (i := 5) aC_.nd rfl cd_ ?g18
   case' g18 => refine' pe_op aw_ ?g19 ?g20
   case' g19 => refine' pe_op an_ (pv1 3 rfl aE_) ac_
   case' g20 => refine' pe_op aM_ (pv1 2 rfl c4_) ac_
   case' g17 => refine' aa_ ?g25 ?g26
   case' g25 => refine' fe_ ?g27
   case' g27 => refine' ps_if ?g28 ?g29 ar_
   case' g28 => refine' ak_ op_eq ?g31 ac_ (nomark _)
   case' g31 => refine' pe_op aw_ ?g33 ac_
   case' g33 => refine' pe_op an_ ?g35 ?g36
   case' g35 => refine' pe_op an_ (pv1 3 rfl aE_) ac_
   case' g36 => refine' pe_op aM_ (pv1 2 rfl c4_) ac_
   case' g29 => refine' ae_ ?g41
   case' g41 => refine' af_ (i := 5) aC_.nd rfl cd_ ?g42
   case' g42 => refine' pe_op aw_ ?g43 ac_
   case' g43 => refine' pe_op an_ ?g45 ?g46
   case' g45 => refine' pe_op an_ (pv1 3 rfl aE_) ac_
   case' g46 => refine' pe_op aM_ (pv1 2 rfl c4_) ac_
   case' g26 => refine' aa_ ?g51 ?g52
   case' g51 => refine' fd_ ?g53 ?g54
   case' g53 => refine' al_ C_Lgrown (hr.mono (by decide)) fL_ ?g55
   case' g55 => refine' pa_c ?g56 ?g57
   case' g56 => refine' pe_op an_ ?g58 ?g59
   case' g58 => refine' pe_op an_ (pv1 3 rfl aE_) ac_
   case' g59 => refine' pe_op aM_ (pv1 2 rfl c4_) ac_
   case' g57 => refine' pa_c (pv1 4 rfl c5_) ?g65
   case' g65 => refine' pa_c (pv1 5 rfl cd_) ?g67
   case' g67 => refine' pa_c ac_ ab_
   case' g54 => refine' bS_ (K := K) (n := 2) rfl rfl ?g70
   case' g70 => refine' aB_ ?g71 ?g72
   case g71 => exact aj_ (i := 6) aC_.nd rfl bD_
   case' g72 => refine' aB_ ?g73 bQ_
   case g73 => exact aj_ (i := 3) aC_.nd rfl aE_
   case' g52 => refine' aa_ ?g75 ?g76
   case' g75 => refine' af_ (i := 7) aC_.nd rfl el_ ?g77
   case' g77 => refine' al_ C_Lnames (hr.mono (by decide)) dn_ ?g78
   case' g78 => refine' pa_c ?g79 ?g80
   case' g79 => refine' al_ C_Lbig (hr.mono (by decide)) bI_ ?g81
   case' g81 => refine' pa_c (pv1 0 rfl c2_) ?g83
   case' g83 => refine' pa_c ?g84 ab_
   case' g84 => refine' pe_op aM_ (pv1 1 rfl c3_) ac_
   case' g80 => refine' pa_c ?g88 ab_
   case' g88 => refine' ah_ ap_ b6_ T.n_len aG_ ?g90
   case' g90 => refine' pa_c (pv1 6 rfl bD_) ab_
   case' g76 => refine' aa_ ?g93 ?g94
   case' g93 => refine' hZ_ (i := 8) aC_.nd rfl ga_ rfl ?g95 rfl
   case' g95 => refine' al_ C_Lnames (hr.mono (by decide)) dn_ ?g96
   case' g96 => refine' pa_c ?g97 ?g98
   case' g97 => refine' al_ C_Lbig (hr.mono (by decide)) bI_ ?g99
   case' g99 => refine' pa_c (pv1 0 rfl c2_) ?g101
   case' g101 => refine' pa_c ?g102 ab_
   case' g102 => refine' pe_op aM_ (pv1 1 rfl c3_) ac_
   case' g98 => refine' pa_c (pv1 5 rfl cd_) ab_
   case' g94 => refine' aa_ ?g108 ?g109
   case' g108 => refine' af_ (i := 6) aC_.nd rfl bD_ ?g110
   case' g110 => refine' al_ C_Lbegun (hr.mono (by decide)) fK_ ?g111
   case' g111 => refine' pa_c (pv1 6 rfl bD_) ?g113
   case' g113 => refine' pa_c (pv1 4 rfl c5_) ?g115
   case' g115 => refine' pa_c (pv1 3 rfl aE_) ab_
   case' g109 => refine' aa_ ?g118 ?g119
   case' g118 => refine' af_ (i := 9) aC_.nd rfl ce_ ?g120
   case' g120 => refine' iW_ rfl hf_ T.n_list d1_ T.n_range ?g121
   case' g121 => refine' pa_c ?g122 ab_
   case' g122 => refine' ah_ ap_ b6_ T.n_len aG_ ?g124
   case' g124 => refine' pa_c (pv1 6 rfl bD_) ab_
   case' g119 => refine' aa_ ?g127 ?g128
   case' g127 => refine' af_ (i := 3) aC_.nd rfl aE_ ?g129
   case' g129 => refine' al_ C_Lbig (hr.mono (by decide)) bI_ ?g130
   case' g130 => refine' pa_c (pv1 0 rfl c2_) ?g132
   case' g132 => refine' pa_c ?g133 ab_
   case' g133 => refine' pe_op aM_ (pv1 1 rfl c3_) ac_
   case' g128 => refine' aa_ ?g137 ?g138
   case' g137 => refine' af_ (i := 10) aC_.nd rfl dN_ ?g139
   case' g139 => refine' bh_ ab_
   case' g138 => refine' aa_ ?g141 ?g142
   case' g141 => refine' ew_ PassesOwn.never ?g143 ?g144
   case' g143 => refine' ak_ (gR_ (hr.units)) (pv1 9 rfl ce_) ?g146 (nomark _)
   case' g146 => refine' bh_ ab_
   case' g144 => refine' aa_ ?g148 ?g149
   case' g148 => refine' af_ (i := 11) aC_.nd rfl dO_ ?g150
   case' g150 => refine' pe_bm PySem.F.plainAttrs_list PySem.F.slot_list_pop PySem.F.type_list_pop km_ (pv1 9 rfl ce_) ?g152
   case' g152 => refine' pa_c ?g153 ab_
   case' g153 => refine' pe_op aw_ (pv1 3 rfl aE_) ?g156
   case' g156 => refine' ah_ ap_ b6_ T.n_len aG_ ?g157
   case' g157 => refine' pa_c (pv1 9 rfl ce_) ab_
   case' g149 => refine' aa_ ?g160 ?g161
   case' g160 => refine' af_ (i := 3) aC_.nd rfl aE_ ?g162
   case' g162 => refine' pe_op an_ (pv1 3 rfl aE_) ?g164
   case' g164 => refine' pe_op aM_ ?g165 ac_
   case' g165 => refine' ah_ ap_ b6_ T.n_len aG_ ?g167
   case' g167 => refine' pa_c (pv1 9 rfl ce_) ab_
   case' g161 => refine' ae_ ?g170
   case' g170 => refine' aZ_ ?g171
   case' g171 => refine' pe_bm PySem.F.plainAttrs_list PySem.F.slot_list_append PySem.F.type_list_append bi_ (pv1 10 rfl dN_) ?g173
   case' g173 => refine' pa_c ?g174 ab_
   case' g174 => refine' aO_ ?g176
   case' g176 => refine' pa_c ?g177 ?g178
   case' g177 => refine' pe_ix am_ (pv1 7 rfl el_) (pv1 11 rfl dO_) (fun _ _ => rfl)
   case' g178 => refine' pa_c ?g181 ab_
   case' g181 => refine' cC_ (N' := ["_law_wire", "_law_wires"]) (ix := [none, some 8]) rfl rfl (bN_ ?g183) ?g184 (fun _ _ _ => ?g185) (fun _ _ _ => ?g186) (fun _ _ _ => ?g187)
   case g183 => exact (by show scpB (defScope s_Lnet_by) ["_law_script", "_law_at", "_law_most", "_law_big_here", "_law_posts", "_law_many", "_law_turns", "_law_names_here", "_law_wires", "_law_order", "_law_rows", "_law_p", "_law_worths", "_law_wire", "_law_worth_here"] _ _ _ = true; decide +kernel)
   case' g184 => refine' bm_ (K := K) rfl ?g188
   case' g188 => refine' pe_ix am_ (pv1 6 rfl bD_) (pv1 11 rfl dO_) (fun _ _ => rfl)
   case g185 => exact aj_ (i := 0) (by show List.Nodup (["_law_wire", "_law_wires"] : List Str); decide +kernel) rfl rfl
   case g186 => exact c0_
   case' g187 => refine' pe_ix am_ (pvc 1 rfl rfl) (pv1 0 rfl rfl) (fun _ _ => rfl)
   case' g142 => refine' aa_ ?g193 ?g194
   case' g193 => refine' af_ (i := 12) aC_.nd rfl dP_ ?g195
   case' g195 => refine' bh_ ab_
   case' g194 => refine' aa_ ?g197 ?g198
   case' g197 => refine' cB_ PassesOwn.never rfl ?g199 ?g200 ?g201
   case' g199 => refine' bg_ d1_ T.n_range ?g202
   case' g202 => refine' pa_c (pv1 5 rfl cd_) ab_
   case g200 => exact aj_ (i := 13) aC_.nd rfl fo_
   case' g201 => refine' aa_ ?g205 ?g206
   case' g205 => refine' fd_ ?g207 ?g208
   case' g207 => refine' al_ C_Lworth_of (hr.mono (by decide)) eF_ ?g209
   case' g209 => refine' pa_c (pv1 3 rfl aE_) ab_
   case' g208 => refine' bS_ (K := K) (n := 2) rfl rfl ?g212
   case' g212 => refine' aB_ ?g213 ?g214
   case g213 => exact aj_ (i := 14) aC_.nd rfl fp_
   case' g214 => refine' aB_ ?g215 bQ_
   case g215 => exact aj_ (i := 3) aC_.nd rfl aE_
   case' g206 => refine' ae_ ?g217
   case' g217 => refine' aZ_ ?g218
   case' g218 => refine' pe_bm PySem.F.plainAttrs_list PySem.F.slot_list_append PySem.F.type_list_append bi_ (pv1 12 rfl dP_) ?g220
   case' g220 => refine' pa_c ?g221 ab_
   case' g221 => refine' aO_ ?g223
   case' g223 => refine' pa_c ?g224 ?g225
   case' g224 => refine' pe_ix am_ (pvc 8 rfl ga_) (pv1 13 rfl fo_) (fun _ _ => rfl)
   case' g225 => refine' pa_c (pv1 14 rfl fp_) ab_
   case' g198 => refine' ae_ ?g230
   case' g230 => refine' ao_ ?g231
   case' g231 => refine' aO_ ?g232
   case' g232 => refine' pa_c ?g233 ?g234
   case' g233 => refine' aL_ bw_ (pv1 7 rfl el_) ?g236 ?g237
   case g236 => exact a2_
   case' g237 => refine' aV_ (pv1 4 rfl c5_)
   case' g234 => refine' pa_c (pv1 10 rfl dN_) ?g240
   case' g240 => refine' pa_c ?g241 ab_
   case' g241 => refine' ah_ (k3_ hr.units) fM_ T.n_sorted iO_ ?g243
   case' g243 => refine' pa_c (pv1 12 rfl dP_) ab_
  case R =>
   walk_at "rd"
   refine ⟨a, ns, k0, rfl, by omega, hS, fun z0 H0 s0 => ?_⟩
   try walk_at "rd"
   obtain ⟨Pp, hP, P1, P6⟩ : ∃ m : Nat, (1 + z0 % 6 : Int) = m ∧ 1 ≤ m ∧ m ≤ 6 := by
    have a1 := Int.emod_nonneg z0 (show (6 : Int) ≠ 0 by decide)
    have a2 := Int.emod_lt_of_pos z0 (show (0 : Int) < 6 by decide)
    exact ⟨(1 + z0 % 6).toNat, by omega, by omega, by omega⟩
   rw [hP]
   refine ⟨by decide, by decide, by decide +kernel, by decide, ?_⟩
   refine ⟨fun σ Hx => ∃ W : Nat, σ = [some (.ref a), some (.int k0), some (.int 5), some (.int z0), some (.int Pp), some (.int W), none, none, none, none, none, none, none, none, none] ∧ Hx = H0 ∧ W ≤ 15, ?_, ?_⟩
   ·walk_at "rd"
    have a1 := Int.emod_nonneg (z0 / 6) (show (5 + 1 : Int) ≠ 0 by decide)
    have a2 := Int.emod_lt_of_pos (z0 / 6) (show (0 : Int) < 5 + 1 by decide)
    have a3 := Int.emod_nonneg (z0 / 48 / (5 + 1)) (show (16 : Int) ≠ 0 by decide)
    have a4 := Int.emod_lt_of_pos (z0 / 48 / (5 + 1)) (show (0 : Int) < 16 by decide)
    refine ⟨by decide, by decide +kernel, by decide, by decide +kernel, by decide, ite2 (fun _ => ?_) (fun _ => ?_)⟩
    ·exact ⟨by decide, by decide +kernel, by decide, by decide +kernel, by decide, (z0 / 48 / (5 + 1) % 16).toNat, by omega, by omega⟩
    ·exact ⟨(z0 / 6 % (5 + 1)).toNat, by omega, by omega⟩
   rintro σ Hx ⟨W, rfl, rfl, W15⟩
   have hS0 := s0.seq hS
   walk_at "rd"
   refine ⟨by decide, by decide +kernel, by decide, by decide +kernel, ?_⟩
   refine ⟨_, Pp, W, rfl, P1, P6, W15, fun pg l as_ T y H1 s1 hpg hT gr => ?_⟩
   have gl := gr.len
   have gm := gr.most
   refine ⟨pg, rfl, _, SqT.of hpg, rfl, _, _, rfl, _, _, rfl, rfl, a, ns, _, rfl, by omega, (s1.seq hS0), fun z1 H2 s2 => ?_⟩
   have hT2 := hT.mono s2
   have al := hT2.tn.len
   refine ⟨l, rfl, _, .inl hT2.tn.top, ?_⟩
   rw [List.length_map]
   refine ⟨z1, as_.length, rfl, by omega, fun D1 nms H3 s3 rep1 nl1 nd1 nk1 => ?_⟩
   have s03 := s1.trans (s2.trans s3)
   refine ⟨a, ns, _, rfl, by omega, s03.seq hS0, fun z2 H4 s4 => ⟨z2, W, rfl, by omega, fun D2 wns H5 s5 rep2 nl2 nd2 nk2 => ?_⟩⟩
   have s05 := s03.trans (s4.trans s5)
   have hT5 := hT2.mono (s3.trans (s4.trans s5))
   refine ⟨Hx, l, as_, T, Pp, W, y, rfl, s05, hT5, gr, P6, W15, fun bs T' H6 s6 kp hT6 gr' hl6 => ?_⟩
   obtain ⟨_, us1, e1, hD1', hus1⟩ := id rep1
   cases e1
   rw [b5_ hus1] at hD1'
   obtain ⟨_, us2, e2, hD2', hus2⟩ := id rep2
   cases e2
   rw [b5_ hus2] at hD2'
   have D1l : D1 ≠ l := (ag_ hT2.tn.top (aJ_ hD1').1).symm
   have D2l : D2 ≠ l := (ag_ ((hT2.mono (s3.trans s4)).tn.top) (aJ_ hD2').1).symm
   have hD1 : H6 D1 = some (.lst (nms.map V.str)) := kp _ _ D1l ((s4.trans s5) _ _ (aJ_ hD1').2)
   have hD2 : H6 D2 = some (.lst (wns.map V.str)) := kp _ _ D2l (aJ_ hD2').2
   clear hD1' hD2' hus1 hus2 rep1 rep2
   have hS6 := s6.seq hS0
   have bl := hT6.tn.len
   have gl6 := gr'.len
   have gm6 := gr'.most
   clear hT hT2 hT5 s1 s2 s3 s4 s5 s03 s05 kp hpg
   refine ⟨l, rfl, _, .inl hT6.tn.top, bs.length, by rw [List.length_map], by omega, fun O nO => ?_⟩
   have S7 : Same H6 (upd H6 O (HO.lst (numsV bs.length))) := Same.new nO
   have hO := ad_ (H := H6) (a := O) (o := HO.lst (numsV bs.length))
   generalize upd H6 O (HO.lst (numsV bs.length)) = H7 at *
   refine ⟨a, ns, _, rfl, by omega, S7.seq hS6, fun z3 H8 s8 => ⟨Nat.zero_le _, fun R nR => ?_⟩⟩
   have R6 : H6 R = none := (S7.trans s8).free nR
   have RO : R ≠ O := (ag_ (s8 _ _ hO) nR).symm
   have eN : numsV bs.length = (List.range bs.length).map fun n : Nat => V.int n := rfl
   refine fD_ (NLoop H6 k0 a l D1 D2 O R Pp W bs.length nms wns T')
    (fun _ H' => lenO O H') ⟨z3, none, H6, List.range bs.length, [], [], rfl, Same.refl _, (S7.trans s8).upd R6, nO, R6, by rw [ai_ RO.symm]; exact s8 _ _ hO, ad_, rfl, .refl _⟩ ?_
   rintro σ H' ⟨z, e11, S, rem, dn, ys, rfl, sS, sH, SO, SR, hO', hR', repS, pm⟩
   walk_at "rd"
   refine ⟨Nat.zero_le _, fun p np => ?_⟩
   have Sp : Same H' (upd H' p (HO.lst [])) := Same.new np
   have repO : Rep (upd H' p (HO.lst [])) (.ref O) (.lst (rem.map fun n : Nat => Dt.int n)) := ⟨O, _, rfl, Sp _ _ hO', by
    clear hO' pm
    induction rem with
    | nil => exact rfl
    | cons x r ih => exact ⟨_, _, rfl, rfl, ih⟩⟩
   have repp : Rep (upd H' p (HO.lst [])) (.ref p) (.lst []) := ⟨p, [], rfl, ad_, rfl⟩
   have pO : p ≠ O := (ag_ hO' np).symm
   have pR : p ≠ R := (ag_ hR' np).symm
   have dle : dep (.lst (rem.map fun n : Nat => Dt.int n)) ≤ 60 := by
    have : deps (rem.map fun n : Nat => Dt.int n) = 0 := by
     clear hO' pm repO
     induction rem with
     | nil => rfl
     | cons x r ih => show max 0 (deps (r.map fun n : Nat => Dt.int n)) = 0; rw [ih]; rfl
    show deps _ + 1 ≤ 60
    omega
   have sH2 : Same S (upd H' p (HO.lst [])) := sH.trans Sp
   generalize upd H' p (HO.lst []) = Hq at *
   have hOq := Sp _ _ hO'
   have hRq := Sp _ _ hR'
   refine ⟨_, repO, _, repp, decide (rem = []), by
    cases rem with
    | nil => rfl
    | cons x r => simp [deq, deqs], dle, ?_⟩
   refine ite2 (fun hne => ?_) (fun hemp => ?_)
   ·have rne : rem ≠ [] := of_decide_eq_false hne
    have rl0 : 0 < rem.length := List.length_pos_iff.mpr rne
    refine ⟨_, N_ok, ?_⟩
    obtain ⟨t, ht, tl⟩ : ∃ t : Nat, z % (((rem.map fun n : Nat => V.int n).length : Nat) : Int) = t ∧ t < rem.length := by
     rw [List.length_map]
     have a1 := Int.emod_nonneg z (show (rem.length : Int) ≠ 0 by omega)
     have a2 := Int.emod_lt_of_pos z (show (0 : Int) < (rem.length : Int) by omega)
     exact ⟨(z % (rem.length : Int)).toNat, by omega, by omega⟩
    have rl16 : rem.length ≤ 16 := by
     have := pm.length_eq
     rw [List.length_append, List.length_range] at this
     omega
    have er : ((rem.map fun n : Nat => V.int n).eraseIdx t) = (rem.eraseIdx t).map fun n : Nat => V.int n := jh_ _ _ _
    have el : (rem.eraseIdx t).length = rem.length - 1 := List.length_eraseIdx_of_lt tl
    have lg : ((((rem.map fun n : Nat => V.int n).eraseIdx t).length : Int) + 1).natAbs.log2 < 9000 := by
     rw [er, List.length_map]
     by_cases h0 : (((rem.eraseIdx t).length : Int) + 1).natAbs = 0
     ·rw [h0]; decide
     ·rw [Nat.log2_lt h0]
      exact Nat.lt_of_le_of_lt (show (((rem.eraseIdx t).length : Int) + 1).natAbs ≤ 1000 by omega) (by decide +kernel)
    have hp0 : rem[t]? = some (rem[t]) := List.getElem?_eq_getElem tl
    have pn : rem[t] < bs.length := List.mem_range.mp (pm.mem_iff.mp (List.mem_append_right _ (List.getElem_mem tl)))
    have pm2 : (dn ++ [rem[t]] ++ rem.eraseIdx t).Perm (List.range bs.length) := by
     refine List.Perm.trans ?_ pm
     rw [List.append_assoc]
     exact (hP_ tl).append_left dn
    generalize rem[t] = pt at *
    refine ⟨.inl ⟨_, .inl (.inl hOq)⟩, _, .inl hOq, by rw [List.length_map]; omega, _, hOq, by rw [ht]; omega, by rw [ht]; omega, t, ?_, .int pt, by rw [List.getElem?_map, hp0]; rfl, by omega, lg, ?_⟩
    ·rw [ht, List.length_map]
     rw [seqIndex_of (by omega) (by omega), Int.toNat_natCast]
    rw [er]
    have OR : O ≠ R := RO.symm
    have sH3 : Same S (upd Hq O (HO.lst ((rem.eraseIdx t).map fun n : Nat => V.int n))) := b2_ sH2 SO
    have hR3 : upd Hq O (HO.lst ((rem.eraseIdx t).map fun n : Nat => V.int n)) R = some (.lst ys) := by rw [ai_ RO]; exact hRq
    have hO3 := ad_ (H := Hq) (a := O) (o := HO.lst ((rem.eraseIdx t).map fun n : Nat => V.int n))
    generalize upd Hq O (HO.lst ((rem.eraseIdx t).map fun n : Nat => V.int n)) = H3 at *
    have s63 : Same H6 H3 := sS.trans sH3
    obtain ⟨a1, ea1, at1, ra1⟩ := hT6.tn.at_ (p := pt) (by omega)
    have ra3 := s63 _ _ ra1
    have lt : ∀ v ∈ T'.getD pt [], v < wns.length := fun v hv => by
     rw [nl2]
     refine gr'.lt v ?_
     have hm : T'.getD pt [] ∈ T' := by
      rw [List.getD_eq_getElem?_getD, List.getElem?_eq_getElem (show pt < T'.length by omega)]
      exact List.getElem_mem _
     exact List.mem_flatten.mpr ⟨_, hm, hv⟩
    have rl30 : (T'.getD pt []).length ≤ 30 := by
     have := rl_le T' pt
     rw [gr'.tot] at this
     unfold rl at this
     omega
    have atn : atI (nms.map V.str) ((pt : Nat) : Int) = some (.str (nms.getD pt Str.empty)) := b9_ (by omega) (by rw [Int.toNat_natCast]; exact e6_ (by omega))
    refine ⟨.inl ⟨_, .inl (.inl hR3)⟩, _, _, rfl, s63 _ _ hD1, _, atn, _, _, rfl, s63 _ _ hT6.tn.top, _, at1, a1, rfl, ⟨_, .inl (.inl ra3)⟩, ?_⟩
    generalize hrow : T'.getD pt [] = row at *
    have hD2' := s63 _ _ hD2
    refine b1_ (n := row.length) (B := fun _ => none) (Pσ := fun σ => ∃ e, σ = [e, some (.ref D2)]) (ds := (row.map fun v => wns.getD v Str.empty).map dS) (fun b o e => by cases e) ⟨_, rfl⟩ (by simp) (by omega) (fun j Hj hj sj => ⟨_, .int (row[j] : Nat), .inl (.inl (sj _ _ ra3)), by simp [hj]⟩) (fun Hj sj => ⟨_, .inl (.inl (sj _ _ ra3)), by simp⟩) ?_ ?_
    ·rintro D j x d σ' Hj Hj' hD hDo hsj hj hdj ⟨rfl, hy⟩ ⟨e, rfl⟩ R0 kR
     have hx := hy _ (.inl (.inl (hsj _ _ ra3)))
     rw [List.getElem?_map, List.getElem?_eq_getElem hj] at hx
     cases hx
     have hd : d = dS (wns.getD row[j] Str.empty) := by
      rw [List.getElem?_map, List.getElem?_map, List.getElem?_eq_getElem hj] at hdj
      exact (Option.some.inj hdj).symm
     walk_at "rd"
     refine ⟨_, hsj _ _ hD2', _, b9_ (by omega) (by rw [Int.toNat_natCast]; exact e6_ (lt _ (List.getElem_mem hj))), kR _ _ _ ⟨_, rfl⟩ (Same.refl _) ?_⟩
     rw [hd]
     exact rfl
    ·intro D H4 hD s4 rep4
     refine ⟨by decide, fun q nq => ?_⟩
     have hD3 : H3 D = none := hD
     obtain ⟨_, us, e4, hD4', hus⟩ := id rep4
     cases e4
     have hD4 := (aJ_ hD4').2
     rw [ih_ hus] at hD4
     have qR : q ≠ R := (ag_ (s4 _ _ hR3) nq).symm
     have qO : q ≠ O := (ag_ (s4 _ _ hO3) nq).symm
     have g1 : Same S (grow S H3 H4) := bq_ sH3
     have g2 : Same (grow S H3 H4) H4 := ec_ sH3 s4
     have gO : grow S H3 H4 O = none := by rw [bn_ hO3]; exact SO
     have gR : grow S H3 H4 R = none := by rw [bn_ hR3]; exact SR
     have gD : grow S H3 H4 D = some (.lst ((row.map fun v => wns.getD v Str.empty).map V.str)) := by rw [cl_ hD3]; exact hD4
     have g3 : Same (grow S H3 H4) (upd (grow S H3 H4) q (.tup [.str (nms.getD pt Str.empty), .ref D])) := ca_ g2 nq
     have g4 : Same (upd (grow S H3 H4) q (.tup [.str (nms.getD pt Str.empty), .ref D])) (upd H4 q (.tup [.str (nms.getD pt Str.empty), .ref D])) := h5_ g2 nq
     have gO2 : upd (grow S H3 H4) q (.tup [.str (nms.getD pt Str.empty), .ref D]) O = none := by rw [ai_ qO.symm]; exact gO
     have gR2 : upd (grow S H3 H4) q (.tup [.str (nms.getD pt Str.empty), .ref D]) R = none := by rw [ai_ qR.symm]; exact gR
     have yl : ys.length = dn.length := by rw [repS.length, List.length_map]; unfold rowsOf; rw [List.length_map]
     have dl : dn.length ≤ 16 := by
      have := pm.length_eq
      rw [List.length_append, List.length_range] at this
      omega
     refine ⟨ys, by rw [ai_ qR.symm]; exact s4 _ _ hR3, small1000 (by omega), ⟨_, _, upd (grow S H3 H4) q (.tup [.str (nms.getD pt Str.empty), .ref D]), rem.eraseIdx t, dn ++ [pt], ys ++ [.ref q], rfl, sS.trans (g1.trans g3), b2_ g4 gR2, gO2, gR2, ?_, ad_, ?_, pm2⟩, ?_⟩
     ·rw [ai_ OR, ai_ qO.symm]
      exact s4 _ _ hO3
     ·have er2 : rowsOf (fun p => nms.getD p Str.empty) (fun v => wns.getD v Str.empty) T' (dn ++ [pt]) = rowsOf (fun p => nms.getD p Str.empty) (fun v => wns.getD v Str.empty) T' dn ++ [(nms.getD pt Str.empty, row.map fun v => wns.getD v Str.empty)] := by
       unfold rowsOf
       rw [List.map_append, List.map_cons, List.map_nil, hrow]
      rw [er2, List.map_append]
      refine Reps.append (Reps.mono (g1.trans g3) _ repS) ⟨_, _, rfl, ⟨q, _, rfl, ad_, _, _, rfl, rfl, _, _, rfl, ⟨D, _, rfl, g3 _ _ gD, aP_ _⟩, rfl⟩, rfl⟩
     ·unfold lenO
      rw [ai_ OR, ai_ qO.symm, s4 _ _ hO3, hO']
      show ((rem.eraseIdx t).map _).length < (rem.map _).length
      rw [List.length_map, List.length_map]
      omega
   ·have re : rem = [] := by
     by_cases h : rem = []
     ·exact h
     ·exact absurd (decide_eq_false h) hemp
    subst re
    rw [List.append_nil] at pm
    try walk_at "rd"
    refine ⟨Nat.zero_le _, fun L nL => ⟨by omega, by omega, ?_⟩⟩
    rw [show Int.toNat (W : Int) = W by omega]
    have s6q : Same H6 Hq := sS.trans sH2
    have hD2q := s6q _ _ hD2
    have hD1q := s6q _ _ hD1
    refine cr_ (fun i σ H' => ∃ (z : Int) (e13 e14 : Option V) (S' : Hp) (vs : List V) (wl : List (Str × (Int × Int))), σ = [some (.ref a), some (.int k0), some (.int 5), some (.int z), some (.int Pp), some (.int W), some (.ref l), some (.ref D1), some (.ref D2), some (.ref O), some (.ref R), e11, some (.ref L), e13, e14] ∧ Same Hq S' ∧ Same S' H' ∧ S' L = none ∧ H' L = some (.lst vs) ∧ Reps S' vs (wl.map dWo) ∧ wl.map (·.1) = wns.take i ∧ ∀ x ∈ wl, Ws x.2) ⟨z, none, none, Hq, [], [], rfl, Same.refl _, Same.new nL, nL, ad_, rfl, rfl, fun x hx => by cases hx⟩ ?_ ?_
    ·rintro i σ H5 hi ⟨z, e13, e14, S', vs, wl, rfl, sq, sS5, SL, hL, repW, wnm, wws⟩
     have hi' : i < W := hi
     have iw : i < wns.length := by omega
     walk_at "rd"
     refine ⟨z, rfl, fun pw qw H7 t0 b0 y0 s7 npw nqw tw hpw hqw => ?_⟩
     have s57 := sS5.trans s7
     have wll : wl.length = i := by
      have := congrArg List.length wnm
      rw [List.length_map, List.length_take] at this
      omega
     have vl : vs.length = i := by rw [repW.length, List.length_map]; exact wll
     refine ⟨pw, rfl, _, SqT.of hpw, rfl, _, _, rfl, _, _, rfl, rfl, .inl ⟨_, .inl (.inl (s7 _ _ hL))⟩, _, (sq.trans s57) _ _ hD2q, _, b9_ (by omega) (by rw [show Int.toNat (0 + (i : Nat) : Int) = i by omega]; exact e6_ iw), by decide, fun q nq => ?_⟩
     have g1 : Same S' (grow S' H5 H7) := bq_ sS5
     have g2 : Same (grow S' H5 H7) H7 := ec_ sS5 s7
     have gL : grow S' H5 H7 L = none := by rw [bn_ hL]; exact SL
     have gq : grow S' H5 H7 qw = some (.tup [.int (nf t0 b0).1, .int (nf t0 b0).2]) := by rw [cl_ nqw]; exact hqw
     have qL : q ≠ L := (ag_ (s7 _ _ hL) nq).symm
     have g3 : Same (grow S' H5 H7) (upd (grow S' H5 H7) q (.tup [.str (wns.getD i Str.empty), .ref qw])) := ca_ g2 nq
     have g4 : Same (upd (grow S' H5 H7) q (.tup [.str (wns.getD i Str.empty), .ref qw])) (upd H7 q (.tup [.str (wns.getD i Str.empty), .ref qw])) := h5_ g2 nq
     have gL2 : upd (grow S' H5 H7) q (.tup [.str (wns.getD i Str.empty), .ref qw]) L = none := by rw [ai_ qL.symm]; exact gL
     refine ⟨vs, by rw [ai_ qL.symm]; exact s7 _ _ hL, small1000 (by omega), y0, rfl, upd (grow S' H5 H7) q (.tup [.str (wns.getD i Str.empty), .ref qw]), sq.trans (g1.trans g3), b2_ g4 gL2, gL2, wl ++ [(wns.getD i Str.empty, nf t0 b0)], ?_, ?_, fun x hx => (List.mem_append.mp hx).elim (wws x) fun hx => by rw [List.mem_singleton.mp hx]; exact tw⟩
     ·rw [List.map_append]
      exact Reps.append (Reps.mono (g1.trans g3) _ repW) ⟨_, _, rfl, ⟨q, _, rfl, ad_, _, _, rfl, rfl, _, _, rfl, ⟨qw, _, rfl, g3 _ _ gq, _, _, rfl, rfl, _, _, rfl, rfl, rfl⟩, rfl⟩, rfl⟩
     ·rw [List.map_append, wnm, List.take_succ, List.getElem?_eq_getElem iw, List.getD_eq_getElem?_getD, List.getElem?_eq_getElem iw]
      rfl
    ·rintro σ H5 ⟨z, e13, e14, S', vs, wl, rfl, sq, sS5, SL, hL, repW, wnm, wws⟩
     rw [List.take_of_length_le (by omega)] at wnm
     walk_at "rd"
     have wll : wl.length = W := by rw [← nl2, ← wnm, List.length_map]
     have vl : vs.length = wl.length := by rw [repW.length, List.length_map]
     have sq5 := sq.trans sS5
     have c1 : cutV (nms.map V.str) none (some ((Pp : Nat) : Int)) = (nms.take Pp).map V.str := by rw [nA_ _ _ (by rw [List.length_map]; omega), List.map_take]
     refine ⟨_, sq5 _ _ hD1q, fun q nq => ?_⟩
     rw [c1]
     have Sq : Same H5 (upd H5 q (HO.lst ((nms.take Pp).map V.str))) := Same.new nq
     have hq := ad_ (H := H5) (a := q) (o := HO.lst ((nms.take Pp).map V.str))
     generalize upd H5 q (HO.lst ((nms.take Pp).map V.str)) = H6' at *
     refine ⟨L, vs, fun i => wns.getD i Str.empty, rfl, Sq _ _ hL, by omega, fun i hi => ?_, fun i j hi hj e => ig_ nd2 (by omega) (by omega) e, fun l' zs nl' hpm => ?_⟩
     ·obtain ⟨d, hd, hr⟩ := repW.of_get (i := i) (x := vs[i]) (List.getElem?_eq_getElem hi)
      rw [List.getElem?_map, List.getElem?_eq_getElem (by omega)] at hd
      rw [← Option.some.inj hd] at hr
      obtain ⟨aa, _, ea, haa, _, _, e1, hx1, _, _, e2, hx2, e3⟩ := hr
      obtain ⟨ww, _, ew, hww, _, _, e4, hy1, _, _, e5, hy2, e6⟩ := hx2
      subst e6 e5 e4 e3 e2 e1
      cases hx1
      cases hy1
      cases hy2
      subst ew
      have en : (wl[i]'(by omega)).1 = wns.getD i Str.empty := by
       rw [← wnm, List.getD_eq_getElem?_getD, List.getElem?_map, List.getElem?_eq_getElem (by omega)]
       rfl
      rw [en] at haa
      exact ⟨aa, ww, _, by rw [List.getElem?_eq_getElem hi, ea], Sq _ _ (sS5 _ _ haa), Sq _ _ (sS5 _ _ hww)⟩
     ·refine ⟨by decide, fun pe npe => ?_⟩
      obtain ⟨wl', pw, repW'⟩ := mp_ dWo hpm repW
      have Sl : Same H6' (upd H6' l' (HO.lst zs)) := Same.new nl'
      have hl' := ad_ (H := H6') (a := l') (o := HO.lst zs)
      generalize upd H6' l' (HO.lst zs) = H7' at *
      have Se : Same H7' (upd H7' pe (HO.tup [V.ref q, V.ref R, V.ref l'])) := Same.new npe
      have he := ad_ (H := H7') (a := pe) (o := HO.tup [V.ref q, V.ref R, V.ref l'])
      generalize upd H7' pe (HO.tup [V.ref q, V.ref R, V.ref l']) = H8' at *
      have tot : Same H5 H8' := Sq.trans (Sl.trans Se)
      refine k (.ref pe) ⟨nms.take Pp, rowsOf (fun p => nms.getD p Str.empty) (fun v => wns.getD v Str.empty) T' dn, wl'⟩ H8' (s0.trans (s6.trans (s6q.trans (sq5.trans tot)))) ⟨pe, _, rfl, he, _, _, rfl, ⟨q, _, rfl, (Sl.trans Se) _ _ hq, aP_ _⟩, _, _, rfl, ⟨R, ys, rfl, tot _ _ (sq5 _ _ hRq), Reps.mono (sH2.trans (sq5.trans tot)) _ repS⟩, _, _, rfl, ⟨l', zs, rfl, Se _ _ hl', Reps.mono (sS5.trans tot) _ repW'⟩, rfl⟩ ?_ ?_ ?_
      ·exact o6_ gr' (by rw [← bl]; exact pm) P6 W15 (fun x y hx hy e => ig_ nd1 (by omega) (by omega) e) (fun x y hx hy e => ig_ nd2 (by omega) (by omega) e) (by rw [List.length_take]; omega) (by rw [pw.length_eq]; omega)
      ·have nl1' : nms.length = T'.length := by omega
       refine ⟨List.Nodup.sublist (List.take_sublist _ _) nd1, fun x hx => ?_, by rw [List.length_take]; omega⟩
       obtain ⟨j, hj, ej⟩ := List.mem_iff_getElem.mp hx
       have hj2 : j < nms.length := by rw [List.length_take] at hj; omega
       refine List.mem_map.mpr ⟨_, List.mem_map.mpr ⟨j, pm.mem_iff.mpr (List.mem_range.mpr (by omega)), rfl⟩, ?_⟩
       show nms.getD j Str.empty = x
       rw [List.getD_eq_getElem?_getD, List.getElem?_eq_getElem hj2]
       rw [List.getElem_take] at ej
       exact ej
      ·have nl1' : nms.length = T'.length := by omega
       refine ⟨fun x hx => nk1 x (List.mem_of_mem_take hx), fun r hr => ?_, fun r hr => ?_⟩
       ·obtain ⟨p, hp, rfl⟩ := List.mem_map.mp hr
        have pl := List.mem_range.mp (pm.mem_iff.mp hp)
        have hmT : T'.getD p [] ∈ T' := by
         rw [List.getD_eq_getElem?_getD, List.getElem?_eq_getElem (show p < T'.length by omega)]
         exact List.getElem_mem _
        refine ⟨nk1 _ (mq_ (by omega)), ?_, fun x hx => ?_⟩
        ·have := rl_le T' p
         rw [gr'.tot] at this
         unfold rl at this
         show ((T'.getD p []).map _).length ≤ 30
         rw [List.length_map]
         omega
        ·obtain ⟨v, hv, rfl⟩ := List.mem_map.mp hx
         exact nk2 _ (mq_ (by rw [nl2]; exact gr'.lt v (List.mem_flatten.mpr ⟨_, hmT, hv⟩)))
       ·have hm := pw.mem_iff.mp hr
        exact ⟨nk2 _ (by rw [← wnm]; exact List.mem_map.mpr ⟨r, hm, rfl⟩), wws r hm⟩
theorem mr_ {H : Hp} {v : V} {N : Net Str} (h : Rep H v (dNet N)) : ∃ (pn p0 p1 p2 : Addr) (rs ws : List V), v = .ref pn ∧ H pn = some (.tup [.ref p0, .ref p1, .ref p2]) ∧ H p0 = some (.lst (N.posts.map V.str)) ∧ H p1 = some (.lst rs) ∧ Reps H rs (N.rows.map dRw) ∧ H p2 = some (.lst ws) ∧ Reps H ws (N.worths.map dWo) := by
 obtain ⟨pn, _, rfl, hn, _, _, rfl, ⟨p0, ps, rfl, h0, r0⟩, _, _, rfl, ⟨p1, rs, rfl, h1, r1⟩, _, _, rfl, ⟨p2, ws, rfl, h2, r2⟩, rfl⟩ := h
 rw [ih_ r0] at h0
 exact ⟨pn, p0, p1, p2, rs, ws, rfl, hn, h0, h1, r1, h2, r2⟩
theorem ou_ {H : Hp} {v : V} {r : Str × List Str} (h : Rep H v (dRw r)) : ∃ q l, v = .ref q ∧ H q = some (.tup [.str r.1, .ref l]) ∧ H l = some (.lst (r.2.map V.str)) := by
 obtain ⟨q, _, rfl, hq, x, _, rfl, hx, _, _, rfl, ⟨l, us, rfl, hl, rl⟩, rfl⟩ := h
 rw [ih_ rl] at hl
 cases hx
 exact ⟨q, l, rfl, hq, hl⟩
theorem kJ_ {H : Hp} {rs : List V} {rows : List (Str × List Str)} {i : Nat} {x : V} (h : Reps H rs (rows.map dRw)) (e : rs[i]? = some x) : ∃ r q l, rows[i]? = some r ∧ x = .ref q ∧ H q = some (.tup [.str r.1, .ref l]) ∧ H l = some (.lst (r.2.map V.str)) := by
 obtain ⟨d, hd, hr⟩ := h.of_get e
 rw [List.getElem?_map] at hd
 cases e2 : rows[i]? with
 | none => rw [e2] at hd; cases hd
 | some r =>
  rw [e2] at hd
  rw [← Option.some.inj hd] at hr
  obtain ⟨q, l, h1, h2, h3⟩ := ou_ hr
  exact ⟨r, q, l, rfl, h1, h2, h3⟩
mutual
theorem kK_ : ∀ d : Dt, deq d d = some true
 | .non => rfl
 | .bl a => by simp [deq]
 | .int a => by simp [deq]
 | .str a => by simp [deq]
 | .tup xs => hg_ xs
 | .lst xs => by rw [deq, if_pos rfl]; exact hg_ xs
theorem hg_ : ∀ ds : List Dt, deqs ds ds = some true
 | [] => rfl
 | d :: ds => by rw [deqs, kK_ d, hg_ ds]; rfl
end
theorem em_ {α : Type} {f : α → Dt} {n : Nat} (h : ∀ a, dep (f a) ≤ n) : ∀ l : List α, deps (l.map f) ≤ n
 | [] => Nat.zero_le _
 | a :: l => Nat.max_le.mpr ⟨h a, em_ h l⟩
theorem ov_ (N : Net Str) : dep (dNet N) ≤ 60 := by
 have h1 : dep (.lst (N.posts.map dS)) ≤ 5 := Nat.le_trans (Nat.succ_le_succ (em_ (f := dS) (n := 1) (fun a => by simp [dS, dep]) _)) (by decide)
 have h2 : dep (.lst (N.rows.map dRw)) ≤ 5 := Nat.le_trans (Nat.succ_le_succ (em_ (f := dRw) (n := 3) (fun r => by
  have : dep (.lst (r.2.map dS)) ≤ 2 := Nat.succ_le_succ (em_ (f := dS) (n := 1) (fun a => by simp [dS, dep]) _)
  show max 0 (max (dep (.lst (r.2.map dS))) 0) + 1 ≤ 3
  omega) _)) (by decide)
 have h3 : dep (.lst (N.worths.map dWo)) ≤ 5 := Nat.le_trans (Nat.succ_le_succ (em_ (f := dWo) (n := 3) (fun r => by simp [dWo, dep, deps]) _)) (by decide)
 show max (dep (.lst (N.posts.map dS))) (max (dep (.lst (N.rows.map dRw))) (max (dep (.lst (N.worths.map dWo))) 0)) + 1 ≤ 60
 omega
abbrev s_greatest_divisor : Stmt := stN 15
theorem aH_ : FnScope ["one", "other", "pair", "rest"] ["one", "other"] (defScope s_greatest_divisor) := ⟨rfl, rfl, rfl, by decide +kernel, rfl, by decide +kernel, by decide +kernel⟩
theorem aI_ : LK s_greatest_divisor "one" .local := by decide +kernel
theorem aA_ : LK s_greatest_divisor "other" .local := by decide +kernel
theorem a0_ : LK s_greatest_divisor "pair" .local := by decide +kernel
theorem cf_ : LK s_greatest_divisor "rest" .local := by decide +kernel
theorem cm_ : LK s_greatest_divisor "LONG_BITS" .globalImplicit := by decide +kernel
theorem dQ_ : LK s_greatest_divisor "max" .globalImplicit := by decide +kernel
theorem dR_ : LK s_greatest_divisor "min" .globalImplicit := by decide +kernel
def sp_gcd : Sp := fun vs H Q _ => ∃ a b : Int, vs = [.int a, .int b] ∧ 0 ≤ a ∧ 0 ≤ b ∧ Builtin.Int.intBits a ≤ 8000 ∧ Builtin.Int.intBits b ≤ 8000 ∧ ∀ H', Same H H' → Q (.int (Int.gcd a b : Nat)) H'
theorem e7_ (T : Txt K mg) (F : Fn0 K mg "greatest_divisor" s_greatest_divisor) : Cal P w K mg base "greatest_divisor" ["one", "other"] 1 sp_gcd := by
 refine aW_ F aH_ (fun _ _ _ _ _ _ us hl => match us, hl with | [_, _], _ => rfl) ?len ?body
 case len => rintro vs H Q E ⟨a, b, rfl, _⟩; rfl
 case body =>
  intro f cdv A outer s H vs Q E hr h
  obtain ⟨a, b, rfl, ha, hb, la, lb, k⟩ := h
  refine' ⟨_, ?D, ?R⟩
  case D =>
   refine' aa_ ?g1 ?g2
   case' g1 => refine' af_ (i := 2) aH_.nd rfl a0_ ?g3
   case' g3 => refine' aO_ ?g4
   case' g4 => refine' pa_c ?g5 ?g6
   case' g5 => refine' ah_ (iD_ rfl) dQ_ T.n_max lH_ ?g7
   case' g7 => refine' pa_c (pv1 0 rfl aI_) ?g9
   case' g9 => refine' pa_c (pv1 1 rfl aA_) ab_
   case' g6 => refine' pa_c ?g12 ab_
   case' g12 => refine' ah_ (iE_ rfl) dR_ T.n_min ny_ ?g14
   case' g14 => refine' pa_c (pv1 0 rfl aI_) ?g16
   case' g16 => refine' pa_c (pv1 1 rfl aA_) ab_
   case' g2 => refine' aa_ ?g19 ?g20
   case' g19 => refine' ew_ PassesOwn.never ?g21 ?g22
   case' g21 => refine' ak_ op_gt ?g23 ?g24 (nomark _)
   case' g23 => refine' oS_ PySem.F.plainAttrs_int PySem.F.slot_int_bit_length PySem.F.type_int_bit_length n7_ ?g25
   case' g25 => refine' pe_ix bc_ (pv1 2 rfl a0_) ac_ (fun _ _ => rfl)
   case g24 => exact gM_ T.c_LONG_BITS cm_
   case g22 => exact gI_
   case' g20 => refine' aa_ ?g28 ?g29
   case' g28 => refine' af_ (i := 0) aH_.nd rfl aI_ ?g30
   case' g30 => refine' pe_ix bc_ (pv1 2 rfl a0_) ac_ (fun _ _ => rfl)
   case' g29 => refine' aa_ ?g33 ?g34
   case' g33 => refine' af_ (i := 1) aH_.nd rfl aA_ ?g35
   case' g35 => refine' pe_ix bc_ (pv1 2 rfl a0_) ac_ (fun _ _ => rfl)
   case' g34 => refine' aa_ ?g38 ?g39
   case' g38 => refine' ew_ PassesOwn.never ?g40 ?g41
   case' g40 => refine' ak_ op_ne (pv1 1 rfl aA_) ac_ (nomark _)
   case' g41 => refine' aa_ ?g44 ?g45
   case' g44 => refine' af_ (i := 3) aH_.nd rfl cf_ ?g46
   case' g46 => refine' pe_op aw_ (pv1 0 rfl aI_) (pv1 1 rfl aA_)
   case' g45 => refine' aa_ ?g49 ?g50
   case' g49 => refine' af_ (i := 0) aH_.nd rfl aI_ (pv1 1 rfl aA_)
   case' g50 => refine' ae_ ?g52
   case' g52 => refine' af_ (i := 1) aH_.nd rfl aA_ (pv1 3 rfl cf_)
   case' g39 => refine' ae_ ?g54
   case' g54 => refine' ao_ (pv1 0 rfl aI_)
  case R =>
   walk_at "rd"
   refine ⟨(by decide), fun p hp => ?_⟩
   refine fD_ (fun σ H1 => σ = [some (.int a), some (.int b), some (.ref p), none] ∧ H1 = upd H p (.tup [V.int (if b > a then b else a), V.int (if b < a then b else a)])) (fun _ _ => 0) ⟨rfl, rfl⟩ ?_
   rintro σ H1 ⟨rfl, rfl⟩
   walk_at "rd"
   have hm : ¬ (8000 : Int) < (Builtin.Int.intBits (if b < a then b else a) : Nat) := by
    split <;> omega
   rw [if_neg hm]
   refine fD_ (fun σ H1 => ∃ (x y : Int) (z : Option V), σ = [some (.int x), some (.int y), some (.ref p), z] ∧ H1 = upd H p (.tup [V.int (if b > a then b else a), V.int (if b < a then b else a)]) ∧ 0 ≤ x ∧ 0 ≤ y ∧ Int.gcd x y = Int.gcd a b)
    (fun σ _ => match σ with | [_, some (.int y), _, _] => y.toNat | _ => 0) ?_ ?_
   ·refine ⟨_, _, _, rfl, rfl, ?_, ?_, ?_⟩
    ·split <;> omega
    ·split <;> omega
    ·by_cases h : b < a
     ·rw [if_pos h, if_neg (by omega)]
     ·rw [if_neg h]
      by_cases h' : b > a
      ·rw [if_pos h', Int.gcd_comm]
      ·rw [if_neg h', Int.gcd_comm]; congr 1 <;> omega
   ·rintro σ H1 ⟨x, y, z, rfl, rfl, hx, hy, e⟩
    walk_at "rd"
    refine ite2 (fun hne => ?_) (fun he => ?_)
    ·refine ⟨_, N_ok, ?_⟩
     walk_at "rd"
     have h0 : 0 < y := by omega
     have h1 := Int.emod_nonneg x hne
     have h2 := Int.emod_lt_of_pos x h0
     exact ⟨h0, hy, h1, (kF_ hx h0).trans e, by omega⟩
    ·have hy0 : y = 0 := Decidable.not_not.mp he
     have : x = (Int.gcd a b : Nat) := by
      rw [← e, hy0, Int.gcd_zero_right]; omega
     rw [this]
     exact k _ (Same.new hp)
theorem ow_ (t b : Int) : Int.gcd (if t < 0 then -t else t) (if b < 0 then -b else b) = Int.gcd t b := by
 split <;> split <;> simp [Int.gcd_neg, Int.neg_gcd]
theorem kL_ {t : Int} {n : Nat} (h : Builtin.Int.intBits t ≤ n) : Builtin.Int.intBits (if t < 0 then -t else t) ≤ n :=
 PyProof.Rows.bits_of_natAbs_le (b := t) (by split <;> omega) h
abbrev s_fraction : Stmt := stN 16
theorem e8_ : FnScope ["top", "bottom", "divisor"] ["top", "bottom"] (defScope s_fraction) := ⟨rfl, rfl, rfl, by decide +kernel, rfl, by decide +kernel, by decide +kernel⟩
theorem fq_ : LK s_fraction "top" .local := by decide +kernel
theorem ct_ : LK s_fraction "bottom" .local := by decide +kernel
theorem bJ_ : LK s_fraction "divisor" .local := by decide +kernel
theorem en_ : LK s_fraction "abs" .globalImplicit := by decide +kernel
theorem cu_ : LK s_fraction "greatest_divisor" .globalImplicit := by decide +kernel
def sp_fraction : Sp := fun vs H Q _ => ∃ t b : Int, vs = [.int t, .int b] ∧ b ≠ 0 ∧ Builtin.Int.intBits t ≤ 8000 ∧ Builtin.Int.intBits b ≤ 8000 ∧ ∀ p H', Same H H' → H p = none → H' p = some (.tup [.int (nf t b).1, .int (nf t b).2]) → Q (.ref p) H'
theorem j2_ (T : Txt K mg) (F : Fn0 K mg "fraction" s_fraction) (C_greatest_divisor : Cal P w K mg base "greatest_divisor" ["one", "other"] 1 sp_gcd) : Cal P w K mg base "fraction" ["top", "bottom"] 2 sp_fraction := by
 refine aW_ F e8_ (fun _ _ _ _ _ _ us hl => match us, hl with | [_, _], _ => rfl) ?len ?body
 case len => rintro vs H Q E ⟨a, b, rfl, _⟩; rfl
 case body =>
  intro f cdv A outer s H vs Q E hr h
  obtain ⟨t, b, rfl, hb, lt, lb, k⟩ := h
  refine' ⟨_, ?D, ?R⟩
  case D =>
   refine' aa_ ?g1 ?g2
   case' g1 => refine' ps_if ?g3 ?g4 ar_
   case' g3 => refine' ak_ op_eq (pv1 1 rfl ct_) ac_ (nomark _)
   case' g4 => refine' ae_ ?g8
   case g8 => exact mM_
   case' g2 => refine' aa_ ?g9 ?g10
   case' g9 => refine' af_ (i := 2) e8_.nd rfl bJ_ ?g11
   case' g11 => refine' al_ C_greatest_divisor (hr.mono (by decide)) cu_ ?g12
   case' g12 => refine' pa_c ?g13 ?g14
   case' g13 => refine' ah_ gs_ en_ T.n_abs kq_ ?g15
   case' g15 => refine' pa_c (pv1 0 rfl fq_) ab_
   case' g14 => refine' pa_c ?g18 ab_
   case' g18 => refine' ah_ gs_ en_ T.n_abs kq_ ?g20
   case' g20 => refine' pa_c (pv1 1 rfl ct_) ab_
   case' g10 => refine' aa_ ?g23 ?g24
   case' g23 => refine' ps_if ?g25 ?g26 ar_
   case' g25 => refine' ak_ op_lt (pv1 1 rfl ct_) ac_ (nomark _)
   case' g26 => refine' ae_ ?g30
   case' g30 => refine' af_ (i := 2) e8_.nd rfl bJ_ ?g31
   case' g31 => refine' pe_un nu_ (pv1 2 rfl bJ_)
   case' g24 => refine' ae_ ?g33
   case' g33 => refine' ao_ ?g34
   case' g34 => refine' aO_ ?g35
   case' g35 => refine' pa_c ?g36 ?g37
   case' g36 => refine' pe_op kn_ (pv1 0 rfl fq_) (pv1 2 rfl bJ_)
   case' g37 => refine' pa_c ?g40 ab_
   case' g40 => refine' pe_op kn_ (pv1 1 rfl ct_) (pv1 2 rfl bJ_)
  case R =>
   walk_at "rd"
   rw [if_neg hb]
   refine ⟨_, _, rfl, ?_, ?_, kL_ lt, kL_ lb, fun H1 s1 => ?_⟩
   ·split <;> omega
   ·split <;> omega
   ·rw [ow_]
    have g := gpos (t := t) hb
    have d1 := Int.gcd_dvd_left (a := t) (b := b)
    have d2 := Int.gcd_dvd_right (a := t) (b := b)
    have gl : (Int.gcd t b : Int).natAbs ≤ b.natAbs := by
     have := Int.natAbs_dvd_natAbs.mpr d2
     exact Nat.le_of_dvd (by omega) this
    have lg := nI_ (g := (Int.gcd t b : Int)) (by omega) gl lb
    walk_at "rd"
    refine ite2 (fun hn => ?_) (fun hn => ?_)
    ·have e : nf t b = (t.fdiv (-(Int.gcd t b : Int)), b.fdiv (-(Int.gcd t b : Int))) := by
      unfold nf
      rw [if_pos hn, Int.fdiv_eq_ediv_of_dvd (Int.neg_dvd.mpr d1), Int.fdiv_eq_ediv_of_dvd (Int.neg_dvd.mpr d2)]
     rw [e] at k
     have lg' : (-(Int.gcd t b : Int)).natAbs.log2 < 9000 := by rw [Int.natAbs_neg]; exact lg
     exact ⟨by omega, lg', by omega, lg', by decide, fun p hp => k p _ (s1.trans (Same.new hp)) (s1.free hp) ad_⟩
    ·have e : nf t b = (t.fdiv (Int.gcd t b : Int), b.fdiv (Int.gcd t b : Int)) := by
      unfold nf
      rw [if_neg hn, Int.fdiv_eq_ediv_of_dvd d1, Int.fdiv_eq_ediv_of_dvd d2]
     rw [e] at k
     exact ⟨by omega, lg, by omega, lg, by decide, fun p hp => k p _ (s1.trans (Same.new hp)) (s1.free hp) ad_⟩
abbrev s_is_whole : Stmt := stN 17
theorem j3_ : FnScope ["thing"] ["thing"] (defScope s_is_whole) := ⟨rfl, rfl, rfl, by decide +kernel, rfl, by decide +kernel, by decide +kernel⟩
theorem fr_ : LK s_is_whole "thing" .local := by decide +kernel
theorem gl_ : LK s_is_whole "bool" .globalImplicit := by decide +kernel
theorem hh_ : LK s_is_whole "int" .globalImplicit := by decide +kernel
theorem bO_ : LK s_is_whole "isinstance" .globalImplicit := by decide +kernel
def sp_whole : Sp := fun vs H Q _ => ∃ i : Int, vs = [.int i] ∧ ∀ H', Same H H' → Q (.bl true) H'
theorem j4_ (T : Txt K mg) (F : Fn0 K mg "is_whole" s_is_whole) : Cal P w K mg base "is_whole" ["thing"] 1 sp_whole := by
 refine aW_ F j3_ (fun _ _ _ _ _ _ us hl => match us, hl with | [_], _ => rfl) ?len ?body
 case len => rintro vs H Q E ⟨a, rfl, _⟩; rfl
 case body =>
  intro f cdv A outer s H vs Q E hr h
  obtain ⟨x, rfl, k⟩ := h
  refine' ⟨_, ?D, ?R⟩
  case D =>
   refine' ae_ ?g1
   case' g1 => refine' ao_ ?g2
   case' g2 => refine' kh_ ?g3 ?g4
   case' g3 => refine' ah_ hW_ bO_ T.n_isinstance br_ ?g5
   case' g5 => refine' pa_c (pv1 0 rfl fr_) ?g7
   case' g7 => refine' pa_c ?g8 ab_
   case g8 => exact kp_ hh_ T.n_int hJ_
   case' g4 => refine' kg_ ?g10
   case' g10 => refine' oN_ ?g11
   case' g11 => refine' ah_ hW_ bO_ T.n_isinstance br_ ?g12
   case' g12 => refine' pa_c (pv1 0 rfl fr_) ?g14
   case' g14 => refine' pa_c ?g15 ab_
   case g15 => exact kp_ gl_ T.n_bool n9_
  case R =>
   walk_at "rd"
   refine ⟨"int", rfl, ?_⟩
   rw [if_pos (by decide)]
   exact ⟨"int", rfl, k H (Same.refl H)⟩
abbrev s_is_worth : Stmt := stN 18
theorem e9_ : FnScope ["thing", "top", "bottom"] ["thing"] (defScope s_is_worth) := ⟨rfl, rfl, rfl, by decide +kernel, rfl, by decide +kernel, by decide +kernel⟩
theorem cv_ : LK s_is_worth "thing" .local := by decide +kernel
theorem cw_ : LK s_is_worth "top" .local := by decide +kernel
theorem cx_ : LK s_is_worth "bottom" .local := by decide +kernel
theorem cy_ : LK s_is_worth "greatest_divisor" .globalImplicit := by decide +kernel
theorem co_ : LK s_is_worth "is_whole" .globalImplicit := by decide +kernel
theorem d4_ : LK s_is_worth "isinstance" .globalImplicit := by decide +kernel
theorem hi_ : LK s_is_worth "len" .globalImplicit := by decide +kernel
theorem fN_ : LK s_is_worth "tuple" .globalImplicit := by decide +kernel
def OV (H : Hp) (v : V) : Option (Int × Int) → Prop
 | none => v = .non
 | some x => ∃ p, v = .ref p ∧ H p = some (.tup [.int x.1, .int x.2])
def Bd2 (x : Int × Int) : Prop := x.1.natAbs < 10 ^ 64 ∧ x.2.natAbs < 10 ^ 64
def isW (x : Int × Int) : Bool := decide (0 < x.1) && decide (0 < x.2) && decide (Int.gcd x.1 x.2 = 1)
theorem eo_ {z : Int} (h : z.natAbs < 10 ^ 64) : Builtin.Int.intBits z ≤ 8000 := PyProof.Rows.bits_of_natAbs_le (b := 10 ^ 64) (by omega) (by decide +kernel)
def sp_isw : Sp := fun vs H Q _ => ∃ (v : V) (o : Option (Int × Int)), vs = [v] ∧ OV H v o ∧ (∀ x, o = some x → Bd2 x) ∧ ∀ H', Same H H' → Q (.bl (o.any isW)) H'
theorem j5_ (T : Txt K mg) (F : Fn0 K mg "is_worth" s_is_worth) (C_is_whole : Cal P w K mg base "is_whole" ["thing"] 1 sp_whole) (C_greatest_divisor : Cal P w K mg base "greatest_divisor" ["one", "other"] 1 sp_gcd) : Cal P w K mg base "is_worth" ["thing"] 2 sp_isw := by
 refine aW_ F e9_ (fun _ _ _ _ _ _ us hl => match us, hl with | [_], _ => rfl) ?len ?body
 case len => rintro vs H Q E ⟨a, b, rfl, _⟩; rfl
 case body =>
  intro f cdv A outer s H vs Q E hr h
  obtain ⟨v, o, rfl, hv, bd, k⟩ := h
  refine' ⟨_, ?D, ?R⟩
  case D =>
   refine' aa_ ?g1 ?g2
   case' g1 => refine' ps_if ?g3 ?g4 ar_
   case' g3 => refine' PW.pt ?g6
   case' g6 => refine' pw_or ?g7 ?g8
   case' g7 => refine' d9_ ?g9
   case' g9 => refine' cX_ ?g10
   case' g10 => refine' ah_ hW_ d4_ T.n_isinstance br_ ?g11
   case' g11 => refine' pa_c (pv1 0 rfl cv_) ?g13
   case' g13 => refine' pa_c ?g14 ab_
   case g14 => exact kp_ fN_ T.n_tuple mT_
   case' g8 => refine' fc_ ?g16
   case' g16 => refine' ak_ op_ne ?g17 ac_ (nomark _)
   case' g17 => refine' ah_ ap_ hi_ T.n_len aG_ ?g19
   case' g19 => refine' pa_c (pv1 0 rfl cv_) ab_
   case' g4 => refine' ae_ ?g22
   case' g22 => refine' ao_ pe_bl
   case' g2 => refine' aa_ ?g24 ?g25
   case' g24 => refine' af_ (i := 1) e9_.nd rfl cw_ ?g26
   case' g26 => refine' pe_ix bc_ (pv1 0 rfl cv_) ac_ (fun _ _ => rfl)
   case' g25 => refine' aa_ ?g29 ?g30
   case' g29 => refine' af_ (i := 2) e9_.nd rfl cx_ ?g31
   case' g31 => refine' pe_ix bc_ (pv1 0 rfl cv_) ac_ (fun _ _ => rfl)
   case' g30 => refine' aa_ ?g34 ?g35
   case' g34 => refine' ps_if ?g36 ?g37 ar_
   case' g36 => refine' PW.pt ?g39
   case' g39 => refine' pw_or ?g40 ?g41
   case' g40 => refine' d9_ ?g42
   case' g42 => refine' cX_ ?g43
   case' g43 => refine' al_ C_is_whole (hr.mono (by decide)) co_ ?g44
   case' g44 => refine' pa_c (pv1 1 rfl cw_) ab_
   case' g41 => refine' fc_ ?g47
   case' g47 => refine' d9_ ?g48
   case' g48 => refine' cX_ ?g49
   case' g49 => refine' al_ C_is_whole (hr.mono (by decide)) co_ ?g50
   case' g50 => refine' pa_c (pv1 2 rfl cx_) ab_
   case' g37 => refine' ae_ ?g53
   case' g53 => refine' ao_ pe_bl
   case' g35 => refine' ae_ ?g55
   case' g55 => refine' ao_ ?g56
   case' g56 => refine' kh_ ?g57 ?g58
   case' g57 => refine' c9_ op_gt (pv1 1 rfl cw_) ac_ (nomark _)
   case' g58 => refine' kh_ ?g61 ?g62
   case' g61 => refine' c9_ op_gt (pv1 2 rfl cx_) ac_ (nomark _)
   case' g62 => refine' kg_ ?g65
   case' g65 => refine' c9_ op_eq ?g66 ac_ (nomark _)
   case' g66 => refine' al_ C_greatest_divisor (hr.mono (by decide)) cy_ ?g68
   case' g68 => refine' pa_c (pv1 1 rfl cw_) ?g70
   case' g70 => refine' pa_c (pv1 2 rfl cx_) ab_
  case R =>
   walk_at "rd"
   cases o with
   | none =>
    cases hv
    refine ⟨_, rfl, ?_⟩
    rw [if_pos (by decide)]
    exact k _ (Same.refl _)
   | some x =>
    obtain ⟨p, rfl, hp⟩ := hv
    obtain ⟨b1, b2⟩ := bd x rfl
    refine ⟨"tuple", by simp [kindV, hp], ?_⟩
    rw [if_neg (by decide)]
    refine ⟨_, rfl, _, .inr hp, ?_⟩
    rw [if_neg (by simp)]
    refine ⟨_, rfl, _, hp, _, atI_0, _, rfl, _, hp, _, atI_1, _, rfl, fun H1 e1 => ⟨true, rfl, ?_⟩⟩
    rw [if_neg (by decide)]
    refine ⟨_, rfl, fun H2 e2 => ⟨true, rfl, ?_⟩⟩
    rw [if_neg (by decide)]
    refine ⟨_, rfl, ?_⟩
    have eW : (some x).any isW = isW x := rfl
    rw [eW] at k
    unfold isW at k
    refine ite2 (fun h1 => ?_) (fun h1 => ?_)
    ·refine ⟨_, rfl, ite2 (fun h2 => ?_) (fun h2 => ?_)⟩
     ·refine ⟨x.1, x.2, rfl, by omega, by omega, eo_ b1, eo_ b2, fun H3 e3 => ⟨rfl, ?_⟩⟩
      have e : decide (V.int ((Int.gcd x.1 x.2 : Nat) : Int) = V.int 1) = decide (Int.gcd x.1 x.2 = 1) := by
       refine decide_eq_decide.mpr ⟨fun z => ?_, fun z => by rw [z]; rfl⟩
       injection z with z
       omega
      rw [e]
      have := k H3 ((e1.trans e2).trans e3)
      rw [decide_eq_true (show 0 < x.1 from h1), decide_eq_true (show 0 < x.2 from h2)] at this
      exact this
     ·have := k H2 (e1.trans e2)
      rw [decide_eq_false (show ¬ 0 < x.2 from h2), Bool.and_false] at this
      exact this
    ·have := k H2 (e1.trans e2)
     rw [decide_eq_false (show ¬ 0 < x.1 from h1)] at this
     exact this
theorem nL_ : ∀ c ∈ List.range 128, (!(Builtin.Str.occurrences (Str.ofString "abcdefghijklmnopqrstuvwxyz0123456789") ⟨#[c]⟩ 0 (Str.ofString "abcdefghijklmnopqrstuvwxyz0123456789").length 1).isEmpty) = sgs.contains c := by decide +kernel
def Wd (x : Str) : Prop := x.length ≤ 30 ∧ ∀ c ∈ x.cps.toList, c < 128
def isNm (x : Str) : Bool := decide (1 ≤ x.length) && decide (x.length ≤ 8) && x.cps.toList.all fun c => sgs.contains c
theorem hj_ {x : Str} (p : Nat → Bool) : ((List.range x.cps.size).map fun j => p (x.cps.getD j 0)).all id = x.cps.toList.all p := by
 have e : (List.range x.cps.size).map (fun j => p (x.cps.getD j 0)) = x.cps.toList.map p := by
  apply List.ext_getElem
  ·simp
  ·intro i h1 h2
   simp at h1
   simp [h1, Array.getD]
 rw [e, List.all_map]
 rfl
theorem ii_ {x : Str} (h : Wd x) : (x.cps.all fun c => decide (c < 128)) = true := Array.all_eq_true.mpr fun i hi => decide_eq_true (h.2 _ (by rw [Array.mem_toList_iff]; exact Array.getElem_mem hi))
theorem gC_ {x : Str} {j c : Nat} (h : x.cps[j]? = some c) : x.cps.getD j 0 = c := by
 obtain ⟨hj, e⟩ := Array.getElem?_eq_some_iff.mp h
 rw [Array.getD, dif_pos hj]
 exact e
abbrev s_is_name : Stmt := stN 9
theorem ld_ : FnScope ["text"] ["text"] (defScope s_is_name) := ⟨rfl, rfl, rfl, by decide +kernel, rfl, by decide +kernel, by decide +kernel⟩
theorem gb_ : LK s_is_name "text" .local := by decide +kernel
theorem dS_ : LK s_is_name "LONGEST_NAME" .globalImplicit := by decide +kernel
theorem hv_ : LK s_is_name "all" .globalImplicit := by decide +kernel
theorem hw_ : LK s_is_name "len" .globalImplicit := by decide +kernel
def sp_isn : Sp := fun vs H Q _ => ∃ (x : Str), vs = [.str x] ∧ Wd x ∧ ∀ H', Same H H' → Q (.bl (isNm x)) H'
theorem le_ (T : Txt K mg) (F : Fn0 K mg "is_name" s_is_name) : Cal P w K mg base "is_name" ["text"] 1 sp_isn := by
 refine aW_ F ld_ (fun _ _ _ _ _ _ us hl => match us, hl with | [_], _ => rfl) ?len ?body
 case len => rintro vs H Q E ⟨a, rfl, _⟩; rfl
 case body =>
  intro f cdv A outer s H vs Q E hr h
  obtain ⟨x, rfl, ok, k⟩ := h
  have l30 := ok.1
  refine' ⟨_, ?D, ?R⟩
  case D =>
   refine' aa_ ?g1 ?g2
   case' g1 => refine' ps_if ?g3 ?g4 ar_
   case' g3 => refine' d9_ ?g6
   case' g6 => refine' hT_ op_le op_le ac_ ?g8 ?g9
   case' g8 => refine' ah_ aY_ hw_ T.n_len aG_ ?g10
   case' g10 => refine' pa_c (pv1 0 rfl gb_) ab_
   case g9 => exact gM_ T.c_LONGEST_NAME dS_
   case' g4 => refine' ae_ ?g13
   case' g13 => refine' ao_ pe_bl
   case' g2 => refine' ae_ ?g15
   case' g15 => refine' ao_ ?g16
   case' g16 => refine' ah_ (g8_ rfl) hv_ T.n_all lI_ ?g17
   case' g17 => refine' pa_c ?g18 ab_
   case' g18 => refine' cC_ (N' := ["sign"]) (ix := [none]) rfl rfl (bN_ ?g20) ?g21 (fun _ _ _ => ?g22) (fun _ _ _ => ?g23) (fun _ _ _ => ?g24)
   case g20 => exact (by show scpB (defScope s_is_name) ["text"] _ _ _ = true; decide +kernel)
   case' g21 => refine' gA_ (pv1 0 rfl gb_)
   case g22 => exact aj_ (i := 0) (by show List.Nodup (["sign"] : List Str); decide +kernel) rfl rfl
   case g23 => exact c0_
   case' g24 => refine' c9_ iC_ (pv1 0 rfl rfl) ?g27 (by with_unfolding_all rfl)
   case g27 => exact l3_ T.c_NAME_SIGNS rfl
  case R =>
   walk_at "rd"
   have sz : x.length ≤ sizeLine := Nat.le_of_lt (small1000 (by omega))
   refine ⟨sz, ?_⟩
   unfold isNm at k
   refine ite2 (fun h1 => ?_) (fun h1 => ?_)
   ·refine ite2 (fun h2 => ?_) (fun h2 => ?_)
    ·have := k H (Same.refl _)
     rw [decide_eq_false (show ¬ x.length ≤ 8 by omega), Bool.and_false, Bool.false_and] at this
     exact this
    ·rw [decide_eq_true (show 1 ≤ x.length by omega), decide_eq_true (show x.length ≤ 8 by omega), Bool.and_self, Bool.true_and] at k
     refine ⟨ii_ ok, ?_⟩
     have nz : x.cps.size ≤ 30 := l30
     refine eA_ (n := x.cps.size) (Pσ := fun σ => ∃ e, σ = [e]) (bs := fun _ => true) (val := fun j => .bl (sgs.contains (x.cps.getD j 0))) ⟨_, rfl⟩ (by omega) (fun j Hj hj sj => hj) (fun Hj sj => Nat.le_refl _) ?_ ?_
     ·rintro Dc j y σ' H1 H1' hDc hDo hs1 hj ⟨rfl, c, hc, rfl⟩ ⟨e, rfl⟩ Y R kY kR
      walk_at "rd"
      have hlow : c ∈ List.range 128 := List.mem_range.mpr (ok.2 c (by rw [Array.mem_toList_iff]; exact Array.mem_of_getElem? hc))
      rw [nL_ c hlow]
      have := kY rfl
      rw [gC_ hc] at this
      exact this _ _ ⟨_, rfl⟩ (Same.refl _)
     ·intro D H1 hD s1 hDv
      have e : ((List.range x.cps.size).filter fun _ => true).map (fun j => V.bl (sgs.contains (x.cps.getD j 0))) = ((List.range x.cps.size).map fun j => sgs.contains (x.cps.getD j 0)).map V.bl := by
       rw [List.filter_eq_self.mpr fun _ _ => rfl, List.map_map]
       rfl
      rw [e] at hDv
      refine ⟨D, rfl, _, hDv, ?_⟩
      rw [hj_ (fun c => sgs.contains c)]
      exact k H1 s1
   ·have := k H (Same.refl _)
    rw [decide_eq_false (show ¬ 1 ≤ x.length by omega)] at this
    exact this
def tx (n : Int) : Str := Str.ofString (toString n)
theorem ji_ (a b : String) : Str.ofString (a ++ b) = Str.ofString a ++ Str.ofString b := by
 rw [Str.ofString_eq_toList, Str.ofString_eq_toList, Str.ofString_eq_toList]
 show _ = (⟨(a.toList.map Char.toNat).toArray ++ (b.toList.map Char.toNat).toArray⟩ : Str)
 rw [String.toList_append, List.map_append, List.append_toArray]
theorem pf_ {n : Int} (h : n < 0) : tx n = Str.ofString "-" ++ tx (-n) := by
 obtain ⟨m, rfl⟩ := Int.eq_negSucc_of_lt_zero h
 show Str.ofString ("-" ++ Nat.repr (m + 1)) = Str.ofString "-" ++ Str.ofString (toString (((m + 1 : Nat) : Int)))
 rw [ji_]
 rfl
theorem ms_ {n : Int} {k : Nat} (hk : 0 < k) (h : n.natAbs < 10 ^ k) : (tx n).length ≤ k + 1 := by
 unfold tx
 rw [PySem.ofString_length]
 exact int_text_length_le10 hk h
theorem ox_ (i : Str) : i ++ Str.empty = i := by
 show (⟨i.cps ++ #[]⟩ : Str) = i
 rw [Array.append_empty]
theorem cN_ (sep : Str) (xs : List Str) : Txt.join sep xs = Str.join sep xs := StrLaws.glued_eq_join sep xs
theorem ne_ (sep x : Str) : Txt.join sep [x] = x := by rw [cN_]; rfl
def fr (p : Int × Int) : Str := tx p.1 ++ Str.ofString "/" ++ tx p.2
def Bd (p : Int × Int) : Prop := p.1.natAbs < 10 ^ 64 ∧ p.2.natAbs < 10 ^ 64
theorem ij_ {sep : Str} {xs : List Str} {B : Nat} (hB : ∀ y ∈ xs, y.length ≤ B) (hs : sep.length ≤ 1) (h : xs.length * B + xs.length ≤ 100000) : JoinOk sep xs = true ∧ (Txt.join sep xs).length ≤ xs.length * B + xs.length := by
 have hm : xs.length * sep.length ≤ xs.length := by
  calc xs.length * sep.length ≤ xs.length * 1 := Nat.mul_le_mul_left _ hs
   _ = xs.length := Nat.mul_one _
 constructor
 ·unfold JoinOk
  rw [StrLaws.joinFits hB (by omega)]
  rfl
 ·rw [cN_]
  have h1 := StrLaws.join_length_le sep xs
  have h2 := StrLaws.sumLen_le xs hB
  omega
theorem jj_ {m : Int} (h : m.natAbs < 10 ^ 64) : m.natAbs.log2 < 1920 := by
 by_cases h0 : m.natAbs = 0
 ·rw [h0]; decide
 ·rw [Nat.log2_lt h0]
  exact Nat.lt_of_lt_of_le h (by decide +kernel)
theorem oy_ (x y : Str) : Txt.join (Str.ofString "") [x, y] = x ++ y := by
 rw [cN_]
 show x ++ Str.ofString "" ++ y = x ++ y
 have e : Str.ofString "" = Str.empty := by decide +kernel
 rw [e, ox_]
abbrev s_whole_shown : Stmt := stN 22
theorem b7_ : FnScope ["number", "block", "blocks", "left"] ["number"] (defScope s_whole_shown) := ⟨rfl, rfl, rfl, by decide +kernel, rfl, by decide +kernel, by decide +kernel⟩
theorem d2_ : LK s_whole_shown "number" .local := by decide +kernel
theorem d3_ : LK s_whole_shown "block" .local := by decide +kernel
theorem by_ : LK s_whole_shown "blocks" .local := by decide +kernel
theorem cn_ : LK s_whole_shown "left" .local := by decide +kernel
theorem fs_ : LK s_whole_shown "abs" .globalImplicit := by decide +kernel
theorem dT_ : LK s_whole_shown "reversed" .globalImplicit := by decide +kernel
theorem ft_ : LK s_whole_shown "str" .globalImplicit := by decide +kernel
def sp_wsh : Sp := fun vs H Q _ => ∃ n : Int, vs = [.int n] ∧ n.natAbs < 10 ^ 64 ∧ ∀ H', Same H H' → Q (.str (tx n)) H'
theorem hx_ (T : Txt K mg) (F : Fn0 K mg "whole_shown" s_whole_shown) : Cal P w K mg base "whole_shown" ["number"] 1 sp_wsh := by
 refine aW_ F b7_ (fun _ _ _ _ _ _ us hl => match us, hl with | [_], _ => rfl) ?len ?body
 case len => rintro vs H Q E ⟨a, rfl, _⟩; rfl
 case body =>
  intro f cdv A outer s H vs Q E hr h
  obtain ⟨n, rfl, hn, k⟩ := h
  refine' ⟨_, ?D, ?R⟩
  case D =>
   refine' aa_ ?g1 ?g2
   case' g1 => refine' af_ (i := 1) b7_.nd rfl d3_ ?g3
   case' g3 => refine' pe_op kk_ ac_ ac_
   case' g2 => refine' aa_ ?g6 ?g7
   case' g6 => refine' af_ (i := 2) b7_.nd rfl by_ ?g8
   case' g8 => refine' bh_ ab_
   case' g7 => refine' aa_ ?g10 ?g11
   case' g10 => refine' af_ (i := 3) b7_.nd rfl cn_ ?g12
   case' g12 => refine' ah_ gs_ fs_ T.n_abs kq_ ?g13
   case' g13 => refine' pa_c (pv1 0 rfl d2_) ab_
   case' g11 => refine' aa_ ?g16 ?g17
   case' g16 => refine' ew_ PassesOwn.never ?g18 ?g19
   case' g18 => refine' ak_ op_ge (pv1 3 rfl cn_) (pv1 1 rfl d3_) (nomark _)
   case g19 => exact gI_
   case' g17 => refine' aa_ ?g22 ?g23
   case' g22 => refine' aZ_ ?g24
   case' g24 => refine' pe_bm PySem.F.plainAttrs_list PySem.F.slot_list_append PySem.F.type_list_append bi_ (pv1 2 rfl by_) ?g26
   case' g26 => refine' pa_c ?g27 ab_
   case' g27 => refine' dA_ fX_ ft_ T.n_str nz_ ?g29
   case' g29 => refine' pa_c (pv1 3 rfl cn_) ab_
   case' g23 => refine' aa_ ?g32 ?g33
   case' g32 => refine' ps_if ?g34 ?g35 ar_
   case' g34 => refine' ak_ op_lt (pv1 0 rfl d2_) ac_ (nomark _)
   case' g35 => refine' ae_ ?g39
   case' g39 => refine' aZ_ ?g40
   case' g40 => refine' pe_bm PySem.F.plainAttrs_list PySem.F.slot_list_append PySem.F.type_list_append bi_ (pv1 2 rfl by_) ?g42
   case' g42 => refine' pa_c aF_ ab_
   case' g33 => refine' ae_ ?g45
   case' g45 => refine' ao_ ?g46
   case' g46 => refine' g6_ rfl aF_ dT_ T.n_reversed ?g48
   case' g48 => refine' pa_c (pv1 2 rfl by_) ab_
  case R =>
   walk_at "rd"
   refine ⟨by decide, by decide, by decide, by decide, fun l nl => ?_⟩
   have hb : (10 : Int) ^ Int.toNat 64 = ((10 ^ 64 : Nat) : Int) := by decide +kernel
   rw [hb]
   obtain ⟨m, hm, hmn⟩ : ∃ m : Int, (if n < 0 then -n else n) = m ∧ m = n.natAbs := ⟨_, rfl, by split <;> omega⟩
   rw [hm]
   refine fD_ (fun σ H1 => σ = [some (.int n), some (.int ((10 ^ 64 : Nat) : Int)), some (.ref l), some (.int m)] ∧ H1 = upd H l (.lst [])) (fun _ _ => 0) ⟨rfl, rfl⟩ ?_
   rintro σ H1 ⟨rfl, rfl⟩
   walk_at "rd"
   refine ite2 (fun hle => absurd hle (by rw [hmn]; omega)) (fun _ => ?_)
   have hm64 : m.natAbs < 10 ^ 64 := by rw [hmn]; simpa using hn
   refine ⟨.inl ⟨_, .inl (.inl ad_)⟩, jj_ hm64, small1000 (by decide), ?_⟩
   have tl := ms_ (k := 64) (by decide) hm64
   have e0 : (Str.ofString "").length = 0 := by decide +kernel
   have e1 : (Str.ofString "-").length = 1 := by decide +kernel
   refine ite2 (fun h0 => ?_) (fun h0 => ?_)
   ·have em : m = -n := by rw [if_pos h0] at hm; exact hm.symm
    refine ⟨.inl ⟨_, .inl (.inl ad_)⟩, small1000 (by show 1 ≤ 1000; decide), [tx m, Str.ofString "-"], rfl, ?_, ?_⟩
    ·exact (ij_ (B := 65) (fun y hy => by
      rcases List.mem_cons.mp hy with rfl | hy
      ·omega
      ·rw [List.mem_singleton.mp hy]; exact tl) (by omega) (by simp)).1
    ·show Q (.str (Txt.join (Str.ofString "") [Str.ofString "-", tx m])) _
     rw [oy_, em, ← pf_ h0]
     exact k _ (Same.new nl)
   ·have em : m = n := by rw [if_neg h0] at hm; exact hm.symm
    refine ⟨[tx m], rfl, ?_, ?_⟩
    ·exact (ij_ (B := 65) (fun y hy => by rw [List.mem_singleton.mp hy]; exact tl) (by omega) (by simp)).1
    ·show Q (.str (Txt.join (Str.ofString "") [tx m])) _
     rw [ne_, em]
     exact k _ (Same.new nl)
abbrev s_fraction_shown : Stmt := stN 23
theorem bX_ : FnScope ["value", "top", "bottom"] ["value"] (defScope s_fraction_shown) := ⟨rfl, rfl, rfl, by decide +kernel, rfl, by decide +kernel, by decide +kernel⟩
theorem cO_ : LK s_fraction_shown "value" .local := by decide +kernel
theorem cP_ : LK s_fraction_shown "top" .local := by decide +kernel
theorem cQ_ : LK s_fraction_shown "bottom" .local := by decide +kernel
theorem bj_ : LK s_fraction_shown "whole_shown" .globalImplicit := by decide +kernel
def sp_frac : Sp := fun vs H Q _ => ∃ (v : V) (p : Int × Int), vs = [v] ∧ Rep H v (dF p) ∧ Bd p ∧ ∀ H', Same H H' → Q (.str (fr p)) H'
theorem fO_ (T : Txt K mg) (F : Fn0 K mg "fraction_shown" s_fraction_shown) (C_whole_shown : Cal P w K mg base "whole_shown" ["number"] 1 sp_wsh) : Cal P w K mg base "fraction_shown" ["value"] 2 sp_frac := by
 refine aW_ F bX_ (fun _ _ _ _ _ _ us hl => match us, hl with | [_], _ => rfl) ?len ?body
 case len => rintro vs H Q E ⟨a, b, rfl, _⟩; rfl
 case body =>
  intro f cdv A outer s H vs Q E hr h
  obtain ⟨v, p, rfl, hv, bd, k⟩ := h
  obtain ⟨q, rfl, hq⟩ := mf_ hv
  refine' ⟨_, ?D, ?R⟩
  case D =>
   refine' aa_ ?g1 ?g2
   case' g1 => refine' af_ (i := 1) bX_.nd rfl cP_ ?g3
   case' g3 => refine' al_ C_whole_shown (hr.mono (by decide)) bj_ ?g4
   case' g4 => refine' pa_c ?g5 ab_
   case' g5 => refine' pe_ix bc_ (pv1 0 rfl cO_) ac_ (fun _ _ => rfl)
   case' g2 => refine' aa_ ?g9 ?g10
   case' g9 => refine' af_ (i := 2) bX_.nd rfl cQ_ ?g11
   case' g11 => refine' al_ C_whole_shown (hr.mono (by decide)) bj_ ?g12
   case' g12 => refine' pa_c ?g13 ab_
   case' g13 => refine' pe_ix bc_ (pv1 0 rfl cO_) ac_ (fun _ _ => rfl)
   case' g10 => refine' ae_ ?g17
   case' g17 => refine' ao_ ?g18
   case' g18 => refine' na_ (pv1 1 rfl cP_) aF_ (pv1 2 rfl cQ_)
  case R =>
   walk_at "rd"
   have e1 : (Str.ofString "/").length = 1 := by decide +kernel
   have l1 := ms_ (k := 64) (by decide) bd.1
   have l2 := ms_ (k := 64) (by decide) bd.2
   have sz : 1000 ≤ sizeLine := by rw [sizeLine_eq]; decide
   refine ⟨_, hq, _, atI_0, p.1, rfl, bd.1, fun H1 s1 => ⟨_, s1 _ _ hq, _, atI_1, p.2, rfl, bd.2, fun H2 s2 => ⟨_, rfl, by omega, by omega, _, rfl, by omega, k _ (s1.trans s2)⟩⟩⟩
def figs : List Nat := (Str.ofString "0123456789").cps.toList
theorem mt_ : ∀ c ∈ List.range 128, (!(Builtin.Str.occurrences (Str.ofString "0123456789") ⟨#[c]⟩ 0 (Str.ofString "0123456789").length 1).isEmpty) = figs.contains c := by decide +kernel
theorem nf_ : ∀ c ∈ figs, 48 ≤ c ∧ c ≤ 57 := by decide +kernel
structure NumT (x : Str) : Prop where
 l1 : 1 ≤ x.length
 l4 : x.length ≤ 4
 fig : ∀ c ∈ x.cps.toList, c ∈ figs
theorem oz_ : ∀ m ∈ List.range 1001, m = 0 ∨ ((1 ≤ ((Nat.toDigits 10 m).map Char.toNat).length ∧ ((Nat.toDigits 10 m).map Char.toNat).length ≤ 4) ∧ (∀ c ∈ (Nat.toDigits 10 m).map Char.toNat, c ∈ figs)) := by decide +kernel
theorem num_t {n : Int} (h0 : 0 < n) (h1 : n ≤ 1000) : NumT (tx n) := by
 obtain ⟨m, rfl⟩ := Int.eq_ofNat_of_zero_le (Int.le_of_lt h0)
 have e : (tx (m : Int)).cps.toList = (Nat.toDigits 10 m).map Char.toNat := PySem.W.KIN.signs_num m
 obtain ⟨⟨h2, h3⟩, h4⟩ := (oz_ m (List.mem_range.mpr (by omega))).resolve_left (by omega)
 have el : (tx (m : Int)).length = ((Nat.toDigits 10 m).map Char.toNat).length := by rw [← e]; rfl
 exact ⟨by rw [el]; exact h2, by rw [el]; exact h3, by rw [e]; exact h4⟩
def allF (x : Str) : Bool := x.cps.toList.all fun c => figs.contains c
theorem eD_ {x : Str} (h : allF x = true) : PySem.NumText.AllDigits x.cps.toList := fun c hc => nf_ c (List.contains_iff_mem.mp (List.all_eq_true.mp h c hc))
def isFig (x : Str) : Bool := !decide (x.length = 0) && allF x && (decide (x.length = 1) || !decide (x.cps.toList[0]? = some 48))
def valOf (x : Str) : Nat := PySem.NumText.digitsVal x.cps.toList
def numOf (x : Str) : Option Int := if isFig x = true then some (valOf x) else none
theorem nM_ {l : List Nat} (h : PySem.NumText.AllDigits l) : PySem.NumText.digitsVal l < 10 ^ l.length := by
 generalize hn : l.length = n
 induction n generalizing l with
 | zero => rw [List.eq_nil_of_length_eq_zero hn]; decide
 | succ n ih =>
  have hne : l ≠ [] := by intro e; rw [e] at hn; cases hn
  have e := List.dropLast_concat_getLast hne
  generalize l.dropLast = ini at e
  generalize l.getLast hne = c at e
  subst e
  have h1 := ih (l := ini) (fun d hd => h d (List.mem_append_left _ hd)) (by rw [List.length_append, List.length_singleton] at hn; omega)
  have h2 := h c (List.mem_append_right _ (List.mem_singleton.mpr rfl))
  rw [PySem.NumText.digitsVal_snoc, Nat.pow_succ]
  omega
theorem gc_ {x : Str} (hl : x.length ≤ 30) {n : Int} (h : numOf x = some n) : 0 ≤ n ∧ n.natAbs < 10 ^ 30 := by
 unfold numOf at h
 split at h
 ·rename_i hf
  have ha : allF x = true := by
   unfold isFig at hf
   exact (Bool.and_eq_true_iff.mp (Bool.and_eq_true_iff.mp hf).1).2
  have h1 := nM_ (eD_ ha)
  have h2 : 10 ^ x.cps.toList.length ≤ 10 ^ 30 := Nat.pow_le_pow_right (by decide) hl
  have e : n = (valOf x : Nat) := (Option.some.inj h).symm
  unfold valOf at e
  omega
 ·cases h
theorem nN_ {x : Str} (h0 : ¬ x.length = 0) (h : allF x = true) (hl : x.length ≤ 30) : PySem.intText? x = some ((valOf x : Nat) : Int) :=
 PySem.intText_digits (eD_ h) (fun e => h0 (by have := congrArg List.length e; rw [Array.length_toList] at this; exact this)) (by omega)
abbrev s_is_in_figures : Stmt := stN 24
theorem gm_ : FnScope ["text"] ["text"] (defScope s_is_in_figures) := ⟨rfl, rfl, rfl, by decide +kernel, rfl, by decide +kernel, by decide +kernel⟩
theorem bo_ : LK s_is_in_figures "text" .local := by decide +kernel
theorem eG_ : LK s_is_in_figures "all" .globalImplicit := by decide +kernel
theorem cp_ : LK s_is_in_figures "len" .globalImplicit := by decide +kernel
def sp_fig : Sp := fun vs H Q _ => ∃ (x : Str), vs = [.str x] ∧ Wd x ∧ ∀ H', Same H H' → Q (.bl (isFig x)) H'
theorem gn_ (T : Txt K mg) (F : Fn0 K mg "is_in_figures" s_is_in_figures) : Cal P w K mg base "is_in_figures" ["text"] 1 sp_fig := by
 refine aW_ F gm_ (fun _ _ _ _ _ _ us hl => match us, hl with | [_], _ => rfl) ?len ?body
 case len => rintro vs H Q E ⟨a, rfl, _⟩; rfl
 case body =>
  intro f cdv A outer s H vs Q E hr h
  obtain ⟨x, rfl, ok, k⟩ := h
  have l30 := ok.1
  refine' ⟨_, ?D, ?R⟩
  case D =>
   refine' aa_ ?g1 ?g2
   case' g1 => refine' ps_if ?g3 ?g4 ar_
   case' g3 => refine' PW.pt ?g6
   case' g6 => refine' pw_or ?g7 ?g8
   case' g7 => refine' ak_ op_eq ?g9 ac_ (nomark _)
   case' g9 => refine' ah_ aY_ cp_ T.n_len aG_ ?g11
   case' g11 => refine' pa_c (pv1 0 rfl bo_) ab_
   case' g8 => refine' fc_ ?g14
   case' g14 => refine' d9_ ?g15
   case' g15 => refine' cX_ ?g16
   case' g16 => refine' ah_ (g8_ rfl) eG_ T.n_all lI_ ?g17
   case' g17 => refine' pa_c ?g18 ab_
   case' g18 => refine' cC_ (N' := ["sign"]) (ix := [none]) rfl rfl (bN_ ?g20) ?g21 (fun _ _ _ => ?g22) (fun _ _ _ => ?g23) (fun _ _ _ => ?g24)
   case g20 => exact (by show scpB (defScope s_is_in_figures) ["text"] _ _ _ = true; decide +kernel)
   case' g21 => refine' gA_ (pv1 0 rfl bo_)
   case g22 => exact aj_ (i := 0) (by show List.Nodup (["sign"] : List Str); decide +kernel) rfl rfl
   case g23 => exact c0_
   case' g24 => refine' c9_ iC_ (pv1 0 rfl rfl) ?g27 (by with_unfolding_all rfl)
   case g27 => exact l3_ T.c_FIGURES rfl
   case' g4 => refine' ae_ ?g28
   case' g28 => refine' ao_ pe_bl
   case' g2 => refine' ae_ ?g30
   case' g30 => refine' ao_ ?g31
   case' g31 => refine' pe_or ?g32 ?g33
   case' g32 => refine' c9_ op_eq ?g34 ac_ (nomark _)
   case' g34 => refine' ah_ aY_ cp_ T.n_len aG_ ?g36
   case' g36 => refine' pa_c (pv1 0 rfl bo_) ab_
   case' g33 => refine' kg_ ?g39
   case' g39 => refine' c9_ op_ne ?g40 aF_ (nomark _)
   case' g40 => refine' pe_ix gJ_ (pv1 0 rfl bo_) ac_ (fun _ _ => rfl)
  case R =>
   walk_at "rd"
   have sz : x.length ≤ sizeLine := Nat.le_of_lt (small1000 (by omega))
   refine ⟨sz, ?_⟩
   unfold isFig at k
   refine ite2 (fun h0 => ?_) (fun h0 => ?_)
   ·have := k H (Same.refl _)
    rw [decide_eq_true (show x.length = 0 by omega)] at this
    exact this
   have h0' : ¬ x.length = 0 := by omega
   rw [decide_eq_false h0', Bool.not_false, Bool.true_and] at k
   refine ⟨ii_ ok, ?_⟩
   have nz : x.cps.size ≤ 30 := l30
   refine eA_ (n := x.cps.size) (Pσ := fun σ => ∃ e, σ = [e]) (bs := fun _ => true) (val := fun j => .bl (figs.contains (x.cps.getD j 0))) ⟨_, rfl⟩ (by omega) (fun j Hj hj sj => hj) (fun Hj sj => Nat.le_refl _) ?_ ?_
   ·rintro Dc j y σ' H1 H1' hDc hDo hs1 hj ⟨rfl, c, hc, rfl⟩ ⟨e, rfl⟩ Y R kY kR
    walk_at "rd"
    have hlow : c ∈ List.range 128 := List.mem_range.mpr (ok.2 c (by rw [Array.mem_toList_iff]; exact Array.mem_of_getElem? hc))
    rw [mt_ c hlow]
    have := kY rfl
    rw [gC_ hc] at this
    exact this _ _ ⟨_, rfl⟩ (Same.refl _)
   ·intro D H1 hD s1 hDv
    have e : ((List.range x.cps.size).filter fun _ => true).map (fun j => V.bl (figs.contains (x.cps.getD j 0))) = ((List.range x.cps.size).map fun j => figs.contains (x.cps.getD j 0)).map V.bl := by
     rw [List.filter_eq_self.mpr fun _ _ => rfl, List.map_map]
     rfl
    rw [e] at hDv
    refine ⟨D, rfl, _, hDv, ?_⟩
    rw [hj_ (fun c => figs.contains c)]
    refine ite2 (fun ha => ?_) (fun ha => ?_)
    ·have := k H1 s1
     rw [show allF x = false from ha] at this
     exact this
    have ha' : allF x = true := Bool.not_eq_false _ ▸ ha
    rw [ha', Bool.true_and] at k
    refine ⟨sz, ite2 (fun h1 => ?_) (fun h1 => ?_)⟩
    ·have := k H1 s1
     rw [decide_eq_true (show x.length = 1 by omega)] at this
     exact this
    rw [decide_eq_false (show ¬ x.length = 1 by omega), Bool.false_or] at k
    have l1 : 0 < x.cps.toList.length := by rw [Array.length_toList]; exact Nat.pos_of_ne_zero h0'
    refine ⟨sz, x.cps.toList[0], b9_ (by decide) (List.getElem?_eq_getElem l1), ?_⟩
    have e3 : decide ((⟨#[x.cps.toList[0]]⟩ : Str) = Str.ofString "0") = decide (x.cps.toList[0]? = some 48) := by
     rw [List.getElem?_eq_getElem l1]
     have e10 : Str.ofString "0" = ⟨#[48]⟩ := by decide +kernel
     rw [e10]
     refine decide_eq_decide.mpr ⟨fun z => ?_, fun z => by rw [Option.some.inj z]⟩
     have e9 := congrArg (fun y : Str => y.cps.toList) z
     exact congrArg some (List.cons.inj e9).1
    rw [e3]
    exact k H1 s1
theorem OV.mono {H H' : Hp} {v : V} {o : Option (Int × Int)} (h : OV H v o) (s : Same H H') : OV H' v o := by
 cases o with
 | none => exact h
 | some x =>
  obtain ⟨p, e, hp⟩ := h
  exact ⟨p, e, s _ _ hp⟩
theorem OV.of_new {H H' : Hp} {v : V} {o : Option (Int × Int)} (h : OV (newH H H') v o) : OV H' v o := by
 cases o with
 | none => exact h
 | some x =>
  obtain ⟨p, e, hp⟩ := h
  exact ⟨p, e, (aJ_ hp).2⟩
def vO : Option Int → V
 | none => .non
 | some n => .int n
abbrev s_whole_from_text : Stmt := stN 25
theorem a1_ : FnScope ["text", "block", "ahead", "number", "start"] ["text"] (defScope s_whole_from_text) := ⟨rfl, rfl, rfl, by decide +kernel, rfl, by decide +kernel, by decide +kernel⟩
theorem a4_ : LK s_whole_from_text "text" .local := by decide +kernel
theorem eH_ : LK s_whole_from_text "block" .local := by decide +kernel
theorem a5_ : LK s_whole_from_text "ahead" .local := by decide +kernel
theorem cq_ : LK s_whole_from_text "number" .local := by decide +kernel
theorem eI_ : LK s_whole_from_text "start" .local := by decide +kernel
theorem a8_ : LK s_whole_from_text "BLOCK_LENGTH" .globalImplicit := by decide +kernel
theorem d5_ : LK s_whole_from_text "int" .globalImplicit := by decide +kernel
theorem bM_ : LK s_whole_from_text "is_in_figures" .globalImplicit := by decide +kernel
theorem bP_ : LK s_whole_from_text "len" .globalImplicit := by decide +kernel
theorem do_ : LK s_whole_from_text "range" .globalImplicit := by decide +kernel
def sp_wft : Sp := fun vs H Q _ => ∃ (x : Str), vs = [.str x] ∧ Wd x ∧ ∀ H', Same H H' → Q (vO (numOf x)) H'
theorem fu_ (T : Txt K mg) (F : Fn0 K mg "whole_from_text" s_whole_from_text) (C_is_in_figures : Cal P w K mg base "is_in_figures" ["text"] 1 sp_fig) : Cal P w K mg base "whole_from_text" ["text"] 2 sp_wft := by
 refine aW_ F a1_ (fun _ _ _ _ _ _ us hl => match us, hl with | [_], _ => rfl) ?len ?body
 case len => rintro vs H Q E ⟨a, rfl, _⟩; rfl
 case body =>
  intro f cdv A outer s H vs Q E hr h
  obtain ⟨x, rfl, ok, k⟩ := h
  have l30 := ok.1
  have sz : x.length ≤ sizeLine := Nat.le_of_lt (small1000 (by omega))
  unfold numOf at k
  refine' ⟨_, ?D, ?R⟩
  case D =>
   refine' aa_ ?g1 ?g2
   case' g1 => refine' ps_if ?g3 ?g4 ar_
   case' g3 => refine' d9_ ?g6
   case' g6 => refine' cX_ ?g7
   case' g7 => refine' al_ C_is_in_figures (hr.mono (by decide)) bM_ ?g8
   case' g8 => refine' pa_c (pv1 0 rfl a4_) ab_
   case' g4 => refine' ae_ ?g11
   case' g11 => refine' ao_ ?g12
   case g12 => exact eN_
   case' g2 => refine' aa_ ?g13 ?g14
   case' g13 => refine' af_ (i := 1) a1_.nd rfl eH_ ?g15
   case' g15 => refine' pe_op kk_ ac_ ac_
   case' g14 => refine' aa_ ?g18 ?g19
   case' g18 => refine' af_ (i := 2) a1_.nd rfl a5_ ?g20
   case' g20 => refine' pe_op aw_ ?g21 ?g22
   case' g21 => refine' ah_ aY_ bP_ T.n_len aG_ ?g23
   case' g23 => refine' pa_c (pv1 0 rfl a4_) ab_
   case g22 => exact gM_ T.c_BLOCK_LENGTH a8_
   case' g19 => refine' aa_ ?g26 ?g27
   case' g26 => refine' af_ (i := 3) a1_.nd rfl cq_ ?g28
   case' g28 => refine' gr_ ?g29 ?g30 ac_
   case' g29 => refine' ak_ op_gt (pv1 2 rfl a5_) ac_ (nomark _)
   case' g30 => refine' dA_ g7_ d5_ T.n_int hJ_ ?g34
   case' g34 => refine' pa_c ?g35 ab_
   case' g35 => refine' aL_ db_ (pv1 0 rfl a4_) ?g38 ?g39
   case g38 => exact a2_
   case' g39 => refine' aV_ (pv1 2 rfl a5_)
   case' g27 => refine' aa_ ?g41 ?g42
   case' g41 => refine' cB_ PassesOwn.never rfl ?g43 ?g44 ?g45
   case' g43 => refine' l6_ do_ T.n_range ?g46
   case' g46 => refine' pa_c (pv1 2 rfl a5_) ?g48
   case' g48 => refine' pa_c ?g49 ?g50
   case' g49 => refine' ah_ aY_ bP_ T.n_len aG_ ?g51
   case' g51 => refine' pa_c (pv1 0 rfl a4_) ab_
   case' g50 => refine' pa_c ?g54 ab_
   case g54 => exact gM_ T.c_BLOCK_LENGTH a8_
   case g44 => exact aj_ (i := 4) a1_.nd rfl eI_
   case g45 => exact gI_
   case' g42 => refine' ae_ ?g56
   case' g56 => refine' ao_ (pv1 3 rfl cq_)
  case R =>
   walk_at "rd"
   refine ⟨x, rfl, ok, fun H1 s1 => ⟨_, rfl, ?_⟩⟩
   refine ite2 (fun hf => ?_) (fun hf => ?_)
   ·have := k H1 s1
    rw [if_neg (by rw [hf]; decide)] at this
    exact this
   have hf' : isFig x = true := Bool.not_eq_false _ ▸ hf
   rw [if_pos hf'] at k
   unfold isFig at hf'
   have hf2 := Bool.and_eq_true_iff.mp (Bool.and_eq_true_iff.mp hf').1
   have l1 : ¬ x.length = 0 := by
    have := hf2.1
    simpa using this
   have v := nN_ l1 hf2.2 l30
   try walk_at "rd"
   have em : (x.length : Int) % 64 = x.length := by omega
   have es : Txt.slice x none (some (x.length : Int)) = x := hO_ (by
    rw [dD_ (a := 0) (b := x.length) (Nat.zero_le _) (Nat.le_refl _) (.inr ⟨rfl, rfl⟩) (.inl rfl), List.drop_zero]
    exact List.take_of_length_le (by rw [ax_]; omega))
   refine ⟨by decide, by decide, by decide, sz, by decide, ?_⟩
   rw [em, if_pos (by omega), es]
   refine ⟨sz, _, v, by omega, ?_⟩
   unfold iRngE
   walk_at "rd"
   refine ⟨sz, by omega, by omega, ol_ ?_⟩
   walk_at "rd"
   exact k _ s1
theorem Wd.part {x y : Str} (h : Wd x) (hy : cs y <:+: cs x) : Wd y := ⟨Nat.le_trans hy.length_le h.1, fun c hc => h.2 c (hy.mem hc)⟩
theorem nO_ (p q : Int × Int) : deq (dF p) (dF q) = some (decide (p = q)) := by
 obtain ⟨a, b⟩ := p
 obtain ⟨c, d⟩ := q
 by_cases h1 : a = c <;> by_cases h2 : b = d <;> simp [dF, deq, deqs, h1, h2]
theorem slash : Str.ofString "/" = onec 47 := by decide +kernel
abbrev s_fraction_from_text : Stmt := stN 26
theorem aN_ : FnScope ["text", "parts", "below", "top", "bottom"] ["text"] (defScope s_fraction_from_text) := ⟨rfl, rfl, rfl, by decide +kernel, rfl, by decide +kernel, by decide +kernel⟩
theorem dU_ : LK s_fraction_from_text "text" .local := by decide +kernel
theorem aD_ : LK s_fraction_from_text "parts" .local := by decide +kernel
theorem aS_ : LK s_fraction_from_text "below" .local := by decide +kernel
theorem au_ : LK s_fraction_from_text "top" .local := by decide +kernel
theorem av_ : LK s_fraction_from_text "bottom" .local := by decide +kernel
theorem cg_ : LK s_fraction_from_text "fraction" .globalImplicit := by decide +kernel
theorem dd_ : LK s_fraction_from_text "len" .globalImplicit := by decide +kernel
theorem aR_ : LK s_fraction_from_text "whole_from_text" .globalImplicit := by decide +kernel
def preOf (a : Str) : Str := if Txt.startswith a (Str.ofString "-") = true then Txt.slice a (some 1) none else a
def fftOf (x : Str) : Option (Int × Int) :=
 match Txt.split x (Str.ofString "/") with
 | [a, b] =>
  match numOf (preOf a), numOf b with
  | some t, some u => if u = 0 then none else if nf t u ≠ (t, u) then none else if Txt.startswith a (Str.ofString "-") = true then (if t = 0 then none else some (-t, u)) else some (t, u)
  | _, _ => none
 | _ => none
def sp_fft : Sp := fun vs H Q _ => ∃ x : Str, vs = [.str x] ∧ Wd x ∧ ∀ v H', Same H H' → OV (newH H H') v (fftOf x) → Q v H'
theorem ep_ (T : Txt K mg) (F : Fn0 K mg "fraction_from_text" s_fraction_from_text) (C_whole_from_text : Cal P w K mg base "whole_from_text" ["text"] 2 sp_wft) (C_fraction : Cal P w K mg base "fraction" ["top", "bottom"] 2 sp_fraction) : Cal P w K mg base "fraction_from_text" ["text"] 3 sp_fft := by
 refine aW_ F aN_ (fun _ _ _ _ _ _ us hl => match us, hl with | [_], _ => rfl) ?len ?body
 case len => rintro vs H Q E ⟨a, rfl, _⟩; rfl
 case body =>
  intro f cdv A outer s H vs Q E hr h
  obtain ⟨x, rfl, ok, k⟩ := h
  have l30 := ok.1
  unfold fftOf at k
  refine' ⟨_, ?D, ?R⟩
  case D =>
   refine' aa_ ?g1 ?g2
   case' g1 => refine' af_ (i := 1) aN_.nd rfl aD_ ?g3
   case' g3 => refine' dZ_ (K := K) rfl PySem.F.plainAttrs_str PySem.F.slot_str_split PySem.F.type_str_split eB_ (pv1 0 rfl dU_) ?g5
   case' g5 => refine' pa_c aF_ ab_
   case' g2 => refine' aa_ ?g8 ?g9
   case' g8 => refine' ps_if ?g10 ?g11 ar_
   case' g10 => refine' ak_ op_ne ?g13 ac_ (nomark _)
   case' g13 => refine' ah_ ap_ dd_ T.n_len aG_ ?g15
   case' g15 => refine' pa_c (pv1 1 rfl aD_) ab_
   case' g11 => refine' ae_ ?g18
   case' g18 => refine' ao_ ?g19
   case g19 => exact eN_
   case' g9 => refine' aa_ ?g20 ?g21
   case' g20 => refine' af_ (i := 2) aN_.nd rfl aS_ ?g22
   case' g22 => refine' dZ_ (K := K) rfl PySem.F.plainAttrs_str PySem.F.slot_str_startswith PySem.F.type_str_startswith l2_ ?g23 ?g24
   case' g23 => refine' pe_ix am_ (pv1 1 rfl aD_) ac_ (fun _ _ => rfl)
   case' g24 => refine' pa_c aF_ ab_
   case' g21 => refine' aa_ ?g29 ?g30
   case' g29 => refine' fe_ ?g31
   case' g31 => refine' af_ (i := 3) aN_.nd rfl au_ ?g32
   case' g32 => refine' al_ C_whole_from_text (hr.mono (by decide)) aR_ ?g33
   case' g33 => refine' pa_c ?g34 ab_
   case' g34 => refine' gr_ ?g36 ?g37 ?g38
   case' g36 => refine' cX_ (pv1 2 rfl aS_)
   case' g37 => refine' aL_ db_ ?g40 ?g41 ?g42
   case' g40 => refine' pe_ix am_ (pv1 1 rfl aD_) ac_ (fun _ _ => rfl)
   case' g41 => refine' aV_ ac_
   case g42 => exact a2_
   case' g38 => refine' pe_ix am_ (pv1 1 rfl aD_) ac_ (fun _ _ => rfl)
   case' g30 => refine' aa_ ?g48 ?g49
   case' g48 => refine' af_ (i := 4) aN_.nd rfl av_ ?g50
   case' g50 => refine' al_ C_whole_from_text (hr.mono (by decide)) aR_ ?g51
   case' g51 => refine' pa_c ?g52 ab_
   case' g52 => refine' pe_ix am_ (pv1 1 rfl aD_) ac_ (fun _ _ => rfl)
   case' g49 => refine' aa_ ?g56 ?g57
   case' g56 => refine' ps_if ?g58 ?g59 ar_
   case' g58 => refine' PW.pt ?g61
   case' g61 => refine' pw_or ?g62 ?g63
   case' g62 => refine' hH_ (lo_ (pv1 3 rfl au_))
   case' g63 => refine' pw_or ?g65 ?g66
   case' g65 => refine' hH_ (lo_ (pv1 4 rfl av_))
   case' g66 => refine' fc_ ?g68
   case' g68 => refine' ak_ op_eq (pv1 4 rfl av_) ac_ (nomark _)
   case' g59 => refine' ae_ ?g71
   case' g71 => refine' ao_ ?g72
   case g72 => exact eN_
   case' g57 => refine' aa_ ?g73 ?g74
   case' g73 => refine' ps_if ?g75 ?g76 ar_
   case' g75 => refine' PW.pt ?g78
   case' g78 => refine' pw_or ?g79 ?g80
   case' g79 => refine' ak_ (gR_ (hr.units)) ?g81 ?g82 (nomark _)
   case' g81 => refine' al_ C_fraction (hr.mono (by decide)) cg_ ?g83
   case' g83 => refine' pa_c (pv1 3 rfl au_) ?g85
   case' g85 => refine' pa_c (pv1 4 rfl av_) ab_
   case' g82 => refine' aO_ ?g88
   case' g88 => refine' pa_c (pv1 3 rfl au_) ?g90
   case' g90 => refine' pa_c (pv1 4 rfl av_) ab_
   case' g80 => refine' fc_ ?g93
   case' g93 => refine' PW.pt ?g94
   case' g94 => refine' eO_ ?g95 ?g96
   case' g95 => refine' cX_ (pv1 2 rfl aS_)
   case' g96 => refine' eS_ ?g98
   case' g98 => refine' ak_ op_eq (pv1 3 rfl au_) ac_ (nomark _)
   case' g76 => refine' ae_ ?g101
   case' g101 => refine' ao_ ?g102
   case g102 => exact eN_
   case' g74 => refine' ae_ ?g103
   case' g103 => refine' ao_ ?g104
   case' g104 => refine' gr_ ?g105 ?g106 ?g107
   case' g105 => refine' cX_ (pv1 2 rfl aS_)
   case' g106 => refine' aO_ ?g109
   case' g109 => refine' pa_c ?g110 ?g111
   case' g110 => refine' pe_un nu_ (pv1 3 rfl au_)
   case' g111 => refine' pa_c (pv1 4 rfl av_) ab_
   case' g107 => refine' aO_ ?g115
   case' g115 => refine' pa_c (pv1 3 rfl au_) ?g117
   case' g117 => refine' pa_c (pv1 4 rfl av_) ab_
  case R =>
   walk_at "rd"
   refine ⟨by decide +kernel, by omega, fun D nD => ?_⟩
   have S1 := Same.new nD (o := HO.lst ((Txt.split x (Str.ofString "/")).map V.str))
   have hD := ad_ (H := H) (a := D) (o := HO.lst ((Txt.split x (Str.ofString "/")).map V.str))
   generalize upd H D (HO.lst ((Txt.split x (Str.ofString "/")).map V.str)) = H1 at *
   have sp := bd_ (x := x) (c := 47) (by decide)
   rw [← slash] at sp
   generalize Txt.split x (Str.ofString "/") = ps at *
   refine ite2 (fun h2 => ?_) (fun h2 => ?_)
   ·refine k _ _ S1 ?_
    rw [List.length_map] at h2
    match ps, h2 with
    | [], _ => exact rfl
    | [_], _ => exact rfl
    | [_, _], h => exact absurd rfl h
    | _ :: _ :: _ :: _, _ => exact rfl
   obtain ⟨a, b, rfl⟩ : ∃ a b, ps = [a, b] := by
    rw [List.length_map] at h2
    match ps, h2 with
    | [], h => exact absurd (by decide) h
    | [_], h => exact absurd (by simp) h
    | [a, b], _ => exact ⟨a, b, rfl⟩
    | _ :: _ :: _ :: _, h => exact absurd (by simp only [List.length_cons]; omega) h
   clear h2
   have wa : Wd a := ok.part (sp.2 a (by simp)).2
   have wb : Wd b := ok.part (sp.2 b (by simp)).2
   have za := wa.1
   have ka := sp.2 a (by simp)
   have wp : Wd (preOf a) ∧ (numOf (preOf a) = numOf (preOf a)) := ⟨by
    unfold preOf
    split
    ·rename_i hst
     have l1 : 1 ≤ a.length := Nat.pos_of_ne_zero fun z => by
      have e : Str.ofString "-" = onec 45 := by decide +kernel
      unfold Txt.startswith at hst
      rw [e, eW_] at hst
      have := of_decide_eq_true (Bool.and_eq_true_iff.mp hst).2
      rw [List.eq_nil_of_length_eq_zero (show (cs a).length = 0 from z)] at this
      cases this
     refine wa.part ?_
     rw [l8_ l1]
     exact (List.drop_suffix _ _).isInfix
    ·exact wa, rfl⟩
   refine ⟨_, atI_0, trivial, _, rfl, fun σ H2 => σ = [some (.str x), some (.ref D), some (.bl (Txt.startswith a (Str.ofString "-"))), some (vO (numOf (preOf a))), none] ∧ Same H1 H2, ?_, ?_⟩
   ·walk_at "rd"
    unfold preOf at wp ⊢
    refine ite2 (fun hs => ?_) (fun hs => ?_)
    ·rw [if_pos hs] at wp ⊢
     exact ⟨_, hD, _, atI_0, _, rfl, Nat.le_of_lt (small1000 (by omega)), _, rfl, wp.1, fun H2 s2 => ⟨rfl, s2⟩⟩
    ·rw [if_neg hs] at wp ⊢
     exact ⟨_, hD, _, atI_0, _, rfl, wp.1, fun H2 s2 => ⟨rfl, s2⟩⟩
   rintro σ H2 ⟨rfl, s2⟩
   walk_at "rd"
   refine ⟨_, s2 _ _ hD, _, atI_1, _, rfl, wb, fun H3 s3 => ?_⟩
   have S3 := S1.trans (s2.trans s3)
   have bd1 := @gc_ (preOf a) wp.1.1
   have bd2 := @gc_ b wb.1
   dsimp only at k
   generalize numOf (preOf a) = o1 at *
   generalize numOf b = o2 at *
   generalize Txt.startswith a (Str.ofString "-") = st at *
   cases o1 with
   | none => exact k _ _ S3 rfl
   | some t =>
   cases o2 with
   | none => exact k _ _ S3 rfl
   | some u =>
   obtain ⟨t0, tb⟩ := bd1 rfl
   obtain ⟨u0, ub⟩ := bd2 rfl
   dsimp only at k
   show if (V.int t = V.non) then _ else _
   rw [if_neg (by intro z; cases z)]
   show if (V.int u = V.non) then _ else _
   rw [if_neg (by intro z; cases z)]
   refine ⟨rfl, ite2 (fun hu => ?_) (fun hu => ?_)⟩
   ·have e : u = 0 := by injection hu
    rw [if_pos e] at k
    exact k _ _ S3 rfl
   have hu' : u ≠ 0 := fun z => hu (by rw [z]; rfl)
   rw [if_neg hu'] at k
   refine ⟨t, u, rfl, hu', eo_ (Nat.lt_of_lt_of_le tb (by decide +kernel)), eo_ (Nat.lt_of_lt_of_le ub (by decide +kernel)), fun z H4 s4 nz hz => ⟨by decide, fun p np => ?_⟩⟩
   have S4 : Same H (upd H4 p (HO.tup [V.int t, V.int u])) := (S3.trans s4).trans (Same.new np)
   refine ⟨z, rfl, dF (nf t u), ⟨z, _, rfl, (Same.new np) _ _ hz, _, _, rfl, rfl, _, _, rfl, rfl, rfl⟩, dF (t, u), ⟨p, _, rfl, ad_, _, _, rfl, rfl, _, _, rfl, rfl, rfl⟩, _, nO_ _ _, by simp [dep, deps, dF], ?_⟩
   refine ite2 (fun h1 => ?_) (fun h1 => ?_)
   ·rw [if_pos (of_decide_eq_false h1)] at k
    exact k _ _ S4 rfl
   have h1' : nf t u = (t, u) := Decidable.not_not.mp fun z => h1 (decide_eq_false z)
   rw [if_neg (fun z => z h1')] at k
   refine ite2 (fun h2 => ?_) (fun h2 => ?_)
   ·rw [if_pos h2] at k
    refine ⟨rfl, ite2 (fun h3 => ?_) (fun h3 => ?_)⟩
    ·have e : t = 0 := by injection h3
     rw [if_pos e] at k
     exact k _ _ S4 rfl
    ·rw [if_neg (fun z => h3 (by rw [z]; rfl))] at k
     rw [if_pos h2]
     exact ⟨t, rfl, by decide, fun q nq => k _ _ (S4.trans (Same.new nq)) ⟨q, rfl, by rw [ck_ (S4.free nq)]; exact ad_⟩⟩
   ·rw [if_neg h2] at k
    rw [if_neg h2]
    exact ⟨by decide, fun q nq => k _ _ (S4.trans (Same.new nq)) ⟨q, rfl, by rw [ck_ (S4.free nq)]; exact ad_⟩⟩
theorem pg_ {x : Str} (ok : Wd x) {p : Int × Int} (h : fftOf x = some p) : Bd2 p := by
 have sp := bd_ (x := x) (c := 47) (by decide)
 unfold fftOf at h
 rw [← slash] at sp
 generalize Txt.split x (Str.ofString "/") = ps at *
 split at h
 ·rename_i a b
  split at h
  ·rename_i t u e1 e2
   have wa : Wd a := ok.part (sp.2 a (by simp)).2
   have wb : Wd b := ok.part (sp.2 b (by simp)).2
   have l1 : (preOf a).length ≤ 30 := by
    unfold preOf
    split
    ·refine Nat.le_trans ?_ wa.1
     by_cases h0 : 1 ≤ a.length
     ·have := congrArg List.length (l8_ h0)
      rw [List.length_drop, ax_, ax_] at this
      omega
     ·rename_i hst
      have e : Str.ofString "-" = onec 45 := by decide +kernel
      unfold Txt.startswith at hst
      rw [e, eW_] at hst
      have := of_decide_eq_true (Bool.and_eq_true_iff.mp hst).2
      rw [List.eq_nil_of_length_eq_zero (show (cs a).length = 0 by rw [ax_]; omega)] at this
      cases this
    ·exact wa.1
   have b1 := (gc_ l1 e1).2
   have b2 := (gc_ wb.1 e2).2
   have bb : t.natAbs < 10 ^ 64 ∧ u.natAbs < 10 ^ 64 := ⟨Nat.lt_of_lt_of_le b1 (by decide +kernel), Nat.lt_of_lt_of_le b2 (by decide +kernel)⟩
   split at h
   ·cases h
   ·split at h
    ·cases h
    ·split at h
     ·split at h
      ·cases h
      ·cases h
       exact ⟨by rw [Int.natAbs_neg]; exact bb.1, bb.2⟩
     ·cases h
      exact bb
  ·cases h
 ·cases h
def wOf (x : Str) : Option (Int × Int) := if (fftOf x).any isW = true then fftOf x else none
abbrev s_worth_from_text : Stmt := stN 27
theorem c6_ : FnScope ["text", "value"] ["text"] (defScope s_worth_from_text) := ⟨rfl, rfl, rfl, by decide +kernel, rfl, by decide +kernel, by decide +kernel⟩
theorem eJ_ : LK s_worth_from_text "text" .local := by decide +kernel
theorem bt_ : LK s_worth_from_text "value" .local := by decide +kernel
theorem bu_ : LK s_worth_from_text "fraction_from_text" .globalImplicit := by decide +kernel
theorem cR_ : LK s_worth_from_text "is_worth" .globalImplicit := by decide +kernel
def sp_wrt : Sp := fun vs H Q _ => ∃ x : Str, vs = [.str x] ∧ Wd x ∧ ∀ v H', Same H H' → OV (newH H H') v (wOf x) → Q v H'
theorem fv_ (T : Txt K mg) (F : Fn0 K mg "worth_from_text" s_worth_from_text) (C_fraction_from_text : Cal P w K mg base "fraction_from_text" ["text"] 3 sp_fft) (C_is_worth : Cal P w K mg base "is_worth" ["thing"] 2 sp_isw) : Cal P w K mg base "worth_from_text" ["text"] 4 sp_wrt := by
 refine aW_ F c6_ (fun _ _ _ _ _ _ us hl => match us, hl with | [_], _ => rfl) ?len ?body
 case len => rintro vs H Q E ⟨a, rfl, _⟩; rfl
 case body =>
  intro f cdv A outer s H vs Q E hr h
  obtain ⟨x, rfl, ok, k⟩ := h
  unfold wOf at k
  refine' ⟨_, ?D, ?R⟩
  case D =>
   refine' aa_ ?g1 ?g2
   case' g1 => refine' af_ (i := 1) c6_.nd rfl bt_ ?g3
   case' g3 => refine' al_ C_fraction_from_text (hr.mono (by decide)) bu_ ?g4
   case' g4 => refine' pa_c (pv1 0 rfl eJ_) ab_
   case' g2 => refine' ae_ ?g7
   case' g7 => refine' ao_ ?g8
   case' g8 => refine' gr_ ?g9 (pv1 1 rfl bt_) ?g11
   case' g9 => refine' cX_ ?g12
   case' g12 => refine' al_ C_is_worth (hr.mono (by decide)) cR_ ?g13
   case' g13 => refine' pa_c (pv1 1 rfl bt_) ab_
   case g11 => exact eN_
  case R =>
   walk_at "rd"
   refine ⟨x, rfl, ok, fun v H1 s1 hv => ?_⟩
   try walk_at "rd"
   refine ⟨v, _, rfl, hv.of_new, fun p hp => pg_ ok hp, fun H2 s2 => ?_⟩
   try walk_at "rd"
   refine ite2 (fun h => ?_) (fun h => ?_)
   ·rw [if_pos h] at k
    exact k v H2 (s1.trans s2) (hv.mono (gU_ s2))
   ·rw [if_neg h] at k
    exact k _ H2 (s1.trans s2) rfl
structure Wn (N : Net Str) : Prop where
 nm : NmN N
 p1 : 1 ≤ N.posts.length
 p6 : N.posts.length ≤ 6
 r16 : N.rows.length ≤ 16
 w15 : N.worths.length ≤ 15
def wP (N : Net Str) : List Str := Str.ofString "rim" :: N.posts
def wR (r : Str × List Str) : List Str := Str.ofString "at" :: r.1 :: r.2
def wW (r : Str × (Int × Int)) : List Str := [Str.ofString "wire", r.1, fr r.2]
def wds (N : Net Str) : List (List Str) := wP N :: (N.rows.map wR ++ N.worths.map wW)
def ln (ws : List Str) : Str := Txt.join (Str.ofString " ") ws
def txtN (N : Net Str) : Str := Txt.join (Str.ofString "\n") ((wds N).map ln)
theorem kM_ {p : Int × Int} (h : Ws p) : (fr p).length ≤ 9 := by
 have h1 := (num_t h.2.1 h.2.2.1).l4
 have h2 := (num_t h.1.pos h.2.2.2).l4
 unfold fr
 rw [dC_, dC_]
 have : (Str.ofString "/").length = 1 := by decide +kernel
 omega
theorem nP_ {N : Net Str} (t : Wn N) : ∀ ws ∈ wds N, JoinOk (Str.ofString " ") ws = true ∧ (ln ws).length ≤ 288 := by
 have s1 : (Str.ofString " ").length ≤ 1 := by decide +kernel
 have key : ∀ (ws : List Str) (B : Nat), (∀ y ∈ ws, y.length ≤ B) → ws.length * B + ws.length ≤ 288 → JoinOk (Str.ofString " ") ws = true ∧ (ln ws).length ≤ 288 := fun ws B hB hl => by
  have := ij_ (sep := Str.ofString " ") (xs := ws) (B := B) hB s1 (by omega)
  exact ⟨this.1, Nat.le_trans this.2 hl⟩
 intro ws hw
 rcases List.mem_cons.mp hw with rfl | hw
 ·refine key _ 8 (fun y hy => ?_) (by unfold wP; rw [List.length_cons]; have := t.p6; omega)
  rcases List.mem_cons.mp hy with rfl | hy
  ·decide +kernel
  ·exact (t.nm.ps y hy).2.1
 ·rcases List.mem_append.mp hw with hw | hw
  ·obtain ⟨r, hr, rfl⟩ := List.mem_map.mp hw
   obtain ⟨h1, h2, h3⟩ := t.nm.rs r hr
   refine key _ 8 (fun y hy => ?_) (by unfold wR; rw [List.length_cons, List.length_cons]; omega)
   rcases List.mem_cons.mp hy with rfl | hy
   ·decide +kernel
   ·rcases List.mem_cons.mp hy with rfl | hy
    ·exact h1.2.1
    ·exact (h3 y hy).2.1
  ·obtain ⟨r, hr, rfl⟩ := List.mem_map.mp hw
   obtain ⟨h1, h2⟩ := t.nm.ws r hr
   refine key _ 9 (fun y hy => ?_) (by show 3 * 9 + 3 ≤ 288; decide)
   rcases List.mem_cons.mp hy with rfl | hy
   ·decide +kernel
   ·rcases List.mem_cons.mp hy with rfl | hy
    ·have := h1.2.1
     omega
    ·rw [List.mem_singleton.mp hy]
     exact kM_ h2
theorem mu_ {N : Net Str} (t : Wn N) : (wds N).length ≤ 32 := by
 unfold wds
 rw [List.length_cons, List.length_append, List.length_map, List.length_map]
 have := t.r16
 have := t.w15
 omega
theorem ph_ {N : Net Str} (t : Wn N) : JoinOk (Str.ofString "\n") ((wds N).map ln) = true ∧ (txtN N).length ≤ 10000 := by
 have l := mu_ t
 have := ij_ (sep := Str.ofString "\n") (xs := (wds N).map ln) (B := 288) (fun y hy => by obtain ⟨ws, hw, rfl⟩ := List.mem_map.mp hy; exact (nP_ t ws hw).2) (by decide +kernel) (by rw [List.length_map]; omega)
 rw [List.length_map] at this
 exact ⟨this.1, Nat.le_trans this.2 (by omega)⟩
def dWs (ws : List Str) : Dt := .lst (ws.map Dt.str)
theorem jk_ {H : Hp} {ws : List V} {wo : List (Str × (Int × Int))} {i : Nat} {x : V} (h : Reps H ws (wo.map dWo)) (e : ws[i]? = some x) : ∃ r q u, wo[i]? = some r ∧ x = .ref q ∧ H q = some (.tup [.str r.1, .ref u]) ∧ H u = some (.tup [.int r.2.1, .int r.2.2]) := by
 obtain ⟨d, hd, hr⟩ := h.of_get e
 rw [List.getElem?_map] at hd
 cases z : wo[i]? with
 | none => rw [z] at hd; cases hd
 | some r =>
  rw [z] at hd
  cases hd
  obtain ⟨a, _, ea, ha, x1, _, e1, hx1, x2, _, e2, hx2, e3⟩ := hr
  subst e3 e2 e1
  cases hx1
  obtain ⟨u, rfl, hu⟩ := mf_ hx2
  exact ⟨r, a, u, rfl, ea, ha, hu⟩
theorem Ws.bd {p : Int × Int} (h : Ws p) : Bd p := by
 have b0 := h.1.pos
 obtain ⟨_, t0, t1, b1⟩ := h
 exact ⟨Nat.lt_of_le_of_lt (show p.1.natAbs ≤ 1000 by omega) (by decide +kernel), Nat.lt_of_le_of_lt (show p.2.natAbs ≤ 1000 by omega) (by decide +kernel)⟩
abbrev s_net_shown : Stmt := stN 30
theorem gd_ : FnScope ["net", "rows"] ["net"] (defScope s_net_shown) := ⟨rfl, rfl, rfl, by decide +kernel, rfl, by decide +kernel, by decide +kernel⟩
theorem de_ : LK s_net_shown "net" .local := by decide +kernel
theorem b8_ : LK s_net_shown "rows" .local := by decide +kernel
def sp_shown : Sp := fun vs H Q _ => ∃ (v : V) (N : Net Str), vs = [v] ∧ Rep H v (dNet N) ∧ Wn N ∧ ∀ H', Same H H' → Q (.str (txtN N)) H'
theorem jl_ (T : Txt K mg) (F : Fn0 K mg "net_shown" s_net_shown) (C_fraction_shown : Cal P w K mg base "fraction_shown" ["value"] 2 sp_frac) : Cal P w K mg base "net_shown" ["net"] 3 sp_shown := by
 refine aW_ F gd_ (fun _ _ _ _ _ _ us hl => match us, hl with | [_], _ => rfl) ?len ?body
 case len => rintro vs H Q E ⟨a, b, rfl, _⟩; rfl
 case body =>
  intro f cdv A outer s H vs Q E hr h
  obtain ⟨v, N, rfl, hv, t, k⟩ := h
  obtain ⟨pn, p0, p1, p2, rs, ws, rfl, hn, h0, h1, r1, h2, r2⟩ := mr_ hv
  have rl : rs.length = N.rows.length := by rw [r1.length, List.length_map]
  have wl : ws.length = N.worths.length := by rw [r2.length, List.length_map]
  have r16 := t.r16
  have w15 := t.w15
  refine' ⟨_, ?D, ?R⟩
  case D =>
   refine' az_ ?g1 ?g2
   case' g1 => refine' af_ (i := 1) gd_.nd rfl b8_ ?g3
   case' g3 => refine' bh_ ?g4
   case' g4 => refine' pa_c ?g5 ab_
   case' g5 => refine' pe_op gK_ ?g7 ?g8
   case' g7 => refine' bh_ ?g9
   case' g9 => refine' pa_c aF_ ab_
   case' g8 => refine' pe_ix bc_ (pv1 0 rfl de_) ac_ (fun _ _ => rfl)
   case' g2 => refine' az_ ?g14 ?g15
   case' g14 => refine' aZ_ ?g16
   case' g16 => refine' pe_bm PySem.F.plainAttrs_list PySem.F.slot_list_extend PySem.F.type_list_extend iM_ (pv1 1 rfl b8_) ?g18
   case' g18 => refine' pa_c ?g19 ab_
   case' g19 => refine' cC_ (N' := ["point", "wires"]) (ix := [none, none]) rfl rfl (bN_ ?g21) ?g22 (fun _ _ _ => ?g23) (fun _ _ _ => ?g24) (fun _ _ _ => ?g25)
   case g21 => exact (by show scpB (defScope s_net_shown) ["net", "rows"] _ _ _ = true; decide +kernel)
   case' g22 => refine' bm_ (K := K) rfl ?g26
   case' g26 => refine' pe_ix bc_ (pv1 0 rfl de_) ac_ (fun _ _ => rfl)
   case' g23 => refine' bS_ (K := K) (n := 2) rfl rfl ?g29
   case' g29 => refine' aB_ ?g30 ?g31
   case g30 => exact aj_ (i := 0) (by show List.Nodup (["point", "wires"] : List Str); decide +kernel) rfl rfl
   case' g31 => refine' aB_ ?g32 bQ_
   case g32 => exact aj_ (i := 1) (by show List.Nodup (["point", "wires"] : List Str); decide +kernel) rfl rfl
   case g24 => exact c0_
   case' g25 => refine' pe_op gK_ ?g34 (pv1 1 rfl rfl)
   case' g34 => refine' bh_ ?g36
   case' g36 => refine' pa_c aF_ ?g38
   case' g38 => refine' pa_c (pv1 0 rfl rfl) ab_
   case' g15 => refine' az_ ?g41 ?g42
   case' g41 => refine' aZ_ ?g43
   case' g43 => refine' pe_bm PySem.F.plainAttrs_list PySem.F.slot_list_extend PySem.F.type_list_extend iM_ (pv1 1 rfl b8_) ?g45
   case' g45 => refine' pa_c ?g46 ab_
   case' g46 => refine' cC_ (N' := ["wire", "worth"]) (ix := [none, none]) rfl rfl (bN_ ?g48) ?g49 (fun _ _ _ => ?g50) (fun _ _ _ => ?g51) (fun _ _ _ => ?g52)
   case g48 => exact (by show scpB (defScope s_net_shown) ["net", "rows"] _ _ _ = true; decide +kernel)
   case' g49 => refine' bm_ (K := K) rfl ?g53
   case' g53 => refine' pe_ix bc_ (pv1 0 rfl de_) ac_ (fun _ _ => rfl)
   case' g50 => refine' bS_ (K := K) (n := 2) rfl rfl ?g56
   case' g56 => refine' aB_ ?g57 ?g58
   case g57 => exact aj_ (i := 0) (by show List.Nodup (["wire", "worth"] : List Str); decide +kernel) rfl rfl
   case' g58 => refine' aB_ ?g59 bQ_
   case g59 => exact aj_ (i := 1) (by show List.Nodup (["wire", "worth"] : List Str); decide +kernel) rfl rfl
   case g51 => exact c0_
   case' g52 => refine' bh_ ?g61
   case' g61 => refine' pa_c aF_ ?g63
   case' g63 => refine' pa_c (pv1 0 rfl rfl) ?g65
   case' g65 => refine' pa_c ?g66 ab_
   case' g66 => refine' al_ C_fraction_shown (hr.mono (by decide)) rfl ?g68
   case' g68 => refine' pa_c (pv1 1 rfl rfl) ab_
   case' g42 => refine' ae_ ?g71
   case' g71 => refine' ao_ ?g72
   case' g72 => refine' dZ_ (K := K) rfl PySem.F.plainAttrs_str PySem.F.slot_str_join PySem.F.type_str_join ia_ aF_ ?g74
   case' g74 => refine' pa_c ?g75 ab_
   case' g75 => refine' cC_ (N' := ["words"]) (ix := [none]) rfl rfl (bN_ ?g77) ?g78 (fun _ _ _ => ?g79) (fun _ _ _ => ?g80) (fun _ _ _ => ?g81)
   case g77 => exact (by show scpB (defScope s_net_shown) ["net", "rows"] _ _ _ = true; decide +kernel)
   case' g78 => refine' bm_ (K := K) rfl (pv1 1 rfl b8_)
   case g79 => exact aj_ (i := 0) (by show List.Nodup (["words"] : List Str); decide +kernel) rfl rfl
   case g80 => exact c0_
   case' g81 => refine' dZ_ (K := K) rfl PySem.F.plainAttrs_str PySem.F.slot_str_join PySem.F.type_str_join ia_ aF_ ?g84
   case' g84 => refine' pa_c (pv1 0 rfl rfl) ab_
  case R =>
   walk_at "rd"
   refine ⟨by decide, fun q0 nq0 => ?_⟩
   have S1 := Same.new nq0 (o := HO.lst [V.str (Str.ofString "rim")])
   generalize upd H q0 (HO.lst [V.str (Str.ofString "rim")]) = H1 at *
   have p6 := t.p6
   refine ⟨_, S1 _ _ hn, _, atI_0, p0, rfl, _, S1 _ _ h0, small1000 (by rw [List.length_map]; omega) |> Nat.le_of_lt, fun q1 nq1 => ⟨by decide, fun R nR => ?_⟩⟩
   have S2 := Same.new nq1 (o := HO.lst (V.str (Str.ofString "rim") :: N.posts.map V.str))
   have hq1 := ad_ (H := H1) (a := q1) (o := HO.lst (V.str (Str.ofString "rim") :: N.posts.map V.str))
   generalize upd H1 q1 (HO.lst (V.str (Str.ofString "rim") :: N.posts.map V.str)) = H2 at *
   have S3 := Same.new nR (o := HO.lst [V.ref q1])
   have hR := ad_ (H := H2) (a := R) (o := HO.lst [V.ref q1])
   generalize upd H2 R (HO.lst [V.ref q1]) = H3 at *
   have rep0 : Reps H2 [V.ref q1] ([wP N].map dWs) := ⟨_, _, rfl, ⟨q1, _, rfl, hq1, aP_ (Str.ofString "rim" :: N.posts)⟩, rfl⟩
   have s02 := S1.trans S2
   have s03 := s02.trans S3
   walk_at "rd"
   refine ⟨.inl ⟨_, .inl (.inl hR)⟩, _, s03 _ _ hn, _, atI_1, p1, rfl, ⟨_, .inl (.inl (s03 _ _ h1))⟩, ?_⟩
   have h13 := s03 _ _ h1
   refine b1_ (n := N.rows.length) (B := H3) (Pσ := fun σ => ∃ e e', σ = [e, e']) (ds := (N.rows.map wR).map dWs) (Same.refl _) ⟨_, _, rfl⟩ (by simp) (by omega) (fun i H' hi s' => ⟨rs, rs[i]'(by omega), .inl (.inl (s' _ _ h13)), List.getElem?_eq_getElem _⟩) (fun H' s' => ⟨rs, .inl (.inl (s' _ _ h13)), by omega⟩) ?_ ?_
   ·rintro D i x d σ' H4 H4' hD hDo hs4 hi hdi ⟨rfl, hy⟩ ⟨e, e', rfl⟩ Rr kR
    have hx := hy _ (.inl (.inl (hs4 _ _ h13)))
    obtain ⟨r, q, l, hr1, rfl, hq, hl⟩ := kJ_ r1 hx
    have hd : d = dWs (wR r) := by
     rw [List.getElem?_map, List.getElem?_map, hr1] at hdi
     exact (Option.some.inj hdi).symm
    have s34 := s03.trans hs4
    have r30 := (t.nm.rs r (List.mem_of_getElem? hr1)).2.1
    obtain ⟨oD, hDo⟩ := hDo
    walk_at "rd"
    refine ⟨_, SqT.of (s34 _ _ hq), rfl, _, _, rfl, _, _, rfl, rfl, by decide, fun t1 n1 => ⟨l, rfl, _, (Same.new n1) _ _ (s34 _ _ hl), Nat.le_of_lt (small1000 (by rw [List.length_map]; omega)), fun t2 n2 => ?_⟩⟩
    have S5 := Same.new n1 (o := HO.lst [V.str (Str.ofString "at"), V.str r.1])
    refine kR _ _ _ ⟨_, _, rfl⟩ (S5.trans (Same.new n2)) ?_
    have tD : t2 ≠ D := (ag_ (S5 _ _ hDo) n2).symm
    rw [hd]
    exact ⟨t2, _, rfl, by rw [eb_ tD (hs4.free (S5.free n2))]; exact ad_, aP_ (Str.ofString "at" :: r.1 :: r.2)⟩
   ·intro D H4 hD s4 rep4
    try walk_at "rd"
    obtain ⟨_, xs1, eD, hD4', rx1⟩ := rep4
    cases eD
    have hD4 := (aJ_ hD4').2
    have x1l : xs1.length = N.rows.length := by rw [rx1.length, List.length_map, List.length_map]
    refine ⟨_, s4 _ _ hR, xs1, hD4, Nat.le_of_lt (small1000 (by rw [List.length_cons, List.length_nil, x1l]; omega)), ?_⟩
    have c4 : ∀ b o, H4 b = some o → b ≠ R → cutH (fun _ => none) R H4 b = some o := fun b o h ne => by rw [eb_ ne rfl]; exact h
    have rS : Reps (cutH (fun _ => none) R H4) ([V.ref q1] ++ xs1) ((wP N :: N.rows.map wR).map dWs) := by
     refine Reps.append (ds := [wP N].map dWs) (Reps.mono (fun b o h => ?_) _ rep0) (Reps.mono (fun b o h => ?_) _ rx1)
     ·exact c4 b o (s4 _ _ (S3 _ _ h)) (ag_ h nR)
     ·obtain ⟨h1, h2⟩ := aJ_ h
      exact c4 b o h2 (ag_ hR h1).symm
    have s24 : Same H2 (cutH (fun _ => none) R H4) := fun b o h => c4 b o (s4 _ _ (S3 _ _ h)) (ag_ h nR)
    have sS5 : Same (cutH (fun _ => none) R H4) (upd H4 R (HO.lst ([V.ref q1] ++ xs1))) := fun b o h => by
     obtain ⟨h1, _, h3⟩ := jA_ h
     rw [ai_ h1]
     exact h3
    have hR5 := ad_ (H := H4) (a := R) (o := HO.lst ([V.ref q1] ++ xs1))
    have SR : cutH (fun _ => none) R H4 R = none := by unfold cutH; rw [if_pos rfl]
    generalize upd H4 R (HO.lst ([V.ref q1] ++ xs1)) = H5 at *
    generalize cutH (fun _ => none) R H4 = S at *
    have s0S := s02.trans s24
    have s05 := s0S.trans sS5
    walk_at "rd"
    refine ⟨.inl ⟨_, .inl (.inl hR5)⟩, _, s05 _ _ hn, _, atI_2, p2, rfl, ⟨_, .inl (.inl (s05 _ _ h2))⟩, ?_⟩
    have h25 := s05 _ _ h2
    refine b1_ (n := N.worths.length) (B := H5) (Pσ := fun σ => ∃ e e', σ = [e, e']) (ds := (N.worths.map wW).map dWs) (Same.refl _) ⟨_, _, rfl⟩ (by simp) (by omega) (fun i H' hi s' => ⟨ws, ws[i]'(by omega), .inl (.inl (s' _ _ h25)), List.getElem?_eq_getElem _⟩) (fun H' s' => ⟨ws, .inl (.inl (s' _ _ h25)), by omega⟩) ?_ ?_
    ·rintro D2 i x d σ' H6 H6' hD2 hDo hs6 hi hdi ⟨rfl, hy⟩ ⟨e, e', rfl⟩ Rr kR
     have hx := hy _ (.inl (.inl (hs6 _ _ h25)))
     obtain ⟨r, q, u, hr1, rfl, hq, hu⟩ := jk_ r2 hx
     have hd : d = dWs (wW r) := by
      rw [List.getElem?_map, List.getElem?_map, hr1] at hdi
      exact (Option.some.inj hdi).symm
     have s06 := s05.trans hs6
     have wok := (t.nm.ws r (List.mem_of_getElem? hr1)).2
     obtain ⟨oD, hDo⟩ := hDo
     walk_at "rd"
     refine ⟨_, SqT.of (s06 _ _ hq), rfl, _, _, rfl, _, _, rfl, rfl, _, r.2, rfl, ⟨u, _, rfl, s06 _ _ hu, _, _, rfl, rfl, _, _, rfl, rfl, rfl⟩, Ws.bd wok, fun H7 s7 => ⟨by decide, fun t2 n2 => kR _ _ _ ⟨_, _, rfl⟩ (s7.trans (Same.new n2)) ?_⟩⟩
     have tD : t2 ≠ D2 := (ag_ (s7 _ _ hDo) n2).symm
     rw [hd]
     exact ⟨t2, _, rfl, by rw [eb_ tD (hs6.free (s7.free n2))]; exact ad_, aP_ [Str.ofString "wire", r.1, fr r.2]⟩
    ·intro D2 H6 hD2 s6 rep6
     try walk_at "rd"
     obtain ⟨_, xs2, eD, hD6', rx2⟩ := rep6
     cases eD
     have hD6 := (aJ_ hD6').2
     have x2l : xs2.length = N.worths.length := by rw [rx2.length, List.length_map, List.length_map]
     refine ⟨_, s6 _ _ hR5, xs2, hD6, Nat.le_of_lt (small1000 (by rw [List.length_append, List.length_cons, List.length_nil, x1l, x2l]; omega)), ?_⟩
     have rS7 : Reps (upd H6 R (HO.lst ([V.ref q1] ++ xs1 ++ xs2))) ([V.ref q1] ++ xs1 ++ xs2) ((wds N).map dWs) := by
      have e : (wds N).map dWs = (wP N :: N.rows.map wR).map dWs ++ (N.worths.map wW).map dWs := by
       unfold wds
       rw [← List.map_append]
       rfl
      rw [e]
      refine Reps.append (Reps.mono (fun b o h => ?_) _ rS) (Reps.mono (fun b o h => ?_) _ rx2)
      ·rw [ai_ (ag_ h SR)]
       exact s6 _ _ (sS5 _ _ h)
      ·obtain ⟨h1, h2⟩ := aJ_ h
       rw [ai_ (ag_ hR5 h1).symm]
       exact h2
     have s07 : Same H (upd H6 R (HO.lst ([V.ref q1] ++ xs1 ++ xs2))) := fun b o h => by
      rw [ai_ (ag_ (s0S _ _ h) SR)]
      exact s6 _ _ (s05 _ _ h)
     have hR7 := ad_ (H := H6) (a := R) (o := HO.lst ([V.ref q1] ++ xs1 ++ xs2))
     generalize upd H6 R (HO.lst ([V.ref q1] ++ xs1 ++ xs2)) = H7 at *
     generalize [V.ref q1] ++ xs1 ++ xs2 = ys at *
     have yl : ys.length = (wds N).length := by rw [rS7.length, List.length_map]
     have wl32 := mu_ t
     walk_at "rd"
     refine ⟨⟨_, .inl (.inl hR7)⟩, ?_⟩
     refine b1_ (n := ys.length) (B := fun _ => none) (Pσ := fun σ => ∃ e, σ = [e]) (ds := ((wds N).map ln).map Dt.str) (fun b o e => by cases e) ⟨_, rfl⟩ (by simp [yl]) (by omega) (fun i H' hi s' => ⟨ys, ys[i], .inl (.inl (s' _ _ hR7)), List.getElem?_eq_getElem _⟩) (fun H' s' => ⟨ys, .inl (.inl (s' _ _ hR7)), Nat.le_refl _⟩) ?_ ?_
     ·rintro D3 i x d σ' H8 H8' hD3 hDo hs8 hi hdi ⟨rfl, hy⟩ ⟨e, rfl⟩ Rr kR
      have hx := hy _ (.inl (.inl (hs8 _ _ hR7)))
      obtain ⟨d2, hd2, hrx⟩ := rS7.of_get hx
      rw [List.getElem?_map] at hd2
      cases ew : (wds N)[i]? with
      | none => rw [ew] at hd2; cases hd2
      | some wl =>
       rw [ew] at hd2
       cases hd2
       obtain ⟨q, us, rfl, hq, hus⟩ := hrx
       rw [b5_ hus] at hq
       have hd : d = Dt.str (ln wl) := by
        rw [List.getElem?_map, List.getElem?_map, ew] at hdi
        exact (Option.some.inj hdi).symm
       walk_at "rd"
       refine ⟨wl, hs8 _ _ hq, (nP_ t wl (List.mem_of_getElem? ew)).1, kR _ _ _ ⟨_, rfl⟩ (Same.refl _) ?_⟩
       rw [hd]
       exact rfl
     ·intro D3 H8 hD3 s8 rep8
      obtain ⟨_, us, eD, hu', hus⟩ := rep8
      cases eD
      rw [b5_ hus] at hu'
      exact ⟨D3, rfl, _, (aJ_ hu').2, (ph_ t).1, k _ (s07.trans s8)⟩
structure Exs (K : PySem.W.Frag) (mg : Str → Option Value) (CR CT CO CW : Addr) : Prop where
 m_RimError : mg "RimError" = some (.ref CR)
 m_NoText : mg "NoText" = some (.ref CT)
 m_NoNet : mg "NoNet" = some (.ref CO)
 m_NoRow : mg "NoRow" = some (.ref CW)
 own_NoText : ExC K CT
 hnd_RimError : HnC K CR
 sub : PySem.W.mroIn K CT (.ref CR) = some true
 kit : KitE K CT
 isA : PySem.W.kitOne K (.ref CT) (.ref CT) = some true
 isV : PySem.W.kitOne K (.ref CT) (.type "ValueError") = some true
 isN : PySem.W.kitAny K (.ref CT) [.ref CO, .ref CW] = some false
variable {CR CT CO CW : Addr}
theorem j6_ {X : Cx} {x : Str} {C : Addr} {pos : Pos} (hg : Gl X x) (hm : X.mg x = some (.ref C)) (hd : (x == ("__debug__" : Str)) = false := by decide) : PE X (.Name x pos) (tC (.ref C)) := jv_ (v := .ref C) hg hm rfl hd
theorem nQ_ {α : Type} (l : List α) (z : α) (p : α → Bool) : ((List.range l.length).map fun j => p (l.getD j z)).all id = l.all p := by
 have e : (List.range l.length).map (fun j => p (l.getD j z)) = l.map p := by
  apply List.ext_getElem
  ·simp
  ·intro i h1 h2
   simp at h1
   simp [h1]
 rw [e, List.all_map]
 rfl
theorem dV_ {C : Addr} {E : XK} {v : V} {D : Ends} {σ : L2.St} {H : Hp} (h : E (.ref C) none H) : tRaise C E (tCons (tC v) tNil) D σ H := ⟨by show 1 ≤ sizeLine; decide, h⟩
theorem cut_1 {y : Str} {ps : List Str} : cutV ((y :: ps).map V.str) (some 1) none = ps.map V.str := ff_ _ 1 (by simp)
abbrev s_names_read : Stmt := stN 31
theorem ik_ : FnScope ["words"] ["words"] (defScope s_names_read) := ⟨rfl, rfl, rfl, by decide +kernel, rfl, by decide +kernel, by decide +kernel⟩
theorem eq_ : LK s_names_read "words" .local := by decide +kernel
theorem eK_ : LK s_names_read "NoText" .globalImplicit := by decide +kernel
theorem fP_ : LK s_names_read "all" .globalImplicit := by decide +kernel
def sp_nr (CT : Addr) : Sp := fun vs H Q E => ∃ (a : Addr) (ws : List Str), vs = [.ref a] ∧ H a = some (.lst (ws.map V.str)) ∧ (∀ x ∈ ws, Wd x) ∧ ws.length ≤ 990 ∧ (ws.all isNm = true → ∀ H', Same H H' → Q (.ref a) H') ∧ (ws.all isNm = false → ∀ H', Same H H' → E (.ref CT) none H')
theorem hy_ (T : Txt K mg) (EX : Exs K mg CR CT CO CW) (F : Fn0 K mg "names_read" s_names_read) (C_is_name : Cal P w K mg base "is_name" ["text"] 1 sp_isn) : CalR P w K mg base "names_read" ["words"] 2 (sp_nr CT) := by
 refine gV_ F ik_ (fun _ _ _ _ _ _ us hl => match us, hl with | [_], _ => rfl) ?len ?body
 case len => rintro vs H Q E ⟨a, b, rfl, _⟩; rfl
 case body =>
  intro f cdv A outer s H vs Q E hr h
  obtain ⟨a, ws, rfl, ha, hok, wl, k, kx⟩ := h
  refine' ⟨_, ?D, ?R⟩
  case D =>
   refine' aa_ ?g1 ?g2
   case' g1 => refine' ps_if ?g3 ?g4 ar_
   case' g3 => refine' o8_ ?g6
   case' g6 => refine' d9_ ?g7
   case' g7 => refine' cX_ ?g8
   case' g8 => refine' ah_ (g8_ rfl) fP_ T.n_all lI_ ?g9
   case' g9 => refine' pa_c ?g10 ab_
   case' g10 => refine' cC_ (N' := ["word"]) (ix := [none]) rfl rfl (bN_ ?g12) ?g13 (fun _ _ _ => ?g14) (fun _ _ _ => ?g15) (fun _ _ _ => ?g16)
   case g12 => exact (by show scpB (defScope s_names_read) ["words"] _ _ _ = true; decide +kernel)
   case' g13 => refine' bm_ (K := K) rfl (pv1 0 rfl eq_)
   case g14 => exact aj_ (i := 0) (by show List.Nodup (["word"] : List Str); decide +kernel) rfl rfl
   case g15 => exact c0_
   case' g16 => refine' al_ C_is_name (hr.mono (by decide)) rfl ?g18
   case' g18 => refine' pa_c (pv1 0 rfl rfl) ab_
   case' g4 => refine' ae_ ?g21
   case' g21 => refine' ey_ EX.own_NoText EX.m_NoText hr.hd eK_ ?g22
   case' g22 => refine' pa_c aF_ ab_
   case' g2 => refine' ae_ ?g25
   case' g25 => refine' ao_ (pv1 0 rfl eq_)
  case R =>
   walk_at "rd"
   refine ⟨⟨_, .inl (.inl ha)⟩, ?_⟩
   refine eA_ (n := ws.length) (Pσ := fun σ => ∃ e, σ = [e]) (bs := fun _ => true) (val := fun j => .bl (isNm (ws.getD j Str.empty))) ⟨_, rfl⟩ (by omega) (fun j Hj hj sj => ⟨_, .str ws[j], .inl (.inl (sj _ _ ha)), by simp [hj]⟩) (fun Hj sj => ⟨_, .inl (.inl (sj _ _ ha)), by simp⟩) ?_ ?_
   ·rintro Dc j y σ' H1 H1' hDc hDo hs1 hj ⟨rfl, hy⟩ ⟨e, rfl⟩ Y R kY kR
    have hx := hy _ (.inl (.inl (hs1 _ _ ha)))
    rw [List.getElem?_map, List.getElem?_eq_getElem hj] at hx
    cases hx
    walk_at "rd"
    refine ⟨_, rfl, hok _ (List.getElem_mem hj), fun H2 s2 => ?_⟩
    have := kY rfl
    rw [List.getD_eq_getElem?_getD, List.getElem?_eq_getElem hj] at this
    exact this _ _ ⟨_, rfl⟩ s2
   ·intro D H1 hD s1 hDv
    have e : ((List.range ws.length).filter fun _ => true).map (fun j => V.bl (isNm (ws.getD j Str.empty))) = ((List.range ws.length).map fun j => isNm (ws.getD j Str.empty)).map V.bl := by
     rw [List.filter_eq_self.mpr fun _ _ => rfl, List.map_map]
     rfl
    rw [e] at hDv
    refine ⟨D, rfl, _, hDv, ?_⟩
    rw [nQ_]
    try walk_at "rd"
    refine ite2 (fun hf => ?_) (fun hf => ?_)
    ·exact dV_ (kx hf H1 s1)
    ·exact k (Bool.not_eq_false _ ▸ hf) H1 s1
abbrev s_posts_read : Stmt := stN 32
theorem il_ : FnScope ["words"] ["words"] (defScope s_posts_read) := ⟨rfl, rfl, rfl, by decide +kernel, rfl, by decide +kernel, by decide +kernel⟩
theorem cS_ : LK s_posts_read "words" .local := by decide +kernel
theorem dp_ : LK s_posts_read "MOST_POSTS" .globalImplicit := by decide +kernel
theorem eL_ : LK s_posts_read "NoText" .globalImplicit := by decide +kernel
theorem fQ_ : LK s_posts_read "len" .globalImplicit := by decide +kernel
theorem dq_ : LK s_posts_read "names_read" .globalImplicit := by decide +kernel
def sp_pr (CT : Addr) : Sp := fun vs H Q E => ∃ (a : Addr) (y : Str) (ps : List Str), vs = [.ref a] ∧ H a = some (.lst ((y :: ps).map V.str)) ∧ (∀ x ∈ ps, Wd x) ∧ ps.length ≤ 980 ∧
 ((y = Str.ofString "rim" ∧ 1 ≤ ps.length ∧ ps.length ≤ 6 ∧ ps.all isNm = true) → ∀ D H', Same H H' → H D = none → H' D = some (.lst (ps.map V.str)) → Q (.ref D) H') ∧
 (¬ (y = Str.ofString "rim" ∧ 1 ≤ ps.length ∧ ps.length ≤ 6 ∧ ps.all isNm = true) → ∀ H', Same H H' → E (.ref CT) none H')
theorem hz_ (T : Txt K mg) (EX : Exs K mg CR CT CO CW) (F : Fn0 K mg "posts_read" s_posts_read) (R_names_read : CalR P w K mg base "names_read" ["words"] 2 (sp_nr CT)) : CalR P w K mg base "posts_read" ["words"] 3 (sp_pr CT) := by
 refine gV_ F il_ (fun _ _ _ _ _ _ us hl => match us, hl with | [_], _ => rfl) ?len ?body
 case len => rintro vs H Q E ⟨a, b, c, rfl, _⟩; rfl
 case body =>
  intro f cdv A outer s H vs Q E hr h
  obtain ⟨a, y, ps, rfl, ha, hok, l9, k, kx⟩ := h
  refine' ⟨_, ?D, ?R⟩
  case D =>
   refine' aa_ ?g1 ?g2
   case' g1 => refine' ps_if ?g3 ?g4 ar_
   case' g3 => refine' PW.pt ?g6
   case' g6 => refine' pw_or ?g7 ?g8
   case' g7 => refine' ak_ op_ne ?g9 aF_ (nomark _)
   case' g9 => refine' pe_ix am_ (pv1 0 rfl cS_) ac_ (fun _ _ => rfl)
   case' g8 => refine' fc_ ?g13
   case' g13 => refine' d9_ ?g14
   case' g14 => refine' hT_ op_le op_le ac_ ?g16 ?g17
   case' g16 => refine' pe_op nt_ ?g18 ac_
   case' g18 => refine' ah_ ap_ fQ_ T.n_len aG_ ?g20
   case' g20 => refine' pa_c (pv1 0 rfl cS_) ab_
   case g17 => exact gM_ T.c_MOST_POSTS dp_
   case' g4 => refine' ae_ ?g23
   case' g23 => refine' ey_ EX.own_NoText EX.m_NoText hr.hd eL_ ?g24
   case' g24 => refine' pa_c aF_ ab_
   case' g2 => refine' ae_ ?g27
   case' g27 => refine' ao_ ?g28
   case' g28 => refine' ez_ R_names_read (hr.mono (by decide)) passR dq_ ?g29
   case' g29 => refine' pa_c ?g30 ab_
   case' g30 => refine' aL_ bw_ (pv1 0 rfl cS_) ?g33 ?g34
   case' g33 => refine' aV_ ac_
   case g34 => exact a2_
  case R =>
   walk_at "rd"
   refine ⟨_, ha, _, atI_0, rfl, ?_⟩
   refine ite2 (fun h1 => ?_) (fun h1 => ?_)
   ·exact dV_ (kx (fun z => h1 (by rw [z.1])) H (Same.refl _))
   have h1' : y = Str.ofString "rim" := by
    have := Decidable.not_not.mp h1
    injection this
   refine ⟨_, .inl ha, ?_⟩
   rw [List.length_map, List.length_cons]
   refine ite2 (fun h2 => ite2 (fun h3 => ?_) (fun h3 => ?_)) (fun h2 => ?_)
   ·exact dV_ (kx (fun z => h3 (by have := z.2.2.1; omega)) H (Same.refl _))
   ·refine ⟨_, ha, fun p np => ?_⟩
    rw [cut_1]
    refine ⟨p, ps, rfl, ad_, hok, by omega, fun hal H2 s2 => ?_, fun hal H2 s2 => ?_⟩
    ·exact k ⟨h1', by omega, by omega, hal⟩ p H2 ((Same.new np).trans s2) np (s2 _ _ ad_)
    ·exact kx (fun z => by rw [z.2.2.2] at hal; cases hal) H2 ((Same.new np).trans s2)
   ·exact dV_ (kx (fun z => h2 (by have := z.2.1; omega)) H (Same.refl _))
abbrev s_point_read : Stmt := stN 33
theorem fw_ : FnScope ["words", "names"] ["words"] (defScope s_point_read) := ⟨rfl, rfl, rfl, by decide +kernel, rfl, by decide +kernel, by decide +kernel⟩
theorem er_ : LK s_point_read "words" .local := by decide +kernel
theorem cT_ : LK s_point_read "names" .local := by decide +kernel
theorem eM_ : LK s_point_read "NoText" .globalImplicit := by decide +kernel
theorem fR_ : LK s_point_read "len" .globalImplicit := by decide +kernel
theorem dr_ : LK s_point_read "names_read" .globalImplicit := by decide +kernel
def goodP : List Str → Bool
 | n :: ws => isNm n && ws.all isNm
 | [] => false
def sp_po (CT : Addr) : Sp := fun vs H Q E => ∃ (a : Addr) (y : Str) (ps : List Str), vs = [.ref a] ∧ H a = some (.lst ((y :: ps).map V.str)) ∧ (∀ x ∈ ps, Wd x) ∧ ps.length ≤ 980 ∧
 (∀ n ws, ps = n :: ws → goodP ps = true → ∀ z l H', Same H H' → H z = none → H l = none → H' z = some (.tup [.str n, .ref l]) → H' l = some (.lst (ws.map V.str)) → Q (.ref z) H') ∧
 (goodP ps = false → ∀ H', Same H H' → E (.ref CT) none H')
theorem hA_ (T : Txt K mg) (EX : Exs K mg CR CT CO CW) (F : Fn0 K mg "point_read" s_point_read) (R_names_read : CalR P w K mg base "names_read" ["words"] 2 (sp_nr CT)) : CalR P w K mg base "point_read" ["words"] 3 (sp_po CT) := by
 refine gV_ F fw_ (fun _ _ _ _ _ _ us hl => match us, hl with | [_], _ => rfl) ?len ?body
 case len => rintro vs H Q E ⟨a, b, c, rfl, _⟩; rfl
 case body =>
  intro f cdv A outer s H vs Q E hr h
  obtain ⟨a, y, ps, rfl, ha, hok, l9, k, kx⟩ := h
  refine' ⟨_, ?D, ?R⟩
  case D =>
   refine' aa_ ?g1 ?g2
   case' g1 => refine' ps_if ?g3 ?g4 ar_
   case' g3 => refine' ak_ op_lt ?g6 ac_ (nomark _)
   case' g6 => refine' ah_ ap_ fR_ T.n_len aG_ ?g8
   case' g8 => refine' pa_c (pv1 0 rfl er_) ab_
   case' g4 => refine' ae_ ?g11
   case' g11 => refine' ey_ EX.own_NoText EX.m_NoText hr.hd eM_ ?g12
   case' g12 => refine' pa_c aF_ ab_
   case' g2 => refine' aa_ ?g15 ?g16
   case' g15 => refine' af_ (i := 1) fw_.nd rfl cT_ ?g17
   case' g17 => refine' ez_ R_names_read (hr.mono (by decide)) passR dr_ ?g18
   case' g18 => refine' pa_c ?g19 ab_
   case' g19 => refine' aL_ bw_ (pv1 0 rfl er_) ?g22 ?g23
   case' g22 => refine' aV_ ac_
   case g23 => exact a2_
   case' g16 => refine' ae_ ?g25
   case' g25 => refine' ao_ ?g26
   case' g26 => refine' aO_ ?g27
   case' g27 => refine' pa_c ?g28 ?g29
   case' g28 => refine' pe_ix am_ (pv1 1 rfl cT_) ac_ (fun _ _ => rfl)
   case' g29 => refine' pa_c ?g32 ab_
   case' g32 => refine' aL_ bw_ (pv1 1 rfl cT_) ?g35 ?g36
   case' g35 => refine' aV_ ac_
   case g36 => exact a2_
  case R =>
   walk_at "rd"
   refine ⟨_, .inl ha, ?_⟩
   rw [List.length_map, List.length_cons]
   cases ps with
   | nil =>
    rw [if_pos (by simp)]
    exact dV_ (kx rfl H (Same.refl _))
   | cons n ws =>
    rw [if_neg (by rw [List.length_cons]; omega)]
    refine ⟨_, ha, fun p np => ?_⟩
    rw [cut_1]
    have S1 := Same.new np (o := HO.lst ((n :: ws).map V.str))
    have hp := ad_ (H := H) (a := p) (o := HO.lst ((n :: ws).map V.str))
    generalize upd H p (HO.lst ((n :: ws).map V.str)) = H1 at *
    refine ⟨p, n :: ws, rfl, hp, hok, by omega, fun hal H2 s2 => ?_, fun hal H2 s2 => ?_⟩
    ·have hp2 := s2 _ _ hp
     refine ⟨p, rfl, _, hp2, _, atI_0, p, rfl, _, hp2, fun l nl => ⟨by decide, fun z nz => ?_⟩⟩
     rw [cut_1] at nz ⊢
     have s12 := S1.trans s2
     have S3 := Same.new nl (o := HO.lst (ws.map V.str))
     exact k n ws rfl hal z l _ ((s12.trans S3).trans (Same.new nz)) ((s12.trans S3).free nz) (s12.free nl) ad_ ((Same.new nz) _ _ ad_)
    ·refine kx ?_ H2 (S1.trans s2)
     rw [← hal]
     rfl
abbrev s_wire_read : Stmt := stN 34
theorem es_ : FnScope ["words", "names", "worth"] ["words"] (defScope s_wire_read) := ⟨rfl, rfl, rfl, by decide +kernel, rfl, by decide +kernel, by decide +kernel⟩
theorem df_ : LK s_wire_read "words" .local := by decide +kernel
theorem eQ_ : LK s_wire_read "names" .local := by decide +kernel
theorem dg_ : LK s_wire_read "worth" .local := by decide +kernel
theorem cU_ : LK s_wire_read "NoText" .globalImplicit := by decide +kernel
theorem go_ : LK s_wire_read "len" .globalImplicit := by decide +kernel
theorem dW_ : LK s_wire_read "names_read" .globalImplicit := by decide +kernel
theorem cz_ : LK s_wire_read "worth_from_text" .globalImplicit := by decide +kernel
def wrOf : List Str → Option (Str × (Int × Int))
 | [n, t] => if isNm n = true then (wOf t).map fun p => (n, p) else none
 | _ => none
def sp_wr (CT : Addr) : Sp := fun vs H Q E => ∃ (a : Addr) (y : Str) (ps : List Str), vs = [.ref a] ∧ H a = some (.lst ((y :: ps).map V.str)) ∧ (∀ x ∈ ps, Wd x) ∧ ps.length ≤ 980 ∧
 (∀ r, wrOf ps = some r → ∀ z u H', Same H H' → H z = none → H u = none → H' z = some (.tup [.str r.1, .ref u]) → H' u = some (.tup [.int r.2.1, .int r.2.2]) → Q (.ref z) H') ∧
 (wrOf ps = none → ∀ H', Same H H' → E (.ref CT) none H')
theorem im_ (T : Txt K mg) (EX : Exs K mg CR CT CO CW) (F : Fn0 K mg "wire_read" s_wire_read) (R_names_read : CalR P w K mg base "names_read" ["words"] 2 (sp_nr CT)) (C_worth_from_text : Cal P w K mg base "worth_from_text" ["text"] 4 sp_wrt) : CalR P w K mg base "wire_read" ["words"] 5 (sp_wr CT) := by
 refine gV_ F es_ (fun _ _ _ _ _ _ us hl => match us, hl with | [_], _ => rfl) ?len ?body
 case len => rintro vs H Q E ⟨a, b, c, rfl, _⟩; rfl
 case body =>
  intro f cdv A outer s H vs Q E hr h
  obtain ⟨a, y, ps, rfl, ha, hok, l9, k, kx⟩ := h
  refine' ⟨_, ?D, ?R⟩
  case D =>
   refine' aa_ ?g1 ?g2
   case' g1 => refine' ps_if ?g3 ?g4 ar_
   case' g3 => refine' ak_ op_ne ?g6 ac_ (nomark _)
   case' g6 => refine' ah_ ap_ go_ T.n_len aG_ ?g8
   case' g8 => refine' pa_c (pv1 0 rfl df_) ab_
   case' g4 => refine' ae_ ?g11
   case' g11 => refine' ey_ EX.own_NoText EX.m_NoText hr.hd cU_ ?g12
   case' g12 => refine' pa_c aF_ ab_
   case' g2 => refine' aa_ ?g15 ?g16
   case' g15 => refine' af_ (i := 1) es_.nd rfl eQ_ ?g17
   case' g17 => refine' ez_ R_names_read (hr.mono (by decide)) passR dW_ ?g18
   case' g18 => refine' pa_c ?g19 ab_
   case' g19 => refine' aL_ bw_ (pv1 0 rfl df_) ?g22 ?g23
   case' g22 => refine' aV_ ac_
   case' g23 => refine' aV_ ac_
   case' g16 => refine' aa_ ?g26 ?g27
   case' g26 => refine' af_ (i := 2) es_.nd rfl dg_ ?g28
   case' g28 => refine' al_ C_worth_from_text (hr.mono (by decide)) cz_ ?g29
   case' g29 => refine' pa_c ?g30 ab_
   case' g30 => refine' pe_ix am_ (pv1 0 rfl df_) ac_ (fun _ _ => rfl)
   case' g27 => refine' aa_ ?g34 ?g35
   case' g34 => refine' ps_if ?g36 ?g37 ar_
   case' g36 => refine' hH_ (lo_ (pv1 2 rfl dg_))
   case' g37 => refine' ae_ ?g40
   case' g40 => refine' ey_ EX.own_NoText EX.m_NoText hr.hd cU_ ?g41
   case' g41 => refine' pa_c aF_ ab_
   case' g35 => refine' ae_ ?g44
   case' g44 => refine' ao_ ?g45
   case' g45 => refine' aO_ ?g46
   case' g46 => refine' pa_c ?g47 ?g48
   case' g47 => refine' pe_ix am_ (pv1 1 rfl eQ_) ac_ (fun _ _ => rfl)
   case' g48 => refine' pa_c (pv1 2 rfl dg_) ab_
  case R =>
   walk_at "rd"
   refine ⟨_, .inl ha, ?_⟩
   rw [List.length_map, List.length_cons]
   refine ite2 (fun h1 => ?_) (fun h1 => ?_)
   ·refine dV_ (kx ?_ H (Same.refl _))
    match ps, h1 with
    | [], _ => rfl
    | [_], _ => rfl
    | [_, _], h => exact absurd rfl h
    | _ :: _ :: _ :: _, _ => rfl
   obtain ⟨n, t, rfl⟩ : ∃ n t, ps = [n, t] := by
    match ps, h1 with
    | [], h => exact absurd (by decide) h
    | [_], h => exact absurd (by simp) h
    | [n, t], _ => exact ⟨n, t, rfl⟩
    | _ :: _ :: _ :: _, h => exact absurd (by simp only [List.length_cons]; omega) h
   refine ⟨_, ha, fun p np => ?_⟩
   have ec : cutV ([y, n, t].map V.str) (some 1) (some 2) = [n].map V.str := rfl
   rw [ec]
   have S1 := Same.new np (o := HO.lst ([n].map V.str))
   have hp := ad_ (H := H) (a := p) (o := HO.lst ([n].map V.str))
   generalize upd H p (HO.lst ([n].map V.str)) = H1 at *
   have en : [n].all isNm = isNm n := by simp
   dsimp only [wrOf] at k kx
   refine ⟨p, [n], rfl, hp, fun x hx => by rw [List.mem_singleton.mp hx]; exact hok n (by simp), by show 1 ≤ 990; decide, fun hal H2 s2 => ?_, fun hal H2 s2 => ?_⟩
   ·have s12 := S1.trans s2
    rw [en] at hal
    rw [if_pos hal] at k kx
    refine ⟨_, s12 _ _ ha, _, atI_2, t, rfl, hok t (by simp), fun v H3 s3 hv => ?_⟩
    generalize wOf t = o at *
    cases o with
    | none =>
     cases hv
     show if V.non = V.non then _ else _
     rw [if_pos rfl]
     exact dV_ (kx rfl H3 (s12.trans s3))
    | some pr =>
     obtain ⟨u, rfl, hu⟩ := hv
     show if V.ref u = V.non then _ else _
     rw [if_neg (fun z => by cases z)]
     refine ⟨p, rfl, _, s3 _ _ (s2 _ _ hp), _, atI_0, by decide, fun z nz => ?_⟩
     exact k (n, pr) rfl z u _ ((s12.trans s3).trans (Same.new nz)) ((s12.trans s3).free nz) (s12.free (aJ_ hu).1) ad_ ((Same.new nz) _ _ (aJ_ hu).2)
   ·rw [en] at hal
    rw [if_neg (by rw [hal]; decide)] at kx
    exact kx rfl H2 (S1.trans s2)
open PySem PySem.Spec PyProof.Rows L2 RimM RimT RimRW
variable {P : Program} {w : World} {K : PySem.W.Frag} {mg : Str → Option Value} {base : Heap} {CR CT CO CW : Addr}
def isSep (c : Nat) : Bool := c == 32 || c == 10
structure TOk (x : Str) : Prop where
 len : x.length ≤ 5000
 few : (cs x).countP isSep ≤ 900
 low : ∀ c ∈ cs x, c < 128
 run : Run 30 (cs x)
theorem e_sp : Str.ofString " " = onec 32 := by decide +kernel
theorem e_nl : Str.ofString "\n" = onec 10 := by decide +kernel
def wdsOf (x : Str) : List (List Str) := (Txt.split x (Str.ofString "\n")).map fun r => Txt.split r (Str.ofString " ")
theorem in_ {l : List Nat} {c : Nat} (h : isSep c = true) : l.count c ≤ l.countP isSep := by
 unfold List.count
 refine List.countP_mono_left fun a _ e => ?_
 rw [eq_of_beq e]
 exact h
theorem cV_ {l m : List Nat} (h : l <:+: m) : l.countP isSep ≤ m.countP isSep := List.Sublist.countP_le h.sublist
theorem io_ {x : Str} (h : TOk x) : (Txt.split x (Str.ofString "\n")).length ≤ 901 := by
 rw [e_nl, bT_ (by decide)]
 have := in_ (l := cs x) (c := 10) rfl
 have := h.few
 omega
theorem nR_ {x r : Str} (h : TOk x) (hr : r ∈ Txt.split x (Str.ofString "\n")) : r.length ≤ 5000 ∧ (Txt.split r (Str.ofString " ")).length ≤ 901 ∧ Txt.split r (Str.ofString " ") ≠ [] ∧ ∀ y ∈ Txt.split r (Str.ofString " "), Wd y := by
 rw [e_nl] at hr
 obtain ⟨n1, i1⟩ := (bd_ (x := x) (c := 10) (by decide)).2 r hr
 have sp := bd_ (x := r) (c := 32) (by decide)
 rw [← e_sp] at sp
 refine ⟨Nat.le_trans i1.length_le h.len, ?_, sp.1, fun y hy => ?_⟩
 ·rw [e_sp, bT_ (by decide)]
  have := in_ (l := cs r) (c := 32) rfl
  have := cV_ i1
  have := h.few
  omega
 ·obtain ⟨n2, i2⟩ := sp.2 y hy
  have i3 := i2.trans i1
  refine ⟨h.run y.cps.toList i3 fun c hc => ?_, fun c hc => h.low c (i3.mem hc)⟩
  rintro (rfl | rfl)
  ·exact n2 hc
  ·exact n1 (i2.mem hc)
def rdRows : List (List Str) → List (Str × List Str) → List (Str × (Int × Int)) → Option (List (Str × List Str) × List (Str × (Int × Int)))
 | [], ps, ws => some (ps, ws)
 | (y :: r) :: rest, ps, ws =>
  if y = Str.ofString "at" ∧ ws.length = 0 then
   match r with
   | n :: t => if goodP (n :: t) = true then rdRows rest (ps ++ [(n, t)]) ws else none
   | [] => none
  else if y = Str.ofString "wire" then
   match wrOf r with
   | some p => rdRows rest ps (ws ++ [p])
   | none => none
  else none
 | [] :: _, _, _ => none
theorem j7_ {y : Str} {r : List Str} {rest : List (List Str)} {ps : List (Str × List Str)} {ws : List (Str × (Int × Int))} : rdRows ((y :: r) :: rest) ps ws =
  if y = Str.ofString "at" ∧ ws.length = 0 then
   match r with
   | n :: t => if goodP (n :: t) = true then rdRows rest (ps ++ [(n, t)]) ws else none
   | [] => none
  else if y = Str.ofString "wire" then
   match wrOf r with
   | some p => rdRows rest ps (ws ++ [p])
   | none => none
  else none := by
 rw [rdRows.eq_def]
def rdNet (x : Str) : Option (Net Str) :=
 match wdsOf x with
 | (y :: ps) :: rest => if y = Str.ofString "rim" ∧ 1 ≤ ps.length ∧ ps.length ≤ 6 ∧ ps.all isNm = true then (rdRows rest [] []).map fun q => ⟨ps, q.1, q.2⟩ else none
 | _ => none
def spl (r : Str) : List Str := Txt.split r (Str.ofString " ")
abbrev s_net_read : Stmt := stN 35
theorem bY_ : FnScope ["text", "rows", "posts", "points", "worths", "words"] ["text"] (defScope s_net_read) := ⟨rfl, rfl, rfl, by decide +kernel, rfl, by decide +kernel, by decide +kernel⟩
theorem ip_ : LK s_net_read "text" .local := by decide +kernel
theorem dX_ : LK s_net_read "rows" .local := by decide +kernel
theorem fx_ : LK s_net_read "posts" .local := by decide +kernel
theorem dY_ : LK s_net_read "points" .local := by decide +kernel
theorem cA_ : LK s_net_read "worths" .local := by decide +kernel
theorem bK_ : LK s_net_read "words" .local := by decide +kernel
theorem fy_ : LK s_net_read "NoText" .globalImplicit := by decide +kernel
theorem hk_ : LK s_net_read "len" .globalImplicit := by decide +kernel
theorem d6_ : LK s_net_read "point_read" .globalImplicit := by decide +kernel
theorem d7_ : LK s_net_read "posts_read" .globalImplicit := by decide +kernel
theorem et_ : LK s_net_read "wire_read" .globalImplicit := by decide +kernel
def sp_rd (CT : Addr) : Sp := fun vs H Q E => ∃ x : Str, vs = [.str x] ∧ TOk x ∧ (∀ N, rdNet x = some N → ∀ v H', Same H H' → Rep H' v (dNet N) → Q v H') ∧ (rdNet x = none → ∀ H', Same H H' → E (.ref CT) none H')
theorem jm_ (T : Txt K mg) (EX : Exs K mg CR CT CO CW) (F : Fn0 K mg "net_read" s_net_read) (R_posts_read : CalR P w K mg base "posts_read" ["words"] 3 (sp_pr CT)) (R_point_read : CalR P w K mg base "point_read" ["words"] 3 (sp_po CT)) (R_wire_read : CalR P w K mg base "wire_read" ["words"] 5 (sp_wr CT)) : CalR P w K mg base "net_read" ["text"] 6 (sp_rd CT) := by
 refine gV_ F bY_ (fun _ _ _ _ _ _ us hl => match us, hl with | [_], _ => rfl) ?len ?body
 case len => rintro vs H Q E ⟨a, rfl, _⟩; rfl
 case body =>
  intro f cdv A outer s H vs Q E hr h
  obtain ⟨x, rfl, ok, k, kx⟩ := h
  have tl := ok.len
  have rf := io_ ok
  have hro := fun r => nR_ (r := r) ok
  have hne := (bd_ (x := x) (c := 10) (by decide)).1
  rw [← e_nl] at hne
  unfold rdNet wdsOf at k kx
  generalize hrs : Txt.split x (Str.ofString "\n") = rs at *
  refine' ⟨_, ?D, ?R⟩
  case D =>
   refine' az_ ?g1 ?g2
   case' g1 => refine' o0_ ?g3
   case' g3 => refine' eT_ (i := 1) (N' := ["row"]) (ix := [none]) rfl rfl bY_.nd rfl dX_ rfl (bN_ ?g4) ?g5 (fun _ _ _ => ?g6) (fun _ _ _ => ?g7) (fun _ _ _ => ?g8)
   case g4 => exact (by show scpB (defScope s_net_read) ["text", "rows", "posts", "points", "worths", "words"] _ _ _ = true; decide +kernel)
   case' g5 => refine' bm_ (K := K) rfl ?g9
   case' g9 => refine' dZ_ (K := K) rfl PySem.F.plainAttrs_str PySem.F.slot_str_split PySem.F.type_str_split eB_ (pv1 0 rfl ip_) ?g11
   case' g11 => refine' pa_c aF_ ab_
   case g6 => exact aj_ (i := 0) (by show List.Nodup (["row"] : List Str); decide +kernel) rfl rfl
   case g7 => exact c0_
   case' g8 => refine' dZ_ (K := K) rfl PySem.F.plainAttrs_str PySem.F.slot_str_split PySem.F.type_str_split eB_ (pv1 0 rfl rfl) ?g15
   case' g15 => refine' pa_c aF_ ab_
   case' g2 => refine' az_ ?g18 ?g19
   case' g18 => refine' af_ (i := 2) bY_.nd rfl fx_ ?g20
   case' g20 => refine' ez_ R_posts_read (hr.mono (by decide)) passR d7_ ?g21
   case' g21 => refine' pa_c ?g22 ab_
   case' g22 => refine' pe_ix am_ (pv1 1 rfl dX_) ac_ (fun _ _ => rfl)
   case' g19 => refine' az_ ?g26 ?g27
   case' g26 => refine' af_ (i := 3) bY_.nd rfl dY_ ?g28
   case' g28 => refine' bh_ ab_
   case' g27 => refine' az_ ?g30 ?g31
   case' g30 => refine' af_ (i := 4) bY_.nd rfl cA_ ?g32
   case' g32 => refine' bh_ ab_
   case' g31 => refine' aa_ ?g34 ?g35
   case' g34 => refine' cB_ own_R rfl ?g36 ?g37 ?g38
   case' g36 => refine' bm_ (K := K) rfl ?g39
   case' g39 => refine' aL_ bw_ (pv1 1 rfl dX_) ?g41 ?g42
   case' g41 => refine' aV_ ac_
   case g42 => exact a2_
   case g37 => exact aj_ (i := 5) bY_.nd rfl bK_
   case' g38 => refine' ae_ ?g44
   case' g44 => refine' ps_if ?g45 ?g46 ?g47
   case' g45 => refine' PW.pt ?g48
   case' g48 => refine' eO_ ?g49 ?g50
   case' g49 => refine' ak_ op_eq ?g51 aF_ (nomark _)
   case' g51 => refine' pe_ix am_ (pv1 5 rfl bK_) ac_ (fun _ _ => rfl)
   case' g50 => refine' eS_ ?g55
   case' g55 => refine' ak_ op_eq ?g56 ac_ (nomark _)
   case' g56 => refine' ah_ ap_ hk_ T.n_len aG_ ?g58
   case' g58 => refine' pa_c (pv1 4 rfl cA_) ab_
   case' g46 => refine' ae_ ?g61
   case' g61 => refine' aZ_ ?g62
   case' g62 => refine' pe_bm PySem.F.plainAttrs_list PySem.F.slot_list_append PySem.F.type_list_append bi_ (pv1 3 rfl dY_) ?g64
   case' g64 => refine' pa_c ?g65 ab_
   case' g65 => refine' ez_ R_point_read (hr.mono (by decide)) passR d6_ ?g67
   case' g67 => refine' pa_c (pv1 5 rfl bK_) ab_
   case' g47 => refine' ae_ ?g70
   case' g70 => refine' ps_if ?g71 ?g72 ?g73
   case' g71 => refine' ak_ op_eq ?g74 aF_ (nomark _)
   case' g74 => refine' pe_ix am_ (pv1 5 rfl bK_) ac_ (fun _ _ => rfl)
   case' g72 => refine' ae_ ?g78
   case' g78 => refine' aZ_ ?g79
   case' g79 => refine' pe_bm PySem.F.plainAttrs_list PySem.F.slot_list_append PySem.F.type_list_append bi_ (pv1 4 rfl cA_) ?g81
   case' g81 => refine' pa_c ?g82 ab_
   case' g82 => refine' ez_ R_wire_read (hr.mono (by decide)) passR et_ ?g84
   case' g84 => refine' pa_c (pv1 5 rfl bK_) ab_
   case' g73 => refine' ae_ ?g87
   case' g87 => refine' ey_ EX.own_NoText EX.m_NoText hr.hd fy_ ?g88
   case' g88 => refine' pa_c aF_ ab_
   case' g35 => refine' ae_ ?g91
   case' g91 => refine' ao_ ?g92
   case' g92 => refine' aO_ ?g93
   case' g93 => refine' pa_c (pv1 2 rfl fx_) ?g95
   case' g95 => refine' pa_c (pv1 3 rfl dY_) ?g97
   case' g97 => refine' pa_c (pv1 4 rfl cA_) ab_
  case R =>
   walk_at "rd"
   refine ⟨by decide +kernel, by omega, fun D0 n0 => ?_⟩
   rw [show Txt.split x (Str.ofString "\n") = rs from hrs]
   have S1 := Same.new n0 (o := HO.lst (rs.map V.str))
   have hD0 := ad_ (H := H) (a := D0) (o := HO.lst (rs.map V.str))
   generalize upd H D0 (HO.lst (rs.map V.str)) = H1 at *
   refine ⟨⟨_, .inl (.inl hD0)⟩, ?_⟩
   refine b1_ (n := rs.length) (B := H) (Pσ := fun σ => ∃ e, σ = [e]) (ds := (rs.map spl).map dWs) S1 ⟨_, rfl⟩ (by simp) (by omega) (fun i H' hi s' => ⟨_, .str rs[i], .inl (.inl (s' _ _ hD0)), by simp [hi]⟩) (fun H' s' => ⟨_, .inl (.inl (s' _ _ hD0)), by simp⟩) ?_ ?_
   ·rintro D i y d σ' H2 H2' hD ⟨oD, hDo⟩ hs2 hi hdi ⟨rfl, hy⟩ ⟨e, rfl⟩ Rr kR
    have hx := hy _ (.inl (.inl (hs2 _ _ hD0)))
    rw [List.getElem?_map, List.getElem?_eq_getElem hi] at hx
    cases hx
    have hw := hro _ (List.getElem_mem hi)
    have hd : d = dWs (spl rs[i]) := by
     rw [List.getElem?_map, List.getElem?_map, List.getElem?_eq_getElem hi] at hdi
     exact (Option.some.inj hdi).symm
    generalize rs[i] = wd at *
    walk_at "rd"
    refine ⟨by decide +kernel, by omega, fun t2 n2 => kR _ _ _ ⟨_, rfl⟩ (Same.new n2) ?_⟩
    have tD : t2 ≠ D := (ag_ hDo n2).symm
    rw [hd]
    exact ⟨t2, _, rfl, by rw [eb_ tD ((S1.trans hs2).free n2)]; exact ad_, aP_ (spl wd)⟩
   ·intro D H2 hD s2 rep2
    obtain ⟨_, xs, eD, hDn, rxs⟩ := rep2
    cases eD
    have hD2 := (aJ_ hDn).2
    have s02 := S1.trans s2
    have xl : xs.length = rs.length := by rw [rxs.length, List.length_map, List.length_map]
    have rx : ∀ (i : Nat) (r : Str), rs[i]? = some r → ∃ q y ps, xs[i]? = some (.ref q) ∧ H2 q = some (.lst ((y :: ps).map V.str)) ∧ spl r = y :: ps ∧ (∀ z ∈ ps, Wd z) ∧ ps.length ≤ 900 := fun i r hi => by
     obtain ⟨v, hx, hr⟩ := rxs.get (i := i) (d := dWs (spl r)) (by rw [List.getElem?_map, List.getElem?_map, hi]; rfl)
     obtain ⟨q, us, rfl, hq, hus⟩ := hr
     rw [b5_ hus] at hq
     obtain ⟨_, h2, h3, h4⟩ := hro r (List.mem_of_getElem? hi)
     cases e : spl r with
     | nil => exact absurd e h3
     | cons y ps =>
      rw [e] at hq
      rw [show Txt.split r (Str.ofString " ") = y :: ps from e] at h2 h4
      exact ⟨q, y, ps, hx, (aJ_ hq).2, rfl, fun z hz => h4 z (List.mem_cons_of_mem _ hz), by rw [List.length_cons] at h2; omega⟩
    obtain ⟨r0, rest, rfl⟩ : ∃ r0 rest, rs = r0 :: rest := by
     cases rs with
     | nil => exact absurd rfl hne
     | cons a b => exact ⟨a, b, rfl⟩
    obtain ⟨q0, y0, ps0, hq0, hw0, es0, wd0, len0⟩ := rx 0 r0 rfl
    rw [List.map_cons, show Txt.split r0 (Str.ofString " ") = y0 :: ps0 from es0] at k kx
    dsimp only at k kx
    try walk_at "rd"
    refine ⟨xs, hD2, .ref q0, b9_ (by decide) hq0, q0, y0, ps0, rfl, hw0, wd0, by omega, fun hg Dp H3 s3 nDp hDp => ?_, fun hg H3 s3 => ?_⟩
    rotate_left
    ·rw [if_neg hg] at kx
     exact kx rfl H3 (s02.trans s3)
    rw [if_pos hg] at k kx
    have ek : (rest.map fun r => Txt.split r (Str.ofString " ")) = rest.map spl := rfl
    rw [ek] at k kx
    have hLl : (rest.map spl).length = rest.length := List.length_map ..
    have hLr : ∀ i r, rest[i]? = some r → (rest.map spl).drop i = spl r :: (rest.map spl).drop (i + 1) := fun i r hi => by
     obtain ⟨hil, er⟩ := List.getElem?_eq_some_iff.mp hi
     rw [List.drop_eq_getElem_cons (by rw [hLl]; exact hil), List.getElem_map, er]
    generalize rest.map spl = L at *
    rw [List.length_cons] at rf xl
    generalize hR0 : rdRows L [] [] = R0 at *
    have kx' : R0 = none → ∀ H', Same H H' → E (.ref CT) none H' := fun e => kx (by rw [e]; rfl)
    clear kx
    walk_at "rd"
    refine ⟨Nat.zero_le _, fun PA nPA => ?_⟩
    have S4 := Same.new nPA (o := HO.lst [])
    have hPA := ad_ (H := H3) (a := PA) (o := HO.lst [])
    generalize upd H3 PA (HO.lst []) = H4 at *
    walk_at "rd"
    refine ⟨Nat.zero_le _, fun WA nWA => ?_⟩
    have S5 := Same.new nWA (o := HO.lst [])
    have hWA := ad_ (H := H4) (a := WA) (o := HO.lst [])
    have hPA5 := S5 _ _ hPA
    have s35 := S4.trans S5
    have pw : PA ≠ WA := ag_ hPA nWA
    generalize upd H4 WA (HO.lst []) = H5 at *
    have hD5 := (s3.trans s35) _ _ hD2
    walk_at "rd"
    refine ⟨_, hD5, fun SL nSL => ?_⟩
    rw [show cutV xs (some 1) none = xs.drop 1 from ff_ _ 1 (by rw [xl]; omega)]
    have PS : PA ≠ SL := ag_ hPA5 nSL
    have WS : WA ≠ SL := ag_ hWA nSL
    have H3SL := s35.free nSL
    have sS0 : Same (upd H3 SL (HO.lst (xs.drop 1))) (upd H5 SL (HO.lst (xs.drop 1))) := fun b o h => by
     by_cases e : b = SL
     ·subst e
      rw [ad_] at h ⊢
      exact h
     ·rw [ai_ e] at h ⊢
      exact s35 _ _ h
    have s3S := Same.new H3SL (o := HO.lst (xs.drop 1))
    have SPA : upd H3 SL (HO.lst (xs.drop 1)) PA = none := by rw [ai_ PS]; exact nPA
    have SWA : upd H3 SL (HO.lst (xs.drop 1)) WA = none := by rw [ai_ WS]; exact S4.free nWA
    have hSL := ad_ (H := H3) (a := SL) (o := HO.lst (xs.drop 1))
    have hPA6 : upd H5 SL (HO.lst (xs.drop 1)) PA = some (.lst []) := by rw [ai_ PS]; exact hPA5
    have hWA6 : upd H5 SL (HO.lst (xs.drop 1)) WA = some (.lst []) := by rw [ai_ WS]; exact hWA
    generalize upd H5 SL (HO.lst (xs.drop 1)) = H6 at *
    generalize upd H3 SL (HO.lst (xs.drop 1)) = S0 at *
    have s0S : Same H S0 := (s02.trans s3).trans s3S
    have s2S := s3.trans s3S
    refine ⟨⟨_, .inl (.inl (sS0 _ _ hSL))⟩, ib_ (xs := xs.drop 1) (fun i σ Hx => ∃ (e5 : Option V) (S : Hp) (ys zs : List V) (pp : List (Str × List Str)) (ww : List (Str × (Int × Int))), σ = [some (V.str x), some (V.ref D), some (V.ref Dp), some (V.ref PA), some (V.ref WA), e5] ∧ Same S0 S ∧ Same S Hx ∧ S PA = none ∧ S WA = none ∧ Hx PA = some (.lst ys) ∧ Hx WA = some (.lst zs) ∧ Reps S ys (pp.map dRw) ∧ Reps S zs (ww.map dWo) ∧ pp.length ≤ i ∧ ww.length ≤ i ∧ rdRows (L.drop i) pp ww = R0) ⟨_, S0, [], [], [], [], rfl, Same.refl _, sS0, SPA, SWA, hPA6, hWA6, rfl, rfl, Nat.le_refl _, Nat.le_refl _, by rw [List.drop_zero]; exact hR0⟩ ?_ ?_ ?_⟩
    ·rintro i σ Hx hi ⟨e5, S, ys, zs, pp, ww, rfl, sS, sH, sPA, sWA, hPx, hWx, ry, rz, _⟩
     exact .inl (.inl (sH _ _ (sS _ _ hSL)))
    ·rintro i v σ Hx hx kk kb hk hbk G hG ⟨e5, S, ys, zs, pp, ww, rfl, sS, sH, sPA, sWA, hPx, hWx, ry, rz, lp, lw, rd⟩
     rw [List.getElem?_drop, Nat.add_comm 1 i] at hx
     have il : i < rest.length := by
      have := (List.getElem?_eq_some_iff.mp hx).1
      omega
     have s2x : Same H2 Hx := s2S.trans (sS.trans sH)
     have s0x : Same H Hx := s0S.trans (sS.trans sH)
     have yl : ys.length = pp.length := by rw [ry.length, List.length_map]
     have zl : zs.length = ww.length := by rw [rz.length, List.length_map]
     obtain ⟨r, hr⟩ : ∃ r, rest[i]? = some r := ⟨_, List.getElem?_eq_getElem il⟩
     obtain ⟨q, y, ps, hq, hwq, es, wds, lps⟩ := rx (i + 1) r (by rw [List.getElem?_cons_succ]; exact hr)
     rw [hx] at hq
     cases hq
     rw [hLr i r hr, es, j7_] at rd
     have wat : ¬ Str.ofString "wire" = Str.ofString "at" := by decide +kernel
     walk_at "rd"
     refine ⟨_, s2x _ _ hwq, _, atI_0, rfl, ?_⟩
     refine ite2 (fun hA => ?_) (fun hA => ?_)
     ·have hA' : y = Str.ofString "at" := V.str.inj hA
      refine ⟨_, .inl hWx, ite2 (fun hz => ?_) (fun hz => ?_)⟩
      ·have w0 : ww.length = 0 := by omega
       rw [if_pos ⟨hA', w0⟩] at rd
       refine ⟨.inl ⟨_, .inl (.inl hPx)⟩, q, y, ps, rfl, s2x _ _ hwq, wds, by omega, fun n ws eps good z l H7 s7 nz nl hz hl => ?_, fun bad H7 s7 => ?_⟩
       ·subst eps
        dsimp only at rd
        rw [if_pos good] at rd
        have g1 : Same S (grow S Hx H7) := bq_ sH
        have g2 : Same (grow S Hx H7) H7 := ec_ sH s7
        have gP : grow S Hx H7 PA = none := by rw [bn_ hPx]; exact sPA
        have gW : grow S Hx H7 WA = none := by rw [bn_ hWx]; exact sWA
        refine ⟨ys, s7 _ _ hPx, small1000 (by omega), hk _ _ ⟨_, grow S Hx H7, ys ++ [.ref z], zs, pp ++ [(n, ws)], ww, rfl, sS.trans g1, b2_ g2 gP, gP, gW, ad_, by rw [ai_ pw.symm]; exact s7 _ _ hWx, ?_, Reps.mono g1 _ rz, by rw [List.length_append]; exact Nat.succ_le_succ lp, by omega, rd⟩⟩
        rw [List.map_append]
        refine (Reps.mono g1 _ ry).append ⟨_, _, rfl, ⟨z, _, rfl, ?_, _, _, rfl, rfl, _, _, rfl, ⟨l, _, rfl, ?_, aP_ _⟩, rfl⟩, rfl⟩
        ·rw [cl_ nz]
         exact hz
        ·rw [cl_ nl]
         exact hl
       ·refine kx' ?_ H7 (s0x.trans s7)
        rw [← rd]
        cases ps with
        | nil => rfl
        | cons n ws =>
         dsimp only
         rw [if_neg (by rw [bad]; decide)]
      ·refine ⟨_, s2x _ _ hwq, _, atI_0, rfl, ?_⟩
       rw [if_neg (fun z => wat ((V.str.inj z).symm.trans hA'))]
       refine dV_ (kx' ?_ Hx s0x)
       rw [← rd, if_neg (fun z => hz (by have := z.2; omega)), if_neg (fun z => wat (z.symm.trans hA'))]
     ·have hA' : ¬ y = Str.ofString "at" := fun z => hA (by rw [z])
      rw [if_neg (fun z => hA' z.1)] at rd
      refine ⟨_, s2x _ _ hwq, _, atI_0, rfl, ite2 (fun hW => ?_) (fun hW => ?_)⟩
      ·rw [if_pos (V.str.inj hW)] at rd
       refine ⟨.inl ⟨_, .inl (.inl hWx)⟩, q, y, ps, rfl, s2x _ _ hwq, wds, by omega, fun p ep z u H7 s7 nz nu hz hu => ?_, fun bad H7 s7 => ?_⟩
       ·rw [ep] at rd
        dsimp only at rd
        have g1 : Same S (grow S Hx H7) := bq_ sH
        have g2 : Same (grow S Hx H7) H7 := ec_ sH s7
        have gP : grow S Hx H7 PA = none := by rw [bn_ hPx]; exact sPA
        have gW : grow S Hx H7 WA = none := by rw [bn_ hWx]; exact sWA
        refine ⟨zs, s7 _ _ hWx, small1000 (by omega), hk _ _ ⟨_, grow S Hx H7, ys, zs ++ [.ref z], pp, ww ++ [p], rfl, sS.trans g1, b2_ g2 gW, gP, gW, by rw [ai_ pw]; exact s7 _ _ hPx, ad_, Reps.mono g1 _ ry, ?_, by omega, by rw [List.length_append]; exact Nat.succ_le_succ lw, rd⟩⟩
        rw [List.map_append]
        refine (Reps.mono g1 _ rz).append ⟨_, _, rfl, ⟨z, _, rfl, ?_, _, _, rfl, rfl, _, _, rfl, ⟨u, _, rfl, ?_, _, _, rfl, rfl, _, _, rfl, rfl, rfl⟩, rfl⟩, rfl⟩
        ·rw [cl_ nz]
         exact hz
        ·rw [cl_ nu]
         exact hu
       ·refine kx' ?_ H7 (s0x.trans s7)
        rw [← rd, bad]
      ·refine dV_ (kx' ?_ Hx s0x)
       rw [← rd, if_neg (fun z => hW (by rw [z]))]
    ·rintro σ Hx ⟨e5, S, ys, zs, pp, ww, rfl, sS, sH, sPA, sWA, hPx, hWx, ry, rz, _, _, rd⟩
     have dl : (xs.drop 1).length = L.length := by rw [List.length_drop, xl, hLl]; omega
     rw [dl, List.drop_length, rdRows] at rd
     have s0x : Same H Hx := s0S.trans (sS.trans sH)
     walk_at "rd"
     refine ⟨by decide, fun z nz => k ⟨ps0, pp, ww⟩ (by rw [← rd]; rfl) _ _ (s0x.trans (Same.new nz)) ?_⟩
     have S9 := Same.new nz (o := HO.tup [V.ref Dp, V.ref PA, V.ref WA])
     have sN := sH.trans S9
     exact ⟨z, _, rfl, ad_, _, _, rfl, ⟨Dp, _, rfl, sN _ _ (sS _ _ (s3S _ _ hDp)), aP_ _⟩, _, _, rfl, ⟨PA, ys, rfl, S9 _ _ hPx, Reps.mono sN _ ry⟩, _, _, rfl, ⟨WA, zs, rfl, S9 _ _ hWx, Reps.mono sN _ rz⟩, rfl⟩
theorem mv_ {x : Str} (p : Nat → Bool) (g : Nat → Str) : decide (((List.range x.cps.size).filter fun j => !p (x.cps.getD j 0)).map g = []) = x.cps.toList.all p := by
 rw [← hj_ p, List.all_map, Bool.eq_iff_iff, decide_eq_true_iff, List.map_eq_nil_iff, List.filter_eq_nil_iff, List.all_eq_true]
 constructor
 ·intro h a ha
  have := h a ha
  simpa using this
 ·intro h a ha
  have := h a ha
  simpa using this
theorem j8_ (l : List Str) : deq (.lst (l.map dS)) (.lst []) = some (decide (l = [])) := by
 cases l with
 | nil => rfl
 | cons a l => simp [deq, deqs]
theorem iq_ (l : List Str) : dep (.lst (l.map dS)) ≤ 60 := Nat.le_trans (Nat.succ_le_succ (em_ (f := dS) (n := 1) (fun a => by simp [dS, dep]) _)) (by decide)
abbrev s_Lis_name : Stmt := stN 51
theorem hl_ : FnScope ["_law_name", "_law_odd_here"] ["_law_name"] (defScope s_Lis_name) := ⟨rfl, rfl, rfl, by decide +kernel, rfl, by decide +kernel, by decide +kernel⟩
theorem fz_ : LK s_Lis_name "_law_name" .local := by decide +kernel
theorem fA_ : LK s_Lis_name "_law_odd_here" .local := by decide +kernel
theorem hm_ : LK s_Lis_name "len" .globalImplicit := by decide +kernel
def sp_lin : Sp := fun vs H Q _ => ∃ (x : Str), vs = [.str x] ∧ Wd x ∧ ∀ H', Same H H' → Q (.bl (isNm x)) H'
theorem j9_ (T : Txt K mg) (F : Fn0 K mg "_law_is_name" s_Lis_name) : Cal P w K mg base "_law_is_name" ["_law_name"] 1 sp_lin := by
 refine aW_ F hl_ (fun _ _ _ _ _ _ us hl => match us, hl with | [_], _ => rfl) ?len ?body
 case len => rintro vs H Q E ⟨a, rfl, _⟩; rfl
 case body =>
  intro f cdv A outer s H vs Q E hr h
  obtain ⟨x, rfl, ok, k⟩ := h
  have l30 := ok.1
  refine' ⟨_, ?D, ?R⟩
  case D =>
   refine' aa_ ?g1 ?g2
   case' g1 => refine' eT_ (i := 1) (N' := ["_law_sign_here"]) (ix := [none]) rfl rfl hl_.nd rfl fA_ rfl (bN_ ?g3) ?g4 (fun _ _ _ => ?g5) (fun _ _ _ => ?g6) (fun _ _ _ => (pv1 0 rfl rfl))
   case g3 => exact (by show scpB (defScope s_Lis_name) ["_law_name", "_law_odd_here"] _ _ _ = true; decide +kernel)
   case' g4 => refine' gA_ (pv1 0 rfl fz_)
   case g5 => exact aj_ (i := 0) (by show List.Nodup (["_law_sign_here"] : List Str); decide +kernel) rfl rfl
   case' g6 => refine' kr_ ?g9
   case' g9 => refine' ak_ fW_ (pv1 0 rfl rfl) aF_ (by with_unfolding_all rfl)
   case' g2 => refine' ae_ ?g12
   case' g12 => refine' ao_ ?g13
   case' g13 => refine' kh_ ?g14 ?g15
   case' g14 => refine' mO_ op_le op_le ac_ ?g17 ac_
   case' g17 => refine' ah_ aY_ hm_ T.n_len aG_ ?g19
   case' g19 => refine' pa_c (pv1 0 rfl fz_) ab_
   case' g15 => refine' kg_ ?g22
   case' g22 => refine' c9_ (lK_ (hr.units)) (pv1 1 rfl fA_) ?g24 (nomark _)
   case' g24 => refine' bh_ ab_
  case R =>
   walk_at "rd"
   have sz : x.length ≤ sizeLine := Nat.le_of_lt (small1000 (by omega))
   refine ⟨ii_ ok, ?_⟩
   have nz : x.cps.size ≤ 30 := l30
   refine eA_ (n := x.cps.size) (Pσ := fun σ => ∃ e, σ = [e]) (bs := fun j => !sgs.contains (x.cps.getD j 0)) (val := fun j => .str ⟨#[x.cps.getD j 0]⟩) ⟨_, rfl⟩ (by omega) (fun j Hj hj sj => hj) (fun Hj sj => Nat.le_refl _) ?_ ?_
   ·rintro Dc j y σ' H1 H1' hDc hDo hs1 hj ⟨rfl, c, hc, rfl⟩ ⟨e, rfl⟩ Y R kY kR
    have hlow : c ∈ List.range 128 := List.mem_range.mpr (ok.2 c (by rw [Array.mem_toList_iff]; exact Array.mem_of_getElem? hc))
    have ein := nL_ c hlow
    rw [gC_ hc] at kY kR
    walk_at "rd"
    cases hb : sgs.contains c with
    | true =>
     rw [hb] at kY kR ein
     rw [if_neg (by intro z; rw [z] at ein; cases ein)]
     exact kR rfl _ _ ⟨_, rfl⟩ (Same.refl _)
    | false =>
     rw [hb] at kY kR ein
     rw [if_pos (by cases z : (Builtin.Str.occurrences _ _ _ _ _).isEmpty with | true => rfl | false => rw [z] at ein; cases ein)]
     exact kY rfl _ _ ⟨_, rfl⟩ (Same.refl _)
   ·intro D H1 hD s1 hDv
    have e : ((List.range x.cps.size).filter fun j => !sgs.contains (x.cps.getD j 0)).map (fun j => V.str ⟨#[x.cps.getD j 0]⟩) = (((List.range x.cps.size).filter fun j => !sgs.contains (x.cps.getD j 0)).map fun j => (⟨#[x.cps.getD j 0]⟩ : Str)).map V.str := by
     rw [List.map_map]
     rfl
    rw [e] at hDv
    have en := mv_ (x := x) (fun c => sgs.contains c) (fun j => (⟨#[x.cps.getD j 0]⟩ : Str))
    generalize ((List.range x.cps.size).filter fun j => !sgs.contains (x.cps.getD j 0)).map (fun j => (⟨#[x.cps.getD j 0]⟩ : Str)) = od at *
    unfold isNm at k
    refine ⟨sz, ite2 (fun h1 => ite2 (fun h2 => ⟨Nat.zero_le _, fun p np => ⟨D, rfl, .lst (od.map dS), ⟨D, _, rfl, (Same.new np) _ _ hDv, aP_ od⟩, .lst [], ⟨p, _, rfl, ad_, rfl⟩, _, j8_ od, iq_ od, ?_⟩⟩) (fun h2 => ?_)) (fun h1 => ?_)⟩
    ·have := k _ (s1.trans (Same.new np (o := HO.lst [])))
     rw [decide_eq_true (show 1 ≤ x.length by omega), decide_eq_true (show x.length ≤ 8 by omega), ← en] at this
     exact this
    ·have := k _ s1
     rw [decide_eq_false (show ¬ x.length ≤ 8 by omega), Bool.and_false, Bool.false_and] at this
     exact this
    ·have := k _ s1
     rw [decide_eq_false (show ¬ 1 ≤ x.length by omega)] at this
     exact this
theorem oA_ : ∀ c ∈ List.range 128, (Char.ofNat c).toNat = c := by decide +kernel
theorem kN_ : ∀ {l : List Nat}, PySem.NumText.AllDigits l → (l.map Char.ofNat).map Char.toNat = l
 | [], _ => rfl
 | c :: l, h => by
  have hc := h.head
  rw [List.map_cons, List.map_cons, kN_ h.tail, oA_ c (List.mem_range.mpr (by omega))]
theorem nS_ {x : Str} (h0 : ¬ x.length = 0) (ha : allF x = true) : (tx (valOf x : Nat) = x) ↔ isFig x = true := by
 have hd := eD_ ha
 have e1 : (tx ((valOf x : Nat) : Int)).cps.toList = (Nat.toDigits 10 (valOf x)).map Char.toNat := PySem.W.KIN.signs_num _
 unfold valOf at e1
 rw [PySem.NumText.toDigits_all _ hd] at e1
 have hiff : (tx (valOf x : Nat) = x) ↔ ((tx (valOf x : Nat)).cps.toList = x.cps.toList) := ⟨fun z => by rw [z], fun z => hO_ z⟩
 rw [hiff]
 unfold valOf
 rw [e1]
 unfold isFig
 rw [decide_eq_false h0, ha, Bool.not_false, Bool.and_self, Bool.true_and]
 have hl : x.length = x.cps.toList.length := rfl
 rw [hl] at h0 ⊢
 generalize x.cps.toList = l at *
 cases l with
 | nil => exact absurd rfl h0
 | cons c r =>
  by_cases hc : c = 48
  ·subst hc
   cases r with
   | nil => exact ⟨fun _ => rfl, fun _ => rfl⟩
   | cons d r =>
    have hne : ¬ (decide ((48 :: d :: r).length = 1) || !decide ((48 :: d :: r)[0]? = some 48)) = true := by simp
    refine ⟨fun z => ?_, fun z => absurd z hne⟩
    exfalso
    have hle : (List.dropWhile (· == 48) (48 :: d :: r)).length ≤ (d :: r).length := by
     rw [List.dropWhile_cons_of_pos (by rfl)]
     exact (List.dropWhile_suffix _).length_le
    have := congrArg List.length z
    rw [List.length_map] at this
    cases hdw : List.dropWhile (· == 48) (48 :: d :: r) with
    | nil =>
     rw [hdw] at this
     simp at this
    | cons a b =>
     rw [hdw] at this hle
     simp at this hle
     omega
  ·have e2 : List.dropWhile (· == 48) (c :: r) = c :: r := List.dropWhile_cons_of_neg (by simp [hc])
   rw [e2]
   dsimp only
   rw [kN_ hd]
   exact ⟨fun _ => by simp [hc], fun _ => rfl⟩
abbrev s_Lnumber : Stmt := stN 52
theorem hQ_ : FnScope ["_law_word", "_law_odd_here"] ["_law_word"] (defScope s_Lnumber) := ⟨rfl, rfl, rfl, by decide +kernel, rfl, by decide +kernel, by decide +kernel⟩
theorem ch_ : LK s_Lnumber "_law_word" .local := by decide +kernel
theorem ge_ : LK s_Lnumber "_law_odd_here" .local := by decide +kernel
theorem eR_ : LK s_Lnumber "int" .globalImplicit := by decide +kernel
theorem hB_ : LK s_Lnumber "str" .globalImplicit := by decide +kernel
def sp_num : Sp := fun vs H Q _ => ∃ (x : Str), vs = [.str x] ∧ Wd x ∧ ∀ H', Same H H' → Q (.int ((numOf x).getD 0)) H'
theorem lf_ (T : Txt K mg) (F : Fn0 K mg "_law_number" s_Lnumber) : Cal P w K mg base "_law_number" ["_law_word"] 1 sp_num := by
 refine aW_ F hQ_ (fun _ _ _ _ _ _ us hl => match us, hl with | [_], _ => rfl) ?len ?body
 case len => rintro vs H Q E ⟨a, rfl, _⟩; rfl
 case body =>
  intro f cdv A outer s H vs Q E hr h
  obtain ⟨x, rfl, ok, k⟩ := h
  have l30 := ok.1
  refine' ⟨_, ?D, ?R⟩
  case D =>
   refine' aa_ ?g1 ?g2
   case' g1 => refine' eT_ (i := 1) (N' := ["_law_sign_here"]) (ix := [none]) rfl rfl hQ_.nd rfl ge_ rfl (bN_ ?g3) ?g4 (fun _ _ _ => ?g5) (fun _ _ _ => ?g6) (fun _ _ _ => (pv1 0 rfl rfl))
   case g3 => exact (by show scpB (defScope s_Lnumber) ["_law_word", "_law_odd_here"] _ _ _ = true; decide +kernel)
   case' g4 => refine' gA_ (pv1 0 rfl ch_)
   case g5 => exact aj_ (i := 0) (by show List.Nodup (["_law_sign_here"] : List Str); decide +kernel) rfl rfl
   case' g6 => refine' kr_ ?g9
   case' g9 => refine' ak_ fW_ (pv1 0 rfl rfl) aF_ (by with_unfolding_all rfl)
   case' g2 => refine' aa_ ?g12 ?g13
   case' g12 => refine' ps_if ?g14 ?g15 ar_
   case' g14 => refine' PW.pt ?g17
   case' g17 => refine' pw_or ?g18 ?g19
   case' g18 => refine' ak_ op_eq (pv1 0 rfl ch_) aF_ (nomark _)
   case' g19 => refine' pw_or ?g22 ?g23
   case' g22 => refine' ak_ (gR_ (hr.units)) (pv1 1 rfl ge_) ?g25 (nomark _)
   case' g25 => refine' bh_ ab_
   case' g23 => refine' fc_ ?g27
   case' g27 => refine' ak_ op_ne ?g28 (pv1 0 rfl ch_) (nomark _)
   case' g28 => refine' dA_ fX_ hB_ T.n_str nz_ ?g30
   case' g30 => refine' pa_c ?g31 ab_
   case' g31 => refine' dA_ g7_ eR_ T.n_int hJ_ ?g33
   case' g33 => refine' pa_c (pv1 0 rfl ch_) ab_
   case' g15 => refine' ae_ ?g36
   case' g36 => refine' ao_ ac_
   case' g13 => refine' ae_ ?g38
   case' g38 => refine' ao_ ?g39
   case' g39 => refine' dA_ g7_ eR_ T.n_int hJ_ ?g40
   case' g40 => refine' pa_c (pv1 0 rfl ch_) ab_
  case R =>
   walk_at "rd"
   have sz : x.length ≤ sizeLine := Nat.le_of_lt (small1000 (by omega))
   refine ⟨ii_ ok, ?_⟩
   have nz : x.cps.size ≤ 30 := l30
   refine eA_ (n := x.cps.size) (Pσ := fun σ => ∃ e, σ = [e]) (bs := fun j => !figs.contains (x.cps.getD j 0)) (val := fun j => .str ⟨#[x.cps.getD j 0]⟩) ⟨_, rfl⟩ (by omega) (fun j Hj hj sj => hj) (fun Hj sj => Nat.le_refl _) ?_ ?_
   ·rintro Dc j y σ' H1 H1' hDc hDo hs1 hj ⟨rfl, c, hc, rfl⟩ ⟨e, rfl⟩ Y R kY kR
    have hlow : c ∈ List.range 128 := List.mem_range.mpr (ok.2 c (by rw [Array.mem_toList_iff]; exact Array.mem_of_getElem? hc))
    have ein := mt_ c hlow
    rw [gC_ hc] at kY kR
    walk_at "rd"
    cases hb : figs.contains c with
    | true =>
     rw [hb] at kY kR ein
     rw [if_neg (by intro z; rw [z] at ein; cases ein)]
     exact kR rfl _ _ ⟨_, rfl⟩ (Same.refl _)
    | false =>
     rw [hb] at kY kR ein
     rw [if_pos (by cases z : (Builtin.Str.occurrences _ _ _ _ _).isEmpty with | true => rfl | false => rw [z] at ein; cases ein)]
     exact kY rfl _ _ ⟨_, rfl⟩ (Same.refl _)
   ·intro D H1 hD s1 hDv
    have e : ((List.range x.cps.size).filter fun j => !figs.contains (x.cps.getD j 0)).map (fun j => V.str ⟨#[x.cps.getD j 0]⟩) = (((List.range x.cps.size).filter fun j => !figs.contains (x.cps.getD j 0)).map fun j => (⟨#[x.cps.getD j 0]⟩ : Str)).map V.str := by
     rw [List.map_map]
     rfl
    rw [e] at hDv
    have en := mv_ (x := x) (fun c => figs.contains c) (fun j => (⟨#[x.cps.getD j 0]⟩ : Str))
    generalize ((List.range x.cps.size).filter fun j => !figs.contains (x.cps.getD j 0)).map (fun j => (⟨#[x.cps.getD j 0]⟩ : Str)) = od at *
    unfold numOf at k
    refine ite2 (fun h0 => ?_) (fun h0 => ⟨Nat.zero_le _, fun p np => ⟨D, rfl, .lst (od.map dS), ⟨D, _, rfl, (Same.new np) _ _ hDv, aP_ od⟩, .lst [], ⟨p, _, rfl, ad_, rfl⟩, _, j8_ od, iq_ od, ?_⟩⟩)
    ·have := k _ s1
     rw [if_neg (by rw [h0]; decide +kernel)] at this
     exact this
    have l0 : ¬ x.length = 0 := fun z => h0 (hO_ (by rw [List.eq_nil_of_length_eq_zero (show (cs x).length = 0 from z)]; decide +kernel))
    have st := s1.trans (Same.new np (o := HO.lst []))
    rw [show (decide (od = []) : Bool) = allF x from en]
    refine ite2 (fun ha => ?_) (fun ha => ?_)
    ·have := k _ st
     rw [if_neg (by unfold isFig; rw [ha, Bool.and_false, Bool.false_and]; decide)] at this
     exact this
    have ha' : allF x = true := Bool.not_eq_false _ ▸ ha
    have v := nN_ l0 ha' l30
    have hlt : valOf x < 10 ^ 30 := Nat.lt_of_lt_of_le (nM_ (eD_ ha')) (Nat.pow_le_pow_right (by decide) l30)
    refine ⟨_, v, by omega, jj_ (Nat.lt_of_lt_of_le (show ((valOf x : Nat) : Int).natAbs < 10 ^ 30 by omega) (by decide +kernel)), ite2 (fun ht => ?_) (fun ht => ⟨_, v, by omega, ?_⟩)⟩
    ·have := k _ st
     rw [if_neg (fun z => ht ((nS_ l0 ha').mpr z))] at this
     exact this
    ·have := k _ st
     rw [if_pos ((nS_ l0 ha').mp (Decidable.not_not.mp ht))] at this
     exact this
theorem pi_ {X : Cx} {K : PySem.W.Frag} (hK : X.K = K) : OpR X (compareOp .In) (rIn K false) := by subst hK; exact lD_
theorem kO_ {x : Str} {c : Nat} (hc : c ∈ cs x) (hf : c ∉ figs) : numOf x = none := by
 unfold numOf
 rw [if_neg]
 intro z
 unfold isFig at z
 have := (Bool.and_eq_true_iff.mp (Bool.and_eq_true_iff.mp z).1).2
 exact hf (List.contains_iff_mem.mp (List.all_eq_true.mp this c hc))
theorem ka_ {a : Str} (h : Txt.startswith a (Str.ofString "-") = true) : 45 ∈ cs a := by
 have e : Str.ofString "-" = onec 45 := by decide +kernel
 unfold Txt.startswith at h
 rw [e, eW_] at h
 exact List.mem_of_getElem? (of_decide_eq_true (Bool.and_eq_true_iff.mp h).2)
theorem nT_ {x : Str} (h : (Txt.split x (Str.ofString "/")).length ≠ 2) : wOf x = none := by
 have e : fftOf x = none := by
  unfold fftOf
  generalize Txt.split x (Str.ofString "/") = ps at h
  match ps, h with
  | [], _ => rfl
  | [_], _ => rfl
  | [_, _], h => exact absurd rfl h
  | _ :: _ :: _ :: _, _ => rfl
 unfold wOf
 rw [e]
 rfl
def fin3 (st : Bool) (o1 o2 : Option Int) : Option (Int × Int) :=
 match o1, o2 with
 | some t, some u => if u = 0 then none else if nf t u ≠ (t, u) then none else if st = true then (if t = 0 then none else some (-t, u)) else some (t, u)
 | _, _ => none
def keepW (o : Option (Int × Int)) : Option (Int × Int) := if o.any isW = true then o else none
theorem pj_ {x a b : Str} (ok : Wd x) (e : cs x = cs a ++ 47 :: cs b) (na : 47 ∉ cs a) :
  wOf x = if (numOf a).getD 0 = 0 ∨ (numOf b).getD 0 = 0 ∨ nf ((numOf a).getD 0) ((numOf b).getD 0) ≠ ((numOf a).getD 0, (numOf b).getD 0) then none else some ((numOf a).getD 0, (numOf b).getD 0) := by
 by_cases nb : 47 ∈ cs b
 ·refine Eq.trans (nT_ ?_) (if_pos (.inr (.inl (by rw [kO_ nb (by decide +kernel)]; rfl)))).symm
  rw [slash, bT_ (by decide), e, List.count_append, List.count_cons_self]
  have := List.count_pos_iff.mpr nb
  omega
 ·have es : Txt.split x (Str.ofString "/") = [a, b] := by
   have ej : x = Str.join (onec 47) [a, b] := hO_ (by rw [bx_]; exact e)
   rw [slash, ej]
   refine k5_ (by decide) fun q hq => ?_
   rcases List.mem_cons.mp hq with rfl | hq
   ·exact na
   ·rw [List.mem_singleton.mp hq]
    exact nb
  have la : a.length ≤ 30 := by
   have := congrArg List.length e
   rw [List.length_append, List.length_cons, ax_, ax_, ax_] at this
   have := ok.1
   omega
  have lb : b.length ≤ 30 := by
   have := congrArg List.length e
   rw [List.length_append, List.length_cons, ax_, ax_, ax_] at this
   have := ok.1
   omega
  have ef : wOf x = keepW (fin3 (Txt.startswith a (Str.ofString "-")) (numOf (preOf a)) (numOf b)) := by
   have : fftOf x = fin3 (Txt.startswith a (Str.ofString "-")) (numOf (preOf a)) (numOf b) := by
    unfold fftOf fin3
    rw [es]
    try rfl
   unfold wOf
   rw [this]
   rfl
  rw [ef]
  have ep : Txt.startswith a (Str.ofString "-") = false → preOf a = a := fun z => if_neg (by rw [z]; decide)
  have nd : Txt.startswith a (Str.ofString "-") = true → numOf a = none := fun z => kO_ (ka_ z) (by decide +kernel)
  generalize Txt.startswith a (Str.ofString "-") = st at *
  cases st with
  | true =>
   rw [nd rfl]
   refine Eq.trans ?_ (if_pos (.inl rfl)).symm
   have hb2 : ∀ t, numOf (preOf a) = some t → 0 ≤ t := fun t ht => by
    unfold numOf at ht
    split at ht
    ·have := (Option.some.inj ht).symm
     omega
    ·cases ht
   generalize numOf (preOf a) = o1 at *
   cases o1 with
   | none => rfl
   | some t =>
    have t0 := hb2 t rfl
    cases numOf b with
    | none => rfl
    | some u =>
     unfold fin3
     dsimp only
     by_cases h1 : u = 0
     ·rw [if_pos h1]; rfl
     rw [if_neg h1]
     by_cases h2 : nf t u ≠ (t, u)
     ·rw [if_pos h2]; rfl
     rw [if_neg h2, if_pos rfl]
     by_cases h3 : t = 0
     ·rw [if_pos h3]; rfl
     rw [if_neg h3]
     refine if_neg ?_
     show ¬ isW (-t, u) = true
     unfold isW
     rw [decide_eq_false (show ¬ 0 < (-t, u).1 by show ¬ 0 < -t; omega), Bool.false_and, Bool.false_and]
     decide
  | false =>
   rw [ep rfl]
   have hba := @gc_ a la
   have hbb := @gc_ b lb
   cases ha : numOf a with
   | none => exact Eq.trans rfl (if_pos (.inl rfl)).symm
   | some t =>
    have t0 := (hba ha).1
    cases hb : numOf b with
    | none => exact Eq.trans rfl (if_pos (.inr (.inl rfl))).symm
    | some u =>
     have u0 := (hbb hb).1
     dsimp only [Option.getD_some]
     unfold fin3
     dsimp only
     by_cases h1 : u = 0
     ·rw [if_pos h1]
      exact Eq.trans rfl (if_pos (.inr (.inl h1))).symm
     rw [if_neg h1]
     by_cases h2 : nf t u ≠ (t, u)
     ·rw [if_pos h2]
      exact Eq.trans rfl (if_pos (.inr (.inr h2))).symm
     rw [if_neg h2, if_neg (by decide)]
     have h2' := Decidable.not_not.mp h2
     have co : Int.gcd t u = 1 := by
      have := (iV_ (t := t) h1).1.co
      rw [h2'] at this
      exact this
     have ew : isW (t, u) = decide (0 < t) := by
      unfold isW
      rw [decide_eq_true (show 0 < (t, u).2 by show 0 < u; omega), decide_eq_true (show Int.gcd (t, u).1 (t, u).2 = 1 from co), Bool.and_true, Bool.and_true]
     by_cases h3 : t = 0
     ·refine Eq.trans (if_neg ?_) (if_pos (.inl h3)).symm
      show ¬ isW (t, u) = true
      rw [ew, decide_eq_false (show ¬ 0 < t by omega)]
      decide
     ·refine Eq.trans (if_pos ?_) (if_neg (by rintro (z | z | z); exact h3 z; exact h1 z; exact h2 z)).symm
      show isW (t, u) = true
      rw [ew, decide_eq_true (show 0 < t by omega)]
abbrev s_Lworth : Stmt := stN 53
theorem eu_ : FnScope ["_law_word", "_law_front", "_law_stroke", "_law_back", "_law_worth_here"] ["_law_word"] (defScope s_Lworth) := ⟨rfl, rfl, rfl, by decide +kernel, rfl, by decide +kernel, by decide +kernel⟩
theorem kb_ : LK s_Lworth "_law_word" .local := by decide +kernel
theorem hn_ : LK s_Lworth "_law_front" .local := by decide +kernel
theorem ho_ : LK s_Lworth "_law_stroke" .local := by decide +kernel
theorem hp_ : LK s_Lworth "_law_back" .local := by decide +kernel
theorem bZ_ : LK s_Lworth "_law_worth_here" .local := by decide +kernel
theorem hC_ : LK s_Lworth "_law_low" .globalImplicit := by decide +kernel
theorem ds_ : LK s_Lworth "_law_number" .globalImplicit := by decide +kernel
def sp_lw : Sp := fun vs H Q _ => ∃ x : Str, vs = [.str x] ∧ Wd x ∧ ∀ v H', Same H H' → OV (newH H H') v (wOf x) → Q v H'
theorem mw_ (T : Txt K mg) (F : Fn0 K mg "_law_worth" s_Lworth) (C_Lnumber : Cal P w K mg base "_law_number" ["_law_word"] 1 sp_num) (C_Llow : Cal P w K mg base "_law_low" ["_law_top", "_law_bottom"] 1 sp_low) : Cal P w K mg base "_law_worth" ["_law_word"] 2 sp_lw := by
 refine aW_ F eu_ (fun _ _ _ _ _ _ us hl => match us, hl with | [_], _ => rfl) ?len ?body
 case len => rintro vs H Q E ⟨a, rfl, _⟩; rfl
 case body =>
  intro f cdv A outer s H vs Q E hr h
  obtain ⟨x, rfl, ok, k⟩ := h
  have l30 := ok.1
  refine' ⟨_, ?D, ?R⟩
  case D =>
   refine' aa_ ?g1 ?g2
   case' g1 => refine' fd_ ?g3 ?g4
   case' g3 => refine' dZ_ (K := K) rfl PySem.F.plainAttrs_str PySem.F.slot_str_partition PySem.F.type_str_partition i4_ (pv1 0 rfl kb_) ?g6
   case' g6 => refine' pa_c aF_ ab_
   case' g4 => refine' bS_ (K := K) (n := 3) rfl rfl ?g9
   case' g9 => refine' aB_ ?g10 ?g11
   case g10 => exact aj_ (i := 1) eu_.nd rfl hn_
   case' g11 => refine' aB_ ?g12 ?g13
   case g12 => exact aj_ (i := 2) eu_.nd rfl ho_
   case' g13 => refine' aB_ ?g14 bQ_
   case g14 => exact aj_ (i := 3) eu_.nd rfl hp_
   case' g2 => refine' aa_ ?g16 ?g17
   case' g16 => refine' af_ (i := 4) eu_.nd rfl bZ_ ?g18
   case' g18 => refine' aO_ ?g19
   case' g19 => refine' pa_c ?g20 ?g21
   case' g20 => refine' al_ C_Lnumber (hr.mono (by decide)) ds_ ?g22
   case' g22 => refine' pa_c (pv1 1 rfl hn_) ab_
   case' g21 => refine' pa_c ?g25 ab_
   case' g25 => refine' al_ C_Lnumber (hr.mono (by decide)) ds_ ?g27
   case' g27 => refine' pa_c (pv1 3 rfl hp_) ab_
   case' g17 => refine' aa_ ?g30 ?g31
   case' g30 => refine' ps_if ?g32 ?g33 ar_
   case' g32 => refine' PW.pt ?g35
   case' g35 => refine' pw_or ?g36 ?g37
   case' g36 => refine' ak_ op_eq (pv1 2 rfl ho_) aF_ (nomark _)
   case' g37 => refine' pw_or ?g40 ?g41
   case' g40 => refine' ak_ (pi_ (K := K) rfl) ac_ (pv1 4 rfl bZ_) (by with_unfolding_all rfl)
   case' g41 => refine' fc_ ?g44
   case' g44 => refine' ak_ (gR_ (hr.units)) ?g45 (pv1 4 rfl bZ_) (nomark _)
   case' g45 => refine' al_ C_Llow (hr.mono (by decide)) hC_ ?g47
   case' g47 => refine' pa_c ?g48 ?g49
   case' g48 => refine' pe_ix bc_ (pv1 4 rfl bZ_) ac_ (fun _ _ => rfl)
   case' g49 => refine' pa_c ?g52 ab_
   case' g52 => refine' pe_ix bc_ (pv1 4 rfl bZ_) ac_ (fun _ _ => rfl)
   case' g33 => refine' ae_ ?g56
   case' g56 => refine' ao_ ?g57
   case g57 => exact eN_
   case' g31 => refine' ae_ ?g58
   case' g58 => refine' ao_ (pv1 4 rfl bZ_)
  case R =>
   walk_at "rd"
   refine ⟨x, Str.ofString "/", rfl, rfl, by decide +kernel, Nat.le_of_lt (small1000 (by omega)), fun D nD => ?_⟩
   refine ⟨D, rfl, _, SqT.of ad_, rfl, _, _, rfl, _, _, rfl, _, _, rfl, rfl, ?_⟩
   have S1 := Same.new nD (o := HO.tup [V.str (partT x (Str.ofString "/")).1, V.str (partT x (Str.ofString "/")).2.1, V.str (partT x (Str.ofString "/")).2.2])
   generalize upd H D (HO.tup [V.str (partT x (Str.ofString "/")).1, V.str (partT x (Str.ofString "/")).2.1, V.str (partT x (Str.ofString "/")).2.2]) = H1 at *
   have e0 : Str.ofString "" = Str.empty := by decide +kernel
   have wE : Wd Str.empty := ⟨by decide, fun c hc => by cases hc⟩
   have wx : Wd (partT x (Str.ofString "/")).1 ∧ Wd (partT x (Str.ofString "/")).2.2 := by
    rw [slash]
    rcases ma_ x 47 with ⟨_, e⟩ | ⟨a, b, e, ex, _⟩
    ·rw [e]
     exact ⟨ok, wE⟩
    ·rw [e]
     exact ⟨ok.part (by rw [ex]; exact (List.prefix_append _ _).isInfix), ok.part (by rw [ex]; exact (List.suffix_append (cs a ++ [47]) _).isInfix.trans (by rw [List.append_assoc]; exact List.infix_refl _))⟩
   refine ⟨_, rfl, wx.1, fun H2 s2 => ⟨_, rfl, wx.2, fun H3 s3 => ⟨by decide, fun p np => ⟨rfl, ?_⟩⟩⟩⟩
   have S3 := S1.trans (s2.trans s3)
   rcases ma_ x 47 with ⟨nx, e⟩ | ⟨a, b, e, ex, na⟩
   ·rw [← slash] at e
    rw [e, if_pos (by rw [e0])]
    refine k _ _ (S3.trans (Same.new np)) ?_
    rw [nT_ (by rw [slash, bT_ (by decide), List.count_eq_zero.mpr nx]; decide)]
    exact rfl
   ·have kw := pj_ ok ex na
    have ob : b.length ≤ 30 := by
     have := congrArg List.length ex
     rw [List.length_append, List.length_cons, ax_, ax_, ax_] at this
     omega
    have oa : a.length ≤ 30 := by
     have := congrArg List.length ex
     rw [List.length_append, List.length_cons, ax_, ax_, ax_] at this
     omega
    rw [← slash] at e
    rw [e]
    rw [kw] at k
    have ga : 0 ≤ (numOf a).getD 0 ∧ ((numOf a).getD 0).natAbs < 10 ^ 30 := by
     cases h : numOf a with
     | none => exact ⟨by decide, by decide⟩
     | some t => exact gc_ oa h
    have gb : 0 ≤ (numOf b).getD 0 ∧ ((numOf b).getD 0).natAbs < 10 ^ 30 := by
     cases h : numOf b with
     | none => exact ⟨by decide, by decide⟩
     | some t => exact gc_ ob h
    generalize (numOf a).getD 0 = t at *
    generalize (numOf b).getD 0 = u at *
    have ne47 : ¬ onec 47 = Str.ofString "" := by decide +kernel
    rw [if_neg (fun z => ne47 (by have := V.str.inj z; first | exact this | (rw [slash] at this; exact this)))]
    have SP : Same H (upd H3 p (HO.tup [V.int t, V.int u])) := S3.trans (Same.new np)
    refine ⟨_, .inr (SqT.of ad_), rfl, rfl, ?_⟩
    have ein : inV (V.int 0) [V.int t, V.int u] = (t == 0 || (u == 0 || false)) := rfl
    rw [ein]
    refine ite2 (fun hz => ?_) (fun hz => ?_)
    ·rw [if_pos (by
      rw [Bool.or_false, Bool.or_eq_true_iff, beq_iff_eq, beq_iff_eq] at hz
      exact hz.elim .inl fun z => .inr (.inl z))] at k
     exact k _ _ SP rfl
    have hz' : t ≠ 0 ∧ u ≠ 0 := by
     rw [Bool.or_false, Bool.or_eq_true_iff, beq_iff_eq, beq_iff_eq, not_or] at hz
     exact hz
    refine ⟨t, u, rfl, by omega, eo_ (Nat.lt_of_lt_of_le gb.2 (by decide +kernel)), fun q H4 s4 rq => ⟨q, rfl, dF (nf t u), Rep.mono gS_ _ rq, dF (t, u), ⟨p, _, rfl, s4 _ _ ad_, _, _, rfl, rfl, _, _, rfl, rfl, rfl⟩, _, nO_ _ _, by simp [dep, deps, dF], ?_⟩⟩
    refine ite2 (fun h1 => ?_) (fun h1 => ?_)
    ·rw [if_pos (.inr (.inr (of_decide_eq_false h1)))] at k
     exact k _ _ (SP.trans s4) rfl
    ·have h1' : nf t u = (t, u) := Decidable.not_not.mp fun z => h1 (decide_eq_false z)
     rw [if_neg (by rintro (z | z | z); exact hz'.1 z; exact hz'.2 z; exact z h1')] at k
     exact k _ _ (SP.trans s4) ⟨p, rfl, by rw [ck_ (S3.free np)]; exact s4 _ _ ad_⟩
def dO : Option (Net Str) → Dt
 | none => .non
 | some N => dNet N
abbrev s_Ltold : Stmt := stN 55
theorem kP_ : FnScope ["_law_text", "e"] ["_law_text"] (defScope s_Ltold) := ⟨rfl, rfl, rfl, by decide +kernel, rfl, by decide +kernel, by decide +kernel⟩
theorem hR_ : LK s_Ltold "_law_text" .local := by decide +kernel
theorem eE_ : LK s_Ltold "e" .local := by decide +kernel
theorem hD_ : LK s_Ltold "NoNet" .globalImplicit := by decide +kernel
theorem hE_ : LK s_Ltold "NoRow" .globalImplicit := by decide +kernel
theorem hq_ : LK s_Ltold "NoText" .globalImplicit := by decide +kernel
theorem fS_ : LK s_Ltold "RimError" .globalImplicit := by decide +kernel
theorem fa_ : LK s_Ltold "ValueError" .globalImplicit := by decide +kernel
theorem bC_ : LK s_Ltold "isinstance" .globalImplicit := by decide +kernel
theorem dt_ : LK s_Ltold "net_read" .globalImplicit := by decide +kernel
def sp_told : Sp := fun vs H Q _ => ∃ x : Str, vs = [.str x] ∧ TOk x ∧ ∀ v H', Same H H' → Rep H' v (dO (rdNet x)) → Q v H'
theorem ng_ (T : Txt K mg) (EX : Exs K mg CR CT CO CW) (F : Fn0 K mg "_law_told" s_Ltold) (R_net_read : CalR P w K mg base "net_read" ["text"] 6 (sp_rd CT)) : Cal P w K mg base "_law_told" ["_law_text"] 7 sp_told := by
 have C_net_read := Cal.of_R R_net_read
 refine aW_ F kP_ (fun _ _ _ _ _ _ us hl => match us, hl with | [_], _ => rfl) ?len ?body
 case len => rintro vs H Q E ⟨a, rfl, _⟩; rfl
 case body =>
  intro f cdv A outer s H vs Q E hr h
  obtain ⟨x, rfl, ok, k⟩ := h
  cases hn : rdNet x with
  | some N =>
   rw [hn] at k
   refine' ⟨_, ?D, ?R⟩
   case D =>
    refine' aa_ ?g1 ?g2
    case' g1 => refine' mZ_ (fun _ => ?g3)
    case' g3 => refine' ae_ ?g4
    case' g4 => refine' ao_ ?g5
    case' g5 => refine' al_ C_net_read (hr.mono (by decide)) dt_ ?g6
    case' g6 => refine' pa_c (pv1 0 rfl hR_) ab_
    case' g2 => refine' ae_ ?g9
    case' g9 => refine' ao_ aF_
   case R =>
    walk_at "rd"
    refine ⟨x, rfl, ok, fun N' e v H1 s1 rep => ?_, fun e => by rw [hn] at e; cases e⟩
    rw [hn] at e
    cases e
    exact k v H1 s1 rep
  | none =>
   rw [hn] at k
   refine' ⟨_, ?D, ?R⟩
   case D =>
    refine' aa_ ?q1 ?q2
    case' q1 => refine' om_ (i := 1) R_net_read (hr.mono (by decide)) dt_ rfl rfl EX.m_RimError EX.hnd_RimError fS_ kP_.nd rfl eE_ (fun _ => ?q3) (fun _ => ?q4)
    case' q3 => refine' pa_c (pv1 0 rfl hR_) ab_
    case' q4 => refine' ae_ ?q7
    case' q7 => refine' ps_if ?q8 ?q9 ar_
    case' q8 => refine' PW.pt ?q11
    case' q11 => refine' eO_ ?q12 ?q13
    case' q12 => refine' cX_ ?q14
    case' q14 => refine' ah_ (gW_ (K := K) rfl) bC_ T.n_isinstance br_ ?q15
    case' q15 => refine' pa_c (pv1 1 rfl eE_) ?q17
    case' q17 => refine' pa_c ?q18 ab_
    case q18 => exact j6_ hq_ EX.m_NoText
    case' q13 => refine' eO_ ?q20 ?q21
    case' q20 => refine' cX_ ?q22
    case' q22 => refine' ah_ (gW_ (K := K) rfl) bC_ T.n_isinstance br_ ?q23
    case' q23 => refine' pa_c (pv1 1 rfl eE_) ?q25
    case' q25 => refine' pa_c ?q26 ab_
    case q26 => exact kp_ fa_ T.n_ValueError h3_
    case' q21 => refine' eS_ ?q28
    case' q28 => refine' d9_ ?q29
    case' q29 => refine' cX_ ?q30
    case' q30 => refine' ah_ (gW_ (K := K) rfl) bC_ T.n_isinstance br_ ?q31
    case' q31 => refine' pa_c (pv1 1 rfl eE_) ?q33
    case' q33 => refine' pa_c ?q34 ab_
    case' q34 => refine' aO_ ?q36
    case' q36 => refine' pa_c ?q37 ?q38
    case q37 => exact j6_ hD_ EX.m_NoNet
    case' q38 => refine' pa_c ?q39 ab_
    case q39 => exact j6_ hE_ EX.m_NoRow
    case' q9 => refine' ae_ ?q41
    case' q41 => refine' ao_ ?q42
    case q42 => exact eN_
    case' q2 => refine' ae_ ?q43
    case' q43 => refine' ao_ aF_
   case R =>
    walk_at "rd"
    unfold tTry
    walk_at "rd"
    refine ⟨x, rfl, ok, fun N' e => (by rw [hn] at e; cases e), fun _ H1 s1 => ⟨CT, rfl, EX.sub, fun ea hea => ?_⟩⟩
    have se : Same H1 (upd H1 ea (exO (.ref CT) ea)) := Same.new hea
    try walk_at "rd"
    refine ⟨ea, CT, _, true, rfl, ad_, EX.kit, .inr (.inl ⟨CT, rfl, EX.isA⟩), _, rfl, ?_⟩
    try walk_at "rd"
    refine ⟨ea, CT, _, true, rfl, ad_, EX.kit, .inl ⟨_, rfl, EX.isV⟩, _, rfl, ?_⟩
    try walk_at "rd"
    refine ⟨by decide, fun p hp => ?_⟩
    have sp := Same.new hp (o := HO.tup [.ref CO, .ref CW])
    refine ⟨ea, CT, _, false, rfl, sp _ _ ad_, EX.kit, .inr (.inr ⟨p, [CO, CW], rfl, ad_, EX.isN⟩), _, rfl, ?_⟩
    have st := (s1.trans se).trans sp
    exact k _ _ st rfl
abbrev Pw := List (Str × List Str) × List (Str × (Int × Int))
def jStep (r : List Str) (q : Pw) : Option Pw :=
 match r with
 | y :: t =>
  if y = Str.ofString "at" ∧ 1 ≤ t.length ∧ q.2.length = 0 then some (q.1 ++ [(t.headD Str.empty, t.drop 1)], q.2)
  else if y = Str.ofString "wire" ∧ t.length = 2 ∧ (wOf (t.getD 1 Str.empty)).isSome = true then some (q.1, q.2 ++ [(t.headD Str.empty, (wOf (t.getD 1 Str.empty)).getD (0, 0))])
  else none
 | [] => none
def jRows : List (List Str) → Pw → Option Pw
 | [], q => some q
 | r :: rest, q => (jStep r q).bind (jRows rest)
def nmsOk (q : Pw) : Bool := (q.1.all fun r => isNm r.1 && r.2.all isNm) && q.2.all fun r => isNm r.1
theorem mx_ {r : List Str} {q q' : Pw} (h : jStep r q = some q') : ∃ a b, q' = (q.1 ++ a, q.2 ++ b) := by
 unfold jStep at h
 split at h
 ·split at h
  ·cases h
   exact ⟨_, [], Prod.ext rfl (List.append_nil _).symm⟩
  ·split at h
   ·cases h
    exact ⟨[], _, Prod.ext (List.append_nil _).symm rfl⟩
   ·cases h
 ·cases h
theorem jn_ : ∀ {L : List (List Str)} {q q' : Pw}, jRows L q = some q' → ∃ a b, q' = (q.1 ++ a, q.2 ++ b)
 | [], q, q', h => ⟨[], [], by rw [← Option.some.inj h, List.append_nil, List.append_nil]⟩
 | r :: L, q, q', h => by
  obtain ⟨m, h1, h2⟩ := Option.bind_eq_some_iff.mp (show (jStep r q).bind (jRows L) = some q' from h)
  obtain ⟨a, b, rfl⟩ := mx_ h1
  obtain ⟨c, d, rfl⟩ := jn_ h2
  exact ⟨a ++ c, b ++ d, by rw [List.append_assoc, List.append_assoc]⟩
theorem my_ {L : List (List Str)} {q : Pw} (h : nmsOk q = false) : (jRows L q).filter nmsOk = none := by
 cases e : jRows L q with
 | none => rfl
 | some q' =>
  obtain ⟨a, b, rfl⟩ := jn_ e
  have : nmsOk (q.1 ++ a, q.2 ++ b) = false := by
   unfold nmsOk at h ⊢
   rw [List.all_append, List.all_append]
   rcases Bool.and_eq_false_iff.mp h with h | h
   ·rw [show (q.1.all fun r => isNm r.1 && r.2.all isNm) = false from h]; simp
   ·rw [show (q.2.all fun r => isNm r.1) = false from h]; simp
  rw [Option.filter, if_neg (by rw [this]; decide)]
theorem nms_p {q : Pw} {n : Str} {t : List Str} (h : nmsOk q = true) : nmsOk (q.1 ++ [(n, t)], q.2) = goodP (n :: t) := by
 unfold nmsOk at h ⊢
 have h2 := Bool.and_eq_true_iff.mp h
 rw [List.all_append, show (q.1.all fun r => isNm r.1 && r.2.all isNm) = true from h2.1, show (q.2.all fun r => isNm r.1) = true from h2.2]
 simp [goodP]
theorem nms_w {q : Pw} {n : Str} {t : Int × Int} (h : nmsOk q = true) : nmsOk (q.1, q.2 ++ [(n, t)]) = isNm n := by
 unfold nmsOk at h ⊢
 have h2 := Bool.and_eq_true_iff.mp h
 rw [List.all_append, show (q.1.all fun r => isNm r.1 && r.2.all isNm) = true from h2.1, show (q.2.all fun r => isNm r.1) = true from h2.2]
 simp
theorem mz_ : ¬ Str.ofString "at" = Str.ofString "wire" := by decide +kernel
theorem rd_j : ∀ (L : List (List Str)) (q : Pw), nmsOk q = true → rdRows L q.1 q.2 = (jRows L q).filter nmsOk
 | [], q, h => by
  rw [show jRows [] q = some q from rfl, Option.filter, if_pos h]
  rfl
 | [] :: L, q, h => rfl
 | (y :: r) :: L, q, h => by
  rw [j7_]
  have ej : jRows ((y :: r) :: L) q = (jStep (y :: r) q).bind (jRows L) := rfl
  rw [ej]
  unfold jStep
  dsimp only
  by_cases hA : y = Str.ofString "at" ∧ q.2.length = 0
  ·rw [if_pos hA]
   cases r with
   | nil =>
    rw [if_neg (fun z => absurd z.2.1 (by decide)), if_neg (fun z => mz_ (hA.1.symm.trans z.1))]
    rfl
   | cons n t =>
    rw [if_pos ⟨hA.1, by simp, hA.2⟩]
    dsimp only [List.headD_cons, List.drop_one, List.tail_cons, Option.bind_some]
    have e := nms_p (n := n) (t := t) h
    cases hg : goodP (n :: t) with
    | true =>
     rw [if_pos rfl]
     exact rd_j L (q.1 ++ [(n, t)], q.2) (e.trans hg)
    | false =>
     rw [if_neg (by decide)]
     exact (my_ (e.trans hg)).symm
  ·rw [if_neg hA]
   have hA' : ¬ (y = Str.ofString "at" ∧ 1 ≤ r.length ∧ q.2.length = 0) := fun z => hA ⟨z.1, z.2.2⟩
   rw [if_neg hA']
   by_cases hW : y = Str.ofString "wire"
   ·rw [if_pos hW]
    match r with
    | [] => rw [if_neg (fun z => absurd z.2.1 (by decide))]; rfl
    | [_] => rw [if_neg (fun z => absurd z.2.1 (by simp))]; rfl
    | _ :: _ :: _ :: _ => rw [if_neg (fun z => absurd z.2.1 (by simp))]; rfl
    | [n, t] =>
     have eo : wrOf [n, t] = if isNm n = true then (wOf t).map fun p => (n, p) else none := rfl
     rw [eo]
     have eg : [n, t].getD 1 Str.empty = t := rfl
     rw [eg]
     cases ho : wOf t with
     | none =>
      rw [if_neg (c := _ ∧ _) (fun z => absurd z.2.2 (by decide))]
      cases isNm n <;> rfl
     | some p =>
      rw [if_pos (c := _ ∧ _) ⟨hW, rfl, rfl⟩]
      have e := nms_w (n := n) (t := p) h
      cases hg : isNm n with
      | true => exact rd_j L (q.1, q.2 ++ [(n, p)]) (e.trans hg)
      | false => exact (my_ (e.trans hg)).symm
   ·rw [if_neg hW, if_neg (fun z => hW z.1)]
    rfl
theorem ir_ {c : Nat} (hc : isSep c = true) : ∀ (p : Str) (ps : List Str), (cs (Str.join (onec c) (p :: ps))).countP isSep = ((p :: ps).map fun q => (cs q).countP isSep).sum + ps.length
 | p, [] => by
  show (cs p).countP isSep = _
  simp
 | p, q :: ps => by
  rw [bx_, List.countP_append, List.countP_cons_of_pos hc, ir_ hc q ps, List.map_cons, List.map_cons, List.sum_cons, List.sum_cons, List.map_cons, List.sum_cons, List.length_cons]
  omega
theorem oB_ (rs : List Str) : ((rs.map spl).map List.length).sum ≤ (rs.map fun q => (cs q).countP isSep).sum + rs.length := by
 induction rs with
 | nil => exact Nat.le_refl _
 | cons r rs ih =>
  have : (spl r).length ≤ (cs r).countP isSep + 1 := by
   unfold spl
   rw [e_sp, bT_ (by decide)]
   exact Nat.succ_le_succ (in_ rfl)
  simp only [List.map_cons, List.sum_cons, List.length_cons]
  omega
theorem mA_ {x : Str} (h : TOk x) : ((wdsOf x).map List.length).sum ≤ 901 := by
 have h1 := StrLaws.join_split x (onec 10)
 have hne := (bd_ (x := x) (c := 10) (by decide)).1
 have hs := oB_ (Txt.split x (Str.ofString "\n"))
 unfold wdsOf
 rw [e_nl] at hs ⊢
 generalize Txt.split x (onec 10) = rs at *
 cases rs with
 | nil => exact absurd rfl hne
 | cons p ps =>
  have h2 := ir_ (c := 10) rfl p ps
  rw [h1] at h2
  have := h.few
  rw [List.length_cons] at hs
  refine Nat.le_trans hs ?_
  omega
theorem oC_ (l : List (Str × (Int × Int))) : dep (.lst (l.map dWo)) ≤ 60 := Nat.le_trans (Nat.succ_le_succ (em_ (f := dWo) (n := 3) (fun r => by simp [dWo, dep, deps]) _)) (by decide)
theorem oD_ (l : List (Str × (Int × Int))) : deq (.lst (l.map dWo)) (.lst []) = some (decide (l.length = 0)) := by
 cases l with
 | nil => rfl
 | cons a l => simp [deq, deqs]
theorem cut_2 {y n : Str} {ps : List Str} : cutV ((y :: n :: ps).map V.str) (some 2) none = ps.map V.str := ff_ _ 2 (by simp)
theorem nh_ (l : List Str) (p : Str → Bool) (g : Nat → Str) : decide (((List.range l.length).filter fun j => !p (l.getD j Str.empty)).map g = []) = l.all p := by
 rw [← nQ_ l Str.empty p, List.all_map, Bool.eq_iff_iff, decide_eq_true_iff, List.map_eq_nil_iff, List.filter_eq_nil_iff, List.all_eq_true]
 constructor
 ·intro h a ha
  have := h a ha
  simpa using this
 ·intro h a ha
  have := h a ha
  simpa using this
abbrev s_Ljudged : Stmt := stN 54
theorem bs_ : FnScope ["_law_text", "_law_rows", "_law_points", "_law_worths", "_law_words", "_law_names_here", "_law_point", "_law_wires"] ["_law_text"] (defScope s_Ljudged) := ⟨rfl, rfl, rfl, by decide +kernel, rfl, by decide +kernel, by decide +kernel⟩
theorem jo_ : LK s_Ljudged "_law_text" .local := by decide +kernel
theorem bE_ : LK s_Ljudged "_law_rows" .local := by decide +kernel
theorem c7_ : LK s_Ljudged "_law_points" .local := by decide +kernel
theorem ci_ : LK s_Ljudged "_law_worths" .local := by decide +kernel
theorem aU_ : LK s_Ljudged "_law_words" .local := by decide +kernel
theorem c8_ : LK s_Ljudged "_law_names_here" .local := by decide +kernel
theorem gf_ : LK s_Ljudged "_law_point" .local := by decide +kernel
theorem gg_ : LK s_Ljudged "_law_wires" .local := by decide +kernel
theorem du_ : LK s_Ljudged "_law_worth" .globalImplicit := by decide +kernel
theorem dh_ : LK s_Ljudged "len" .globalImplicit := by decide +kernel
def sp_jd : Sp := fun vs H Q _ => ∃ x : Str, vs = [.str x] ∧ TOk x ∧ ∀ v H', Same H H' → Rep H' v (dO (rdNet x)) → Q v H'
theorem lg_ (T : Txt K mg) (F : Fn0 K mg "_law_judged" s_Ljudged) (C_Lworth : Cal P w K mg base "_law_worth" ["_law_word"] 2 sp_lw) (C_Lis_name : Cal P w K mg base "_law_is_name" ["_law_name"] 1 sp_lin) : Cal P w K mg base "_law_judged" ["_law_text"] 3 sp_jd := by
 refine aW_ F bs_ (fun _ _ _ _ _ _ us hl => match us, hl with | [_], _ => rfl) ?len ?body
 case len => rintro vs H Q E ⟨a, rfl, _⟩; rfl
 case body =>
  intro f cdv A outer s H vs Q E hr h
  obtain ⟨x, rfl, ok, k⟩ := h
  have tl := ok.len
  have rf := io_ ok
  have hro := fun r => nR_ (r := r) ok
  have hwf := mA_ ok
  have hne := (bd_ (x := x) (c := 10) (by decide)).1
  rw [← e_nl] at hne
  unfold rdNet at k
  unfold wdsOf at k hwf
  generalize hrs : Txt.split x (Str.ofString "\n") = rs at *
  refine' ⟨_, ?D, ?R⟩
  case D =>
   refine' az_ ?g1 ?g2
   case' g1 => refine' eT_ (i := 1) (N' := ["_law_row"]) (ix := [none]) rfl rfl bs_.nd rfl bE_ rfl (bN_ ?g3) ?g4 (fun _ _ _ => ?g5) (fun _ _ _ => ?g6) (fun _ _ _ => ?g7)
   case g3 => exact (by show scpB (defScope s_Ljudged) ["_law_text", "_law_rows", "_law_points", "_law_worths", "_law_words", "_law_names_here", "_law_point", "_law_wires"] _ _ _ = true; decide +kernel)
   case' g4 => refine' bm_ (K := K) rfl ?g8
   case' g8 => refine' dZ_ (K := K) rfl PySem.F.plainAttrs_str PySem.F.slot_str_split PySem.F.type_str_split eB_ (pv1 0 rfl jo_) ?g10
   case' g10 => refine' pa_c aF_ ab_
   case g5 => exact aj_ (i := 0) (by show List.Nodup (["_law_row"] : List Str); decide +kernel) rfl rfl
   case g6 => exact c0_
   case' g7 => refine' dZ_ (K := K) rfl PySem.F.plainAttrs_str PySem.F.slot_str_split PySem.F.type_str_split eB_ (pv1 0 rfl rfl) ?g14
   case' g14 => refine' pa_c aF_ ab_
   case' g2 => refine' aa_ ?g17 ?g18
   case' g17 => refine' ps_if ?g19 ?g20 ar_
   case' g19 => refine' PW.pt ?g22
   case' g22 => refine' pw_or ?g23 ?g24
   case' g23 => refine' ak_ op_ne ?g25 aF_ (nomark _)
   case' g25 => refine' pe_ix am_ ?g27 ac_ (fun _ _ => rfl)
   case' g27 => refine' pe_ix am_ (pv1 1 rfl bE_) ac_ (fun _ _ => rfl)
   case' g24 => refine' fc_ ?g31
   case' g31 => refine' d9_ ?g32
   case' g32 => refine' hT_ op_le op_le ac_ ?g34 ac_
   case' g34 => refine' ah_ ap_ dh_ T.n_len aG_ ?g36
   case' g36 => refine' pa_c ?g37 ab_
   case' g37 => refine' pe_ix am_ (pv1 1 rfl bE_) ac_ (fun _ _ => rfl)
   case' g20 => refine' ae_ ?g41
   case' g41 => refine' ao_ ?g42
   case g42 => exact eN_
   case' g18 => refine' az_ ?g43 ?g44
   case' g43 => refine' af_ (i := 2) bs_.nd rfl c7_ ?g45
   case' g45 => refine' bh_ ab_
   case' g44 => refine' az_ ?g47 ?g48
   case' g47 => refine' af_ (i := 3) bs_.nd rfl ci_ ?g49
   case' g49 => refine' bh_ ab_
   case' g48 => refine' aa_ ?g51 ?g52
   case' g51 => refine' cB_ PassesOwn.never rfl ?g53 ?g54 ?g55
   case' g53 => refine' bm_ (K := K) rfl ?g56
   case' g56 => refine' aL_ bw_ (pv1 1 rfl bE_) ?g58 ?g59
   case' g58 => refine' aV_ ac_
   case g59 => exact a2_
   case g54 => exact aj_ (i := 4) bs_.nd rfl aU_
   case' g55 => refine' ae_ ?g61
   case' g61 => refine' ps_if ?g62 ?g63 ?g64
   case' g62 => refine' PW.pt ?g65
   case' g65 => refine' eO_ ?g66 ?g67
   case' g66 => refine' ak_ op_eq ?g68 aF_ (nomark _)
   case' g68 => refine' pe_ix am_ (pv1 4 rfl aU_) ac_ (fun _ _ => rfl)
   case' g67 => refine' eO_ ?g72 ?g73
   case' g72 => refine' ak_ op_gt ?g74 ac_ (nomark _)
   case' g74 => refine' ah_ ap_ dh_ T.n_len aG_ ?g76
   case' g76 => refine' pa_c (pv1 4 rfl aU_) ab_
   case' g73 => refine' eS_ ?g79
   case' g79 => refine' ak_ (lK_ (hr.units)) (pv1 3 rfl ci_) ?g81 (nomark _)
   case' g81 => refine' bh_ ab_
   case' g63 => refine' ae_ ?g83
   case' g83 => refine' aZ_ ?g84
   case' g84 => refine' pe_bm PySem.F.plainAttrs_list PySem.F.slot_list_append PySem.F.type_list_append bi_ (pv1 2 rfl c7_) ?g86
   case' g86 => refine' pa_c ?g87 ab_
   case' g87 => refine' aO_ ?g89
   case' g89 => refine' pa_c ?g90 ?g91
   case' g90 => refine' pe_ix am_ (pv1 4 rfl aU_) ac_ (fun _ _ => rfl)
   case' g91 => refine' pa_c ?g94 ab_
   case' g94 => refine' aL_ bw_ (pv1 4 rfl aU_) ?g97 ?g98
   case' g97 => refine' aV_ ac_
   case g98 => exact a2_
   case' g64 => refine' ae_ ?g100
   case' g100 => refine' ps_if ?g101 ?g102 ?g103
   case' g101 => refine' PW.pt ?g104
   case' g104 => refine' eO_ ?g105 ?g106
   case' g105 => refine' ak_ op_eq ?g107 aF_ (nomark _)
   case' g107 => refine' pe_ix am_ (pv1 4 rfl aU_) ac_ (fun _ _ => rfl)
   case' g106 => refine' eO_ ?g111 ?g112
   case' g111 => refine' ak_ op_eq ?g113 ac_ (nomark _)
   case' g113 => refine' ah_ ap_ dh_ T.n_len aG_ ?g115
   case' g115 => refine' pa_c (pv1 4 rfl aU_) ab_
   case' g112 => refine' eS_ ?g118
   case' g118 => refine' hH_ (lp_ ?g119)
   case' g119 => refine' al_ C_Lworth (hr.mono (by decide)) du_ ?g120
   case' g120 => refine' pa_c ?g121 ab_
   case' g121 => refine' pe_ix am_ (pv1 4 rfl aU_) ac_ (fun _ _ => rfl)
   case' g102 => refine' ae_ ?g125
   case' g125 => refine' aZ_ ?g126
   case' g126 => refine' pe_bm PySem.F.plainAttrs_list PySem.F.slot_list_append PySem.F.type_list_append bi_ (pv1 3 rfl ci_) ?g128
   case' g128 => refine' pa_c ?g129 ab_
   case' g129 => refine' aO_ ?g131
   case' g131 => refine' pa_c ?g132 ?g133
   case' g132 => refine' pe_ix am_ (pv1 4 rfl aU_) ac_ (fun _ _ => rfl)
   case' g133 => refine' pa_c ?g136 ab_
   case' g136 => refine' al_ C_Lworth (hr.mono (by decide)) du_ ?g138
   case' g138 => refine' pa_c ?g139 ab_
   case' g139 => refine' pe_ix am_ (pv1 4 rfl aU_) ac_ (fun _ _ => rfl)
   case' g103 => refine' ae_ ?g143
   case' g143 => refine' ao_ ?g144
   case g144 => exact eN_
   case' g52 => refine' az_ ?g145 ?g146
   case' g145 => refine' af_ (i := 5) bs_.nd rfl c8_ ?g147
   case' g147 => refine' pe_op gK_ ?g148 ?g149
   case' g148 => refine' aL_ bw_ ?g150 ?g151 ?g152
   case' g150 => refine' pe_ix am_ (pv1 1 rfl bE_) ac_ (fun _ _ => rfl)
   case' g151 => refine' aV_ ac_
   case g152 => exact a2_
   case' g149 => refine' cC_ (N' := ["_law_wire", "_law_worth_here"]) (ix := [none, none]) rfl rfl (bN_ ?g156) ?g157 (fun _ _ _ => ?g158) (fun _ _ _ => ?g159) (fun _ _ _ => (pv1 0 rfl rfl))
   case g156 => exact (by show scpB (defScope s_Ljudged) ["_law_text", "_law_rows", "_law_points", "_law_worths", "_law_words", "_law_names_here", "_law_point", "_law_wires"] _ _ _ = true; decide +kernel)
   case' g157 => refine' bm_ (K := K) rfl (pv1 3 rfl ci_)
   case' g158 => refine' bS_ (K := K) (n := 2) rfl rfl ?g162
   case' g162 => refine' aB_ ?g163 ?g164
   case g163 => exact aj_ (i := 0) (by show List.Nodup (["_law_wire", "_law_worth_here"] : List Str); decide +kernel) rfl rfl
   case' g164 => refine' aB_ ?g165 bQ_
   case g165 => exact aj_ (i := 1) (by show List.Nodup (["_law_wire", "_law_worth_here"] : List Str); decide +kernel) rfl rfl
   case g159 => exact c0_
   case' g146 => refine' aa_ ?g167 ?g168
   case' g167 => refine' cB_ PassesOwn.never rfl ?g169 ?g170 ?g171
   case' g169 => refine' bm_ (K := K) rfl (pv1 2 rfl c7_)
   case' g170 => refine' bS_ (K := K) (n := 2) rfl rfl ?g173
   case' g173 => refine' aB_ ?g174 ?g175
   case g174 => exact aj_ (i := 6) bs_.nd rfl gf_
   case' g175 => refine' aB_ ?g176 bQ_
   case g176 => exact aj_ (i := 7) bs_.nd rfl gg_
   case' g171 => refine' ae_ ?g178
   case' g178 => refine' af_ (i := 5) bs_.nd rfl c8_ ?g179
   case' g179 => refine' pe_op gK_ ?g180 (pv1 7 rfl gg_)
   case' g180 => refine' pe_op gK_ (pv1 5 rfl c8_) ?g183
   case' g183 => refine' bh_ ?g184
   case' g184 => refine' pa_c (pv1 6 rfl gf_) ab_
   case' g168 => refine' aa_ ?g187 ?g188
   case' g187 => refine' ps_if ?g189 ?g190 ar_
   case' g189 => refine' ak_ (gR_ (hr.units)) ?g192 ?g193 (nomark _)
   case' g192 => refine' cC_ (N' := ["_law_name"]) (ix := [none]) rfl rfl (bN_ ?g194) ?g195 (fun _ _ _ => ?g196) (fun _ _ _ => ?g197) (fun _ _ _ => (pv1 0 rfl rfl))
   case g194 => exact (by show scpB (defScope s_Ljudged) ["_law_text", "_law_rows", "_law_points", "_law_worths", "_law_words", "_law_names_here", "_law_point", "_law_wires"] _ _ _ = true; decide +kernel)
   case' g195 => refine' bm_ (K := K) rfl (pv1 5 rfl c8_)
   case g196 => exact aj_ (i := 0) (by show List.Nodup (["_law_name"] : List Str); decide +kernel) rfl rfl
   case' g197 => refine' kr_ ?g200
   case' g200 => refine' d9_ ?g201
   case' g201 => refine' cX_ ?g202
   case' g202 => refine' al_ C_Lis_name (hr.mono (by decide)) rfl ?g203
   case' g203 => refine' pa_c (pv1 0 rfl rfl) ab_
   case' g193 => refine' bh_ ab_
   case' g190 => refine' ae_ ?g207
   case' g207 => refine' ao_ ?g208
   case g208 => exact eN_
   case' g188 => refine' ae_ ?g209
   case' g209 => refine' ao_ ?g210
   case' g210 => refine' aO_ ?g211
   case' g211 => refine' pa_c ?g212 ?g213
   case' g212 => refine' aL_ bw_ ?g214 ?g215 ?g216
   case' g214 => refine' pe_ix am_ (pv1 1 rfl bE_) ac_ (fun _ _ => rfl)
   case' g215 => refine' aV_ ac_
   case g216 => exact a2_
   case' g213 => refine' pa_c (pv1 2 rfl c7_) ?g221
   case' g221 => refine' pa_c (pv1 3 rfl ci_) ab_
  case R =>
   walk_at "rd"
   refine ⟨by decide +kernel, by omega, fun D0 n0 => ?_⟩
   rw [show Txt.split x (Str.ofString "\n") = rs from hrs]
   have S1 := Same.new n0 (o := HO.lst (rs.map V.str))
   have hD0 := ad_ (H := H) (a := D0) (o := HO.lst (rs.map V.str))
   generalize upd H D0 (HO.lst (rs.map V.str)) = H1 at *
   refine ⟨⟨_, .inl (.inl hD0)⟩, ?_⟩
   refine b1_ (n := rs.length) (B := H) (Pσ := fun σ => ∃ e, σ = [e]) (ds := (rs.map spl).map dWs) S1 ⟨_, rfl⟩ (by simp) (by omega) (fun i H' hi s' => ⟨_, .str rs[i], .inl (.inl (s' _ _ hD0)), by simp [hi]⟩) (fun H' s' => ⟨_, .inl (.inl (s' _ _ hD0)), by simp⟩) ?_ ?_
   ·rintro D i y d σ' H2 H2' hD ⟨oD, hDo⟩ hs2 hi hdi ⟨rfl, hy⟩ ⟨e, rfl⟩ Rr kR
    have hx := hy _ (.inl (.inl (hs2 _ _ hD0)))
    rw [List.getElem?_map, List.getElem?_eq_getElem hi] at hx
    cases hx
    have hw := hro _ (List.getElem_mem hi)
    have hd : d = dWs (spl rs[i]) := by
     rw [List.getElem?_map, List.getElem?_map, List.getElem?_eq_getElem hi] at hdi
     exact (Option.some.inj hdi).symm
    generalize rs[i] = wd at *
    walk_at "rd"
    refine ⟨by decide +kernel, by omega, fun t2 n2 => kR _ _ _ ⟨_, rfl⟩ (Same.new n2) ?_⟩
    have tD : t2 ≠ D := (ag_ hDo n2).symm
    rw [hd]
    exact ⟨t2, _, rfl, by rw [eb_ tD ((S1.trans hs2).free n2)]; exact ad_, aP_ (spl wd)⟩
   ·intro D H2 hD s2 rep2
    obtain ⟨_, xs, eD, hDn, rxs⟩ := rep2
    cases eD
    have hD2 := (aJ_ hDn).2
    have s02 := S1.trans s2
    have xl : xs.length = rs.length := by rw [rxs.length, List.length_map, List.length_map]
    have rx : ∀ (i : Nat) (r : Str), rs[i]? = some r → ∃ q y ps, xs[i]? = some (.ref q) ∧ H2 q = some (.lst ((y :: ps).map V.str)) ∧ spl r = y :: ps ∧ (∀ z ∈ ps, Wd z) ∧ ps.length ≤ 900 := fun i r hi => by
     obtain ⟨v, hx, hr⟩ := rxs.get (i := i) (d := dWs (spl r)) (by rw [List.getElem?_map, List.getElem?_map, hi]; rfl)
     obtain ⟨q, us, rfl, hq, hus⟩ := hr
     rw [b5_ hus] at hq
     obtain ⟨_, h2, h3, h4⟩ := hro r (List.mem_of_getElem? hi)
     cases e : spl r with
     | nil => exact absurd e h3
     | cons y ps =>
      rw [e] at hq
      rw [show Txt.split r (Str.ofString " ") = y :: ps from e] at h2 h4
      exact ⟨q, y, ps, hx, (aJ_ hq).2, rfl, fun z hz => h4 z (List.mem_cons_of_mem _ hz), by rw [List.length_cons] at h2; omega⟩
    obtain ⟨r0, rest, rfl⟩ : ∃ r0 rest, rs = r0 :: rest := by
     cases rs with
     | nil => exact absurd rfl hne
     | cons a b => exact ⟨a, b, rfl⟩
    obtain ⟨q0, y0, ps0, hq0, hw0, es0, wd0, len0⟩ := rx 0 r0 rfl
    rw [List.map_cons, show Txt.split r0 (Str.ofString " ") = y0 :: ps0 from es0] at k hwf
    dsimp only at k
    rw [List.map_cons, List.sum_cons, List.length_cons] at hwf
    have ek : (rest.map fun r => Txt.split r (Str.ofString " ")) = rest.map spl := rfl
    rw [ek] at k hwf
    have hLl : (rest.map spl).length = rest.length := List.length_map ..
    have hLr : ∀ i r, rest[i]? = some r → (rest.map spl).drop i = spl r :: (rest.map spl).drop (i + 1) := fun i r hi => by
     obtain ⟨hil, er⟩ := List.getElem?_eq_some_iff.mp hi
     rw [List.drop_eq_getElem_cons (by rw [hLl]; exact hil), List.getElem_map, er]
    generalize rest.map spl = L at *
    rw [List.length_cons] at rf xl
    try walk_at "rd"
    refine ⟨xs, hD2, .ref q0, b9_ (by decide) hq0, q0, rfl, _, hw0, _, atI_0, rfl, ?_⟩
    refine ite2 (fun h1 => ?_) (fun h1 => ?_)
    ·rw [if_neg (fun z => h1 (by rw [z.1]))] at k
     exact k _ _ s02 rfl
    have h1' : y0 = Str.ofString "rim" := by
     have := Decidable.not_not.mp h1
     injection this
    refine ⟨xs, hD2, .ref q0, b9_ (by decide) hq0, q0, rfl, _, .inl hw0, ?_⟩
    rw [List.length_map, List.length_cons]
    refine ite2 (fun h2 => ite2 (fun h3 => ?_) (fun h3 => ?_)) (fun h2 => ?_)
    ·rw [if_neg (fun z => h3 (by have := z.2.2.1; omega))] at k
     exact k _ _ s02 rfl
    rotate_left
    ·rw [if_neg (fun z => h2 (by have := z.2.1; omega))] at k
     exact k _ _ s02 rfl
    have kj : ∀ v H', Same H H' → Rep H' v (dO (if ps0.all isNm = true then ((jRows L ([], [])).filter nmsOk).map fun q => ⟨ps0, q.1, q.2⟩ else none)) → Q v H' := by
     rw [← rd_j L ([], []) rfl]
     by_cases hal : ps0.all isNm = true
     ·rw [if_pos ⟨h1', by omega, by omega, hal⟩] at k
      rw [if_pos hal]
      exact k
     ·rw [if_neg (fun z => hal z.2.2.2)] at k
      rw [if_neg hal]
      exact k
    clear k
    have kn : jRows L ([], []) = none → ∀ H', Same H H' → Q .non H' := fun e H' st => kj _ _ st (by rw [e]; split <;> exact rfl)
    generalize hJ0 : jRows L ([], []) = J0 at *
    have s3 : Same H2 H2 := Same.refl _
    have hr0 : (y0 :: ps0).map V.str = (y0 :: ps0).map V.str := rfl
    generalize hH3 : H2 = H3 at *
    walk_at "rd"
    refine ⟨Nat.zero_le _, fun PA nPA => ?_⟩
    have S4 := Same.new nPA (o := HO.lst [])
    have hPA := ad_ (H := H3) (a := PA) (o := HO.lst [])
    generalize upd H3 PA (HO.lst []) = H4 at *
    walk_at "rd"
    refine ⟨Nat.zero_le _, fun WA nWA => ?_⟩
    have S5 := Same.new nWA (o := HO.lst [])
    have hWA := ad_ (H := H4) (a := WA) (o := HO.lst [])
    have hPA5 := S5 _ _ hPA
    have s35 := S4.trans S5
    have pw : PA ≠ WA := ag_ hPA nWA
    generalize upd H4 WA (HO.lst []) = H5 at *
    have hD5 := (s3.trans s35) _ _ hD2
    walk_at "rd"
    refine ⟨_, hD5, fun SL nSL => ?_⟩
    rw [show cutV xs (some 1) none = xs.drop 1 from ff_ _ 1 (by rw [xl]; omega)]
    have PS : PA ≠ SL := ag_ hPA5 nSL
    have WS : WA ≠ SL := ag_ hWA nSL
    have H3SL := s35.free nSL
    have sS0 : Same (upd H3 SL (HO.lst (xs.drop 1))) (upd H5 SL (HO.lst (xs.drop 1))) := fun b o h => by
     by_cases e : b = SL
     ·subst e
      rw [ad_] at h ⊢
      exact h
     ·rw [ai_ e] at h ⊢
      exact s35 _ _ h
    have s3S := Same.new H3SL (o := HO.lst (xs.drop 1))
    have SPA : upd H3 SL (HO.lst (xs.drop 1)) PA = none := by rw [ai_ PS]; exact nPA
    have SWA : upd H3 SL (HO.lst (xs.drop 1)) WA = none := by rw [ai_ WS]; exact S4.free nWA
    have hSL := ad_ (H := H3) (a := SL) (o := HO.lst (xs.drop 1))
    have hPA6 : upd H5 SL (HO.lst (xs.drop 1)) PA = some (.lst []) := by rw [ai_ PS]; exact hPA5
    have hWA6 : upd H5 SL (HO.lst (xs.drop 1)) WA = some (.lst []) := by rw [ai_ WS]; exact hWA
    generalize upd H5 SL (HO.lst (xs.drop 1)) = H6 at *
    generalize upd H3 SL (HO.lst (xs.drop 1)) = S0 at *
    have s0S : Same H S0 := (s02.trans s3).trans s3S
    have s2S := s3.trans s3S
    refine ⟨⟨_, .inl (.inl (sS0 _ _ hSL))⟩, ib_ (xs := xs.drop 1) (fun i σ Hx => ∃ (e4 : Option V) (S : Hp) (ys zs : List V) (q : Pw), σ = [some (V.str x), some (V.ref D), some (V.ref PA), some (V.ref WA), e4, none, none, none] ∧ Same S0 S ∧ Same S Hx ∧ S PA = none ∧ S WA = none ∧ Hx PA = some (.lst ys) ∧ Hx WA = some (.lst zs) ∧ Reps S ys (q.1.map dRw) ∧ Reps S zs (q.2.map dWo) ∧ (q.1.map fun r => r.2.length + 1).sum + q.2.length + ((L.drop i).map List.length).sum ≤ 900 ∧ (∀ r ∈ q.1, ∀ z ∈ r.1 :: r.2, Wd z) ∧ (∀ r ∈ q.2, Wd r.1) ∧ jRows (L.drop i) q = J0) ⟨_, S0, [], [], ([], []), rfl, Same.refl _, sS0, SPA, SWA, hPA6, hWA6, rfl, rfl, by rw [List.drop_zero]; simp; omega, (fun r hr => by cases hr), (fun r hr => by cases hr), by rw [List.drop_zero]; exact hJ0⟩ ?_ ?_ ?_⟩
    ·rintro i σ Hx hi ⟨e4, S, ys, zs, q, rfl, sS, sH, sPA, sWA, hPx, hWx, ry, rz, _⟩
     exact .inl (.inl (sH _ _ (sS _ _ hSL)))
    ·rintro i v σ Hx hx kk kb hk hbk G hG ⟨e4, S, ys, zs, q, rfl, sS, sH, sPA, sWA, hPx, hWx, ry, rz, lq, w1, w2, rd⟩
     rw [List.getElem?_drop, Nat.add_comm 1 i] at hx
     have il : i < rest.length := by
      have := (List.getElem?_eq_some_iff.mp hx).1
      omega
     have s2x : Same H3 Hx := s2S.trans (sS.trans sH)
     have s0x : Same H Hx := s0S.trans (sS.trans sH)
     have yl : ys.length = q.1.length := by rw [ry.length, List.length_map]
     have zl : zs.length = q.2.length := by rw [rz.length, List.length_map]
     have yl9 : q.1.length ≤ (q.1.map fun r => r.2.length + 1).sum := by
      clear ry lq rd yl
      induction q.1 with
      | nil => exact Nat.le_refl _
      | cons a l ih => rw [List.map_cons, List.sum_cons, List.length_cons]; omega
     obtain ⟨r, hr⟩ : ∃ r, rest[i]? = some r := ⟨_, List.getElem?_eq_getElem il⟩
     obtain ⟨p, y, ps, hq, hwq, es, wds, lps⟩ := rx (i + 1) r (by rw [List.getElem?_cons_succ]; exact hr)
     rw [hx] at hq
     cases hq
     rw [hLr i r hr, es] at rd lq
     rw [List.map_cons, List.sum_cons, List.length_cons] at lq
     have ej : jRows ((y :: ps) :: L.drop (i + 1)) q = (jStep (y :: ps) q).bind (jRows (L.drop (i + 1))) := rfl
     rw [ej] at rd
     unfold jStep at rd
     dsimp only at rd
     have wat := mz_
     walk_at "rd"
     refine ⟨_, s2x _ _ hwq, _, atI_0, rfl, ?_⟩
     refine ite2 (fun hA => ?_) (fun hA => ?_)
     ·have hA' : y = Str.ofString "at" := V.str.inj hA
      have noW : ¬ V.str y = V.str (Str.ofString "wire") := fun z => wat (hA'.symm.trans (V.str.inj z))
      have noW' : ¬ (y = Str.ofString "wire" ∧ ps.length = 2 ∧ (wOf (ps.getD 1 Str.empty)).isSome = true) := fun z => wat (hA'.symm.trans z.1)
      rw [if_neg noW'] at rd
      refine ⟨_, .inl (s2x _ _ hwq), ?_⟩
      rw [List.length_map, List.length_cons]
      refine ite2 (fun hl => ⟨Nat.zero_le _, fun pe ne => ?_⟩) (fun hl => ?_)
      ·have Se := Same.new ne (o := HO.lst [])
       refine ⟨.lst (q.2.map dWo), ⟨WA, zs, rfl, Se _ _ hWx, Reps.mono (sH.trans Se) _ rz⟩, .lst [], ⟨pe, [], rfl, ad_, rfl⟩, _, oD_ _, oC_ _, ?_⟩
       generalize upd Hx pe (HO.lst []) = He at *
       refine ite2 (fun hz => ?_) (fun hz => ?_)
       ·have hz' : q.2.length = 0 := of_decide_eq_true hz
        obtain ⟨n, t, rfl⟩ : ∃ n t, ps = n :: t := by
         cases ps with
         | nil => exact absurd hl (by simp)
         | cons n t => exact ⟨n, t, rfl⟩
        rw [if_pos ⟨hA', by simp, hz'⟩] at rd
        have hwe := Se _ _ (s2x _ _ hwq)
        refine ⟨.inl ⟨_, .inl (.inl (Se _ _ hPx))⟩, _, hwe, _, atI_1, _, hwe, fun l nl => ⟨by decide, fun z nz => ?_⟩⟩
        rw [cut_2] at nz ⊢
        have Sl := Same.new nl (o := HO.lst (t.map V.str))
        have hl := ad_ (H := He) (a := l) (o := HO.lst (t.map V.str))
        generalize upd He l (HO.lst (t.map V.str)) = Hl at *
        have Sz := Same.new nz (o := HO.tup [V.str n, V.ref l])
        have hz := ad_ (H := Hl) (a := z) (o := HO.tup [V.str n, V.ref l])
        generalize upd Hl z (HO.tup [V.str n, V.ref l]) = H7 at *
        have s7 : Same Hx H7 := Se.trans (Sl.trans Sz)
        have nz' : Hx z = none := (Se.trans Sl).free nz
        have nl' : Hx l = none := Se.free nl
        have g1 : Same S (grow S Hx H7) := bq_ sH
        have g2 : Same (grow S Hx H7) H7 := ec_ sH s7
        have gP : grow S Hx H7 PA = none := by rw [bn_ hPx]; exact sPA
        have gW : grow S Hx H7 WA = none := by rw [bn_ hWx]; exact sWA
        refine ⟨ys, s7 _ _ hPx, small1000 (by omega), hk _ _ ⟨_, grow S Hx H7, ys ++ [.ref z], zs, (q.1 ++ [(n, t)], q.2), rfl, sS.trans g1, b2_ g2 gP, gP, gW, ad_, by rw [ai_ pw.symm]; exact s7 _ _ hWx, ?_, Reps.mono g1 _ rz, ?_, (fun r hr => (List.mem_append.mp hr).elim (w1 r) fun hr => by rw [List.mem_singleton.mp hr]; exact wds), w2, rd⟩⟩
        ·rw [List.map_append]
         refine (Reps.mono g1 _ ry).append ⟨_, _, rfl, ⟨z, _, rfl, by rw [cl_ nz']; exact hz, _, _, rfl, rfl, _, _, rfl, ⟨l, _, rfl, by rw [cl_ nl']; exact Sz _ _ hl, aP_ _⟩, rfl⟩, rfl⟩
        ·rw [List.map_append, List.sum_append]
         simp only [List.map_cons, List.map_nil, List.sum_cons, List.sum_nil, List.length_cons] at lq ⊢
         omega
       ·refine ⟨_, Se _ _ (s2x _ _ hwq), _, atI_0, rfl, ?_⟩
        rw [if_neg noW]
        rw [if_neg (fun z => hz (decide_eq_true z.2.2))] at rd
        exact kn rd.symm _ (s0x.trans Se)
      ·refine ⟨_, s2x _ _ hwq, _, atI_0, rfl, ?_⟩
       rw [if_neg noW]
       rw [if_neg (fun z => hl (by have := z.2.1; omega))] at rd
       exact kn rd.symm _ s0x
     ·have hA' : ¬ y = Str.ofString "at" := fun z => hA (by rw [z])
      rw [if_neg (fun z => hA' z.1)] at rd
      refine ⟨_, s2x _ _ hwq, _, atI_0, rfl, ite2 (fun hW => ?_) (fun hW => ?_)⟩
      ·refine ⟨_, .inl (s2x _ _ hwq), ?_⟩
       rw [List.length_map, List.length_cons]
       refine ite2 (fun hl => ?_) (fun hl => ?_)
       ·obtain ⟨n, t, rfl⟩ : ∃ n t, ps = [n, t] := by
         match ps, hl with
         | [], h => exact absurd h (by decide)
         | [_], h => exact absurd h (by simp)
         | [n, t], _ => exact ⟨n, t, rfl⟩
         | _ :: _ :: _ :: _, h => exact absurd h (by simp only [List.length_cons]; omega)
        have eg : [n, t].getD 1 Str.empty = t := rfl
        rw [eg] at rd
        have wt := wds t (by simp)
        refine ⟨_, s2x _ _ hwq, _, atI_2, t, rfl, wt, fun v H6' s6 hv => ?_⟩
        cases ho : wOf t with
        | none =>
         rw [ho] at hv rd
         cases hv
         rw [if_neg (fun z => z rfl)]
         rw [if_neg (fun z => absurd z.2.2 (by decide))] at rd
         exact kn rd.symm _ (s0x.trans s6)
        | some pr =>
         rw [ho] at hv rd
         obtain ⟨u0, rfl, hu0⟩ := hv
         rw [if_pos (fun z => by cases z)]
         rw [if_pos ⟨V.str.inj hW, rfl, rfl⟩] at rd
         have hw6 := s6 _ _ (s2x _ _ hwq)
         refine ⟨.inl ⟨_, .inl (.inl (s6 _ _ hWx))⟩, _, hw6, _, atI_1, _, hw6, _, atI_2, t, rfl, wt, fun v8 H8 s8 hv8 => ⟨by decide, fun z nz => ?_⟩⟩
         rw [ho] at hv8
         obtain ⟨u, rfl, hu⟩ := hv8
         have Sz := Same.new nz (o := HO.tup [V.str n, V.ref u])
         have hz := ad_ (H := H8) (a := z) (o := HO.tup [V.str n, V.ref u])
         generalize upd H8 z (HO.tup [V.str n, V.ref u]) = H7 at *
         have s7 : Same Hx H7 := s6.trans (s8.trans Sz)
         have nz' : Hx z = none := (s6.trans s8).free nz
         have nu' : Hx u = none := s6.free (aJ_ hu).1
         have g1 : Same S (grow S Hx H7) := bq_ sH
         have g2 : Same (grow S Hx H7) H7 := ec_ sH s7
         have gP : grow S Hx H7 PA = none := by rw [bn_ hPx]; exact sPA
         have gW : grow S Hx H7 WA = none := by rw [bn_ hWx]; exact sWA
         refine ⟨zs, s7 _ _ hWx, small1000 (by omega), hk _ _ ⟨_, grow S Hx H7, ys, zs ++ [.ref z], (q.1, q.2 ++ [(n, pr)]), rfl, sS.trans g1, b2_ g2 gW, gP, gW, by rw [ai_ pw]; exact s7 _ _ hPx, ad_, Reps.mono g1 _ ry, ?_, ?_, w1, (fun r hr => (List.mem_append.mp hr).elim (w2 r) fun hr => by rw [List.mem_singleton.mp hr]; exact wds n (by simp)), rd⟩⟩
         ·rw [List.map_append]
          refine (Reps.mono g1 _ rz).append ⟨_, _, rfl, ⟨z, _, rfl, by rw [cl_ nz']; exact hz, _, _, rfl, rfl, _, _, rfl, ⟨u, _, rfl, by rw [cl_ nu']; exact Sz _ _ (aJ_ hu).2, _, _, rfl, rfl, _, _, rfl, rfl, rfl⟩, rfl⟩, rfl⟩
         ·simp only [List.length_append, List.length_cons, List.length_nil] at lq ⊢
          omega
       ·rw [if_neg (fun z => hl (by have := z.2.1; omega))] at rd
        exact kn rd.symm _ s0x
      ·rw [if_neg (fun z => hW (by rw [z.1]))] at rd
       exact kn rd.symm _ s0x
    ·rintro σ Hx ⟨e4, S, ys, zs, q, rfl, sS, sH, sPA, sWA, hPx, hWx, ry, rz, lq, w1, w2, rd⟩
     have dl : (xs.drop 1).length = L.length := by rw [List.length_drop, xl, hLl]; omega
     rw [dl, List.drop_length] at rd lq
     have rd' : some q = J0 := rd
     subst rd'
     have s2x : Same H3 Hx := s2S.trans (sS.trans sH)
     have s0x : Same H Hx := s0S.trans (sS.trans sH)
     have zl : zs.length = q.2.length := by rw [rz.length, List.length_map]
     have yl : ys.length = q.1.length := by rw [ry.length, List.length_map]
     have lz : q.2.length ≤ 900 := by omega
     walk_at "rd"
     refine ⟨_, s2x _ _ hD2, _, b9_ (by decide) hq0, _, rfl, _, s2x _ _ hw0, fun c1 nc1 => ?_⟩
     rw [cut_1]
     have Sc1 := Same.new nc1 (o := HO.lst (ps0.map V.str))
     have hc1 := ad_ (H := Hx) (a := c1) (o := HO.lst (ps0.map V.str))
     generalize upd Hx c1 (HO.lst (ps0.map V.str)) = Hc at *
     have hWc := Sc1 _ _ hWx
     refine ⟨⟨_, .inl (.inl hWc)⟩, ?_⟩
     refine b1_ (n := q.2.length) (B := fun _ => none) (Pσ := fun σ => ∃ e e', σ = [e, e']) (ds := (q.2.map (·.1)).map dS) (fun b o e => by cases e) ⟨_, _, rfl⟩ (by simp) (by omega) (fun i H' hi s' => ⟨zs, zs[i]'(by omega), .inl (.inl (s' _ _ hWc)), List.getElem?_eq_getElem _⟩) (fun H' s' => ⟨zs, .inl (.inl (s' _ _ hWc)), by omega⟩) ?_ ?_
     ·rintro D' i v d σ' H4' H4'' hD' hDo hs2 hi hdi ⟨rfl, hy⟩ ⟨e, e', rfl⟩ R kR
      have hx := hy _ (.inl (.inl (hs2 _ _ hWc)))
      obtain ⟨dd, hdd, hrr⟩ := rz.of_get hx
      rw [List.getElem?_map, List.getElem?_eq_getElem hi] at hdd
      rw [← Option.some.inj hdd] at hrr
      obtain ⟨aa, _, rfl, haa, _, _, e1, hx1, _, _, e2, hx2, e3⟩ := hrr
      subst e3 e2 e1
      cases hx1
      have hd : d = dS (q.2[i]).1 := by
       rw [List.getElem?_map, List.getElem?_map, List.getElem?_eq_getElem hi] at hdi
       exact (Option.some.inj hdi).symm
      walk_at "rd"
      refine ⟨_, SqT.of (hs2 _ _ (Sc1 _ _ (sH _ _ haa))), rfl, _, _, rfl, _, _, rfl, rfl, kR _ _ _ ⟨_, _, rfl⟩ (Same.refl _) ?_⟩
      rw [hd]
      exact rfl
     ·intro D2 H4' hD2' s4 rep2
      obtain ⟨_, us, eD, hDn, rys⟩ := rep2
      cases eD
      have hus := (aJ_ hDn).2
      rw [ih_ rys] at hus
      have len1 : (ps0.map V.str).length + ((q.2.map (·.1)).map V.str).length ≤ 990 := by
       simp only [List.length_map]
       omega
      refine ⟨D2, rfl, _, s4 _ _ hc1, _, hus, Nat.le_of_lt (small1000 (by omega)), fun p5 np5 => ?_⟩
      have S5 : Same Hx (upd H4' p5 (HO.lst (ps0.map V.str ++ (q.2.map (·.1)).map V.str))) := (Sc1.trans s4).trans (Same.new np5)
      have h5 := ad_ (H := H4') (a := p5) (o := HO.lst (ps0.map V.str ++ (q.2.map (·.1)).map V.str))
      generalize upd H4' p5 (HO.lst (ps0.map V.str ++ (q.2.map (·.1)).map V.str)) = H5' at *
      rw [← List.map_append] at h5
      have hP5 := S5 _ _ hPx
      have lsum : (q.1.map fun r => r.1 :: r.2).flatten.length = (q.1.map fun r => r.2.length + 1).sum := by
       rw [List.length_flatten, List.map_map]
       rfl
      have lall : ∀ i, (ps0 ++ q.2.map (·.1) ++ ((q.1.take i).map fun r => r.1 :: r.2).flatten).length ≤ 950 := fun i => by
       have h6 : ((q.1.take i).map fun r => r.1 :: r.2).flatten.length ≤ (q.1.map fun r => r.1 :: r.2).flatten.length := by
        rw [List.map_take]
        conv => rhs; rw [← List.take_append_drop i (q.1.map fun r => r.1 :: r.2)]
        rw [List.flatten_append, List.length_append]
        omega
       rw [List.length_append, List.length_append, List.length_map]
       omega
      walk_at "rd"
      refine ⟨⟨_, .inl (.inl hP5)⟩, ib_ (xs := ys) (fun i σ Hn => ∃ (a5 : Addr) (e6 e7 : Option V), σ = [some (V.str x), some (V.ref D), some (V.ref PA), some (V.ref WA), e4, some (.ref a5), e6, e7] ∧ Same H5' Hn ∧ Hn a5 = some (.lst ((ps0 ++ q.2.map (·.1) ++ ((q.1.take i).map fun r => r.1 :: r.2).flatten).map V.str))) ⟨p5, _, _, rfl, Same.refl _, by rw [List.take_zero, List.map_nil, List.flatten_nil, List.append_nil]; exact h5⟩ ?_ ?_ ?_⟩
      ·rintro i σ Hn hi ⟨a5, e6, e7, rfl, s5, h6⟩
       exact .inl (.inl (s5 _ _ hP5))
      ·rintro i v σ Hn hx kk kb hk hbk G hG ⟨a5, e6, e7, rfl, s5, h6⟩
       obtain ⟨r, qq, l, hr1, rfl, hqq, hl⟩ := kJ_ ry hx
       have sxn : Same S Hn := (sH.trans S5).trans s5
       have l1 := lall i
       have l2 := lall (i + 1)
       have et : ps0 ++ q.2.map (·.1) ++ ((q.1.take (i + 1)).map fun r => r.1 :: r.2).flatten = ps0 ++ q.2.map (·.1) ++ ((q.1.take i).map fun r => r.1 :: r.2).flatten ++ [r.1] ++ r.2 := by
        rw [List.take_succ, hr1, Option.toList_some, List.map_append, List.flatten_append]
        simp
       rw [et] at hk l2
       generalize ps0 ++ q.2.map (·.1) ++ ((q.1.take i).map fun r => r.1 :: r.2).flatten = nn at *
       rw [List.length_append, List.length_append, List.length_singleton] at l2
       walk_at "rd"
       refine ⟨_, SqT.of (sxn _ _ hqq), rfl, _, _, rfl, _, _, rfl, rfl, by decide, fun b1 nb1 => ?_⟩
       have T1 := Same.new nb1 (o := HO.lst [V.str r.1])
       generalize upd Hn b1 (HO.lst [V.str r.1]) = Hb at *
       refine ⟨_, T1 _ _ h6, Nat.le_of_lt (small1000 (by rw [List.length_map]; omega)), fun b2 nb2 => ?_⟩
       have T2 := Same.new nb2 (o := HO.lst (nn.map V.str ++ [V.str r.1]))
       generalize upd Hb b2 (HO.lst (nn.map V.str ++ [V.str r.1])) = Hb2 at *
       refine ⟨l, rfl, _, T2 _ _ (T1 _ _ (sxn _ _ hl)), Nat.le_of_lt (small1000 (by rw [List.length_append, List.length_map, List.length_map, List.length_singleton]; omega)), fun b3 nb3 => hk _ _ ⟨b3, _, _, rfl, s5.trans (T1.trans (T2.trans (Same.new nb3))), ?_⟩⟩
       rw [ad_, List.map_append, List.map_append]
       rfl
      ·rintro σ Hn ⟨a5, e6, e7, rfl, s5, h6⟩
       rw [List.take_of_length_le (by omega)] at h6
       have l1 := lall q.1.length
       rw [List.take_length] at l1
       have sxn : Same Hx Hn := S5.trans s5
       have nmW : ∀ z ∈ ps0 ++ q.2.map (·.1) ++ (q.1.map fun r => r.1 :: r.2).flatten, Wd z := fun z hz => by
        rcases List.mem_append.mp hz with hz | hz
        ·rcases List.mem_append.mp hz with hz | hz
         ·exact wd0 z hz
         ·obtain ⟨r, hr, rfl⟩ := List.mem_map.mp hz
          exact w2 r hr
        ·obtain ⟨l, hl, hz⟩ := List.mem_flatten.mp hz
         obtain ⟨r, hr, rfl⟩ := List.mem_map.mp hl
         exact w1 r hr z hz
       have nmA : (ps0 ++ q.2.map (·.1) ++ (q.1.map fun r => r.1 :: r.2).flatten).all isNm = (ps0.all isNm && nmsOk q) := by
        unfold nmsOk
        rw [List.all_append, List.all_append, List.all_map, List.all_flatten, List.all_map]
        have : (q.1.all ((fun l => l.all isNm) ∘ fun r => r.1 :: r.2)) = q.1.all fun r => isNm r.1 && r.2.all isNm := by
         congr 1
        rw [this, Bool.and_assoc]
        congr 1
        rw [Bool.and_comm]
        rfl
       rw [List.length_append] at l1
       generalize hnn : ps0 ++ q.2.map (·.1) ++ (q.1.map fun r => r.1 :: r.2).flatten = nn at *
       walk_at "rd"
       refine ⟨⟨_, .inl (.inl h6)⟩, ?_⟩
       have l9 : nn.length ≤ 950 := by
        have := congrArg List.length hnn
        rw [List.length_append] at this
        omega
       refine eA_ (n := nn.length) (Pσ := fun σ => ∃ e, σ = [e]) (bs := fun j => !isNm (nn.getD j Str.empty)) (val := fun j => .str (nn.getD j Str.empty)) ⟨_, rfl⟩ (by omega) (fun j Hj hj sj => ⟨_, .str nn[j], .inl (.inl (sj _ _ h6)), by simp [hj]⟩) (fun Hj sj => ⟨_, .inl (.inl (sj _ _ h6)), by simp⟩) ?_ ?_
       ·rintro Dc j y' σ' H1' H1'' hDc hDo hs1 hj ⟨rfl, hy⟩ ⟨e, rfl⟩ Y R kY kR
        have hx := hy _ (.inl (.inl (hs1 _ _ h6)))
        rw [List.getElem?_map, List.getElem?_eq_getElem hj] at hx
        cases hx
        have eg : nn.getD j Str.empty = nn[j] := by rw [List.getD_eq_getElem?_getD, List.getElem?_eq_getElem hj]; rfl
        rw [eg] at kY kR
        walk_at "rd"
        refine ⟨_, rfl, nmW _ (List.getElem_mem hj), fun H2' s2' => ?_⟩
        cases hb : isNm nn[j] with
        | true =>
         rw [hb] at kR
         exact ⟨_, rfl, by first | (rw [if_neg (by decide)]; exact kR rfl _ _ ⟨_, rfl⟩ s2') | (rw [if_pos rfl]; exact kR rfl _ _ ⟨_, rfl⟩ s2')⟩
        | false =>
         rw [hb] at kY
         exact ⟨_, rfl, by first | (rw [if_pos rfl]; exact kY rfl _ _ ⟨_, rfl⟩ s2') | (rw [if_neg (by decide)]; exact kY rfl _ _ ⟨_, rfl⟩ s2')⟩
       ·intro D7 H7 hD7 s7 hDv
        have e : ((List.range nn.length).filter fun j => !isNm (nn.getD j Str.empty)).map (fun j => V.str (nn.getD j Str.empty)) = (((List.range nn.length).filter fun j => !isNm (nn.getD j Str.empty)).map fun j => nn.getD j Str.empty).map V.str := by
         rw [List.map_map]
         rfl
        rw [e] at hDv
        have en := nh_ nn isNm (fun j => nn.getD j Str.empty)
        generalize ((List.range nn.length).filter fun j => !isNm (nn.getD j Str.empty)).map (fun j => nn.getD j Str.empty) = od at *
        refine ⟨Nat.zero_le _, fun p np => ⟨D7, rfl, .lst (od.map dS), ⟨D7, _, rfl, (Same.new np) _ _ hDv, aP_ od⟩, .lst [], ⟨p, _, rfl, ad_, rfl⟩, _, j8_ od, iq_ od, ?_⟩⟩
        rw [en, nmA]
        have S8 := Same.new np (o := HO.lst [])
        generalize upd H7 p (HO.lst []) = H8 at *
        have sx8 : Same Hx H8 := sxn.trans (s7.trans S8)
        have s08 := s0x.trans sx8
        refine ite2 (fun hb => ?_) (fun hb => ?_)
        ·refine kj _ _ s08 ?_
         rcases Bool.and_eq_false_iff.mp hb with h | h
         ·rw [if_neg (by rw [h]; decide)]
          exact rfl
         ·have : (some q).filter nmsOk = none := by rw [Option.filter, if_neg (by rw [h]; decide)]
          rw [this]
          split <;> exact rfl
        ·have hb' := Bool.and_eq_true_iff.mp (Bool.not_eq_false _ ▸ hb)
         have ef : (some q).filter nmsOk = some q := by rw [Option.filter, if_pos hb'.2]
         rw [if_pos hb'.1, ef] at kj
         refine ⟨_, sx8 _ _ (s2x _ _ hD2), _, b9_ (by decide) hq0, _, rfl, _, sx8 _ _ (s2x _ _ hw0), fun c2 nc2 => ⟨by decide, fun z nz => ?_⟩⟩
         rw [cut_1] at nz ⊢
         have Sc := Same.new nc2 (o := HO.lst (ps0.map V.str))
         have hc2 := ad_ (H := H8) (a := c2) (o := HO.lst (ps0.map V.str))
         generalize upd H8 c2 (HO.lst (ps0.map V.str)) = H9 at *
         have S9 := Same.new nz (o := HO.tup [V.ref c2, V.ref PA, V.ref WA])
         have sx9 : Same Hx _ := sx8.trans (Sc.trans S9)
         exact kj _ _ (s08.trans (Sc.trans S9)) ⟨z, _, rfl, ad_, _, _, rfl, ⟨c2, _, rfl, S9 _ _ hc2, aP_ _⟩, _, _, rfl, ⟨PA, ys, rfl, sx9 _ _ hPx, Reps.mono (sH.trans sx9) _ ry⟩, _, _, rfl, ⟨WA, zs, rfl, sx9 _ _ hWx, Reps.mono (sH.trans sx9) _ rz⟩, rfl⟩
theorem kQ_ {l : List Nat} (hl : ∀ c ∈ l, c < 128) (m : Int) {n : Int} (hn : n = l.length) (h0 : 0 < n) : ∃ c, atI l (m % n) = some c ∧ c < 128 := by
 have a1 := Int.emod_nonneg m (show n ≠ 0 by omega)
 have a2 := Int.emod_lt_of_pos m h0
 have hi : (m % n).toNat < l.length := by omega
 exact ⟨l[(m % n).toNat], b9_ a1 (List.getElem?_eq_getElem hi), hl _ (List.getElem_mem hi)⟩
theorem signs1 : ∀ c ∈ (Str.ofString " ./-012rimatwe\n").cps.toList, c < 128 := by decide +kernel
theorem signs2 : ∀ c ∈ (Str.ofString " !\"#$&'()*+,-./0123456789:;<=>?@ABCDEFGHIJKLMNOPQRSTUVWXYZ[\\]^_`" ++ Str.ofString "abcdefghijklmnopqrstuvwxyz{|}~\n").cps.toList, c < 128 := by decide +kernel
abbrev s_Lsign : Stmt := stN 49
theorem is_ : FnScope ["_law_big_here", "_law_some"] ["_law_big_here"] (defScope s_Lsign) := ⟨rfl, rfl, rfl, by decide +kernel, rfl, by decide +kernel, by decide +kernel⟩
theorem fT_ : LK s_Lsign "_law_big_here" .local := by decide +kernel
theorem dv_ : LK s_Lsign "_law_some" .local := by decide +kernel
theorem jp_ : LK s_Lsign "len" .globalImplicit := by decide +kernel
def sgOf (z : Int) : Nat := if 0 < z % 3 then (atI (Str.ofString " ./-012rimatwe\n").cps.toList (z / 3 % 15)).getD 0 else (atI (Str.ofString " !\"#$&'()*+,-./0123456789:;<=>?@ABCDEFGHIJKLMNOPQRSTUVWXYZ[\\]^_`" ++ Str.ofString "abcdefghijklmnopqrstuvwxyz{|}~\n").cps.toList (z / 3 % ((Str.ofString " !\"#$&'()*+,-./0123456789:;<=>?@ABCDEFGHIJKLMNOPQRSTUVWXYZ[\\]^_`" ++ Str.ofString "abcdefghijklmnopqrstuvwxyz{|}~\n").length : Nat))).getD 0
theorem mB_ (z : Int) : sgOf z < 128 := by
 unfold sgOf
 split
 ·obtain ⟨c, hc, hl⟩ := kQ_ signs1 (z / 3) (n := 15) (by decide +kernel) (by decide)
  rw [hc]
  exact hl
 ·obtain ⟨c, hc, hl⟩ := kQ_ signs2 (z / 3) (n := ((Str.ofString " !\"#$&'()*+,-./0123456789:;<=>?@ABCDEFGHIJKLMNOPQRSTUVWXYZ[\\]^_`" ++ Str.ofString "abcdefghijklmnopqrstuvwxyz{|}~\n").length : Nat)) rfl (by decide +kernel)
  rw [hc]
  exact hl
def sp_sg : Sp := fun vs H Q _ => ∃ z : Int, vs = [.int z] ∧ ∀ H', Same H H' → Q (.str (onec (sgOf z))) H'
theorem ni_ (T : Txt K mg) (F : Fn0 K mg "_law_sign" s_Lsign) : Cal P w K mg base "_law_sign" ["_law_big_here"] 1 sp_sg := by
 refine aW_ F is_ (fun _ _ _ _ _ _ us hl => match us, hl with | [_], _ => rfl) ?len ?body
 case len => rintro vs H Q E ⟨a, rfl, _⟩; rfl
 case body =>
  intro f cdv A outer s H vs Q E hr h
  obtain ⟨z, rfl, k⟩ := h
  refine' ⟨_, ?D, ?R⟩
  case D =>
   refine' aa_ ?g1 ?g2
   case' g1 => refine' af_ (i := 1) is_.nd rfl dv_ aF_
   case' g2 => refine' aa_ ?g4 ?g5
   case' g4 => refine' af_ (i := 1) is_.nd rfl dv_ ?g6
   case' g6 => refine' pe_op bl_ (pv1 1 rfl dv_) aF_
   case' g5 => refine' aa_ ?g9 ?g10
   case' g9 => refine' ps_if ?g11 ?g12 ar_
   case' g11 => refine' ak_ op_gt ?g14 ac_ (nomark _)
   case' g14 => refine' pe_op aw_ (pv1 0 rfl fT_) ac_
   case' g12 => refine' ae_ ?g18
   case' g18 => refine' ao_ ?g19
   case' g19 => refine' pe_ix gJ_ aF_ ?g21 (fun _ _ => rfl)
   case' g21 => refine' pe_op aw_ ?g22 ac_
   case' g22 => refine' pe_op an_ (pv1 0 rfl fT_) ac_
   case' g10 => refine' ae_ ?g26
   case' g26 => refine' ao_ ?g27
   case' g27 => refine' pe_ix gJ_ (pv1 1 rfl dv_) ?g29 (fun _ _ => rfl)
   case' g29 => refine' pe_op aw_ ?g30 ?g31
   case' g30 => refine' pe_op an_ (pv1 0 rfl fT_) ac_
   case' g31 => refine' ah_ aY_ jp_ T.n_len aG_ ?g34
   case' g34 => refine' pa_c (pv1 1 rfl dv_) ab_
  case R =>
   walk_at "rd"
   refine ⟨by decide +kernel, by decide, ite2 (fun h3 => ?_) (fun h3 => ?_)⟩
   ·obtain ⟨c, hc, hl⟩ := kQ_ signs1 (z / 3) (n := 15) (by decide +kernel) (by decide)
    have e : sgOf z = c := by unfold sgOf; rw [if_pos (by omega), hc]; rfl
    rw [e] at k
    exact ⟨by decide, by decide, by decide, by decide +kernel, c, hc, k _ (Same.refl _)⟩
   ·obtain ⟨c, hc, hl⟩ := kQ_ signs2 (z / 3) (n := ((Str.ofString " !\"#$&'()*+,-./0123456789:;<=>?@ABCDEFGHIJKLMNOPQRSTUVWXYZ[\\]^_`" ++ Str.ofString "abcdefghijklmnopqrstuvwxyz{|}~\n").length : Nat)) rfl (by decide +kernel)
    have e : sgOf z = c := by unfold sgOf; rw [if_neg (by omega), hc]; rfl
    rw [e] at k
    exact ⟨by decide, by decide, by decide +kernel, by decide +kernel, by decide +kernel, c, hc, k _ (Same.refl _)⟩
theorem pk_ : ∀ c ∈ sgs, c < 128 ∧ c ≠ 10 ∧ c ≠ 32 := by decide +kernel
theorem mC_ : ∀ c ∈ figs, c < 128 ∧ c ≠ 10 ∧ c ≠ 32 := by decide +kernel
def Sh (y : Str) : Prop := y.length ≤ 9 ∧ ∀ c ∈ cs y, c < 128 ∧ c ≠ 10 ∧ c ≠ 32
theorem it_ {x : Str} (h : NameOk x) : Sh x := ⟨by have := h.2.1; omega, fun c hc => pk_ c (h.2.2 c hc)⟩
theorem sh_fr {p : Int × Int} (h : Ws p) : Sh (fr p) := by
 refine ⟨kM_ h, fun c hc => ?_⟩
 unfold fr at hc
 rw [eP_, eP_] at hc
 rcases List.mem_append.mp hc with hm | hm
 ·rcases List.mem_append.mp hm with hm | hm
  ·exact mC_ c ((num_t h.2.1 h.2.2.1).fig c hm)
  ·have e : cs (Str.ofString "/") = [47] := by decide +kernel
   rw [e] at hm
   rw [List.mem_singleton.mp hm]
   decide
 ·exact mC_ c ((num_t h.1.pos h.2.2.2).fig c hm)
theorem pl_ : Sh (Str.ofString "rim") := ⟨by decide +kernel, by decide +kernel⟩
theorem sh_at : Sh (Str.ofString "at") := ⟨by decide +kernel, by decide +kernel⟩
theorem oE_ : Sh (Str.ofString "wire") := ⟨by decide +kernel, by decide +kernel⟩
theorem nU_ {N : Net Str} (t : Wn N) : ∀ ws ∈ wds N, ws ≠ [] ∧ ∀ y ∈ ws, Sh y := by
 intro ws hw
 rcases List.mem_cons.mp hw with rfl | hw
 ·refine ⟨by simp [wP], fun y hy => ?_⟩
  rcases List.mem_cons.mp hy with rfl | hy
  ·exact pl_
  ·exact it_ (t.nm.ps y hy)
 ·rcases List.mem_append.mp hw with hw | hw
  ·obtain ⟨r, hr, rfl⟩ := List.mem_map.mp hw
   obtain ⟨h1, h2, h3⟩ := t.nm.rs r hr
   refine ⟨by simp [wR], fun y hy => ?_⟩
   rcases List.mem_cons.mp hy with rfl | hy
   ·exact sh_at
   ·rcases List.mem_cons.mp hy with rfl | hy
    ·exact it_ h1
    ·exact it_ (h3 y hy)
  ·obtain ⟨r, hr, rfl⟩ := List.mem_map.mp hw
   obtain ⟨h1, h2⟩ := t.nm.ws r hr
   refine ⟨by simp [wW], fun y hy => ?_⟩
   rcases List.mem_cons.mp hy with rfl | hy
   ·exact oE_
   ·rcases List.mem_cons.mp hy with rfl | hy
    ·exact it_ h1
    ·rw [List.mem_singleton.mp hy]
     exact sh_fr h2
theorem gD_ {n c : Nat} (hc : Sep c) : ∀ {ws : List Str}, (∀ y ∈ ws, Run n (cs y)) → Run n (cs (Str.join (onec c) ws))
 | [], _ => Run.of_len (Nat.zero_le _)
 | [y], h => h y (by simp)
 | y :: z :: ws, h => by
  rw [bx_]
  exact Run.sep hc (h y (by simp)) (gD_ hc fun q hq => h q (List.mem_cons_of_mem _ hq))
theorem gE_ {c : Nat} (hc : c < 128) : ∀ {ws : List Str}, (∀ y ∈ ws, ∀ d ∈ cs y, d < 128) → ∀ d ∈ cs (Str.join (onec c) ws), d < 128
 | [], _, d, hd => by cases hd
 | [y], h, d, hd => h y (by simp) d hd
 | y :: z :: ws, h, d, hd => by
  rw [bx_] at hd
  rcases List.mem_append.mp hd with hd | hd
  ·exact h y (by simp) d hd
  ·rcases List.mem_cons.mp hd with rfl | hd
   ·exact hc
   ·exact gE_ hc (fun q hq => h q (List.mem_cons_of_mem _ hq)) d hd
theorem kc_ {c : Nat} (hc : isSep c = true) (ws : List Str) : (cs (Str.join (onec c) ws)).countP isSep + 1 ≤ (ws.map fun q => (cs q).countP isSep + 1).sum + 1 := by
 cases ws with
 | nil => exact Nat.le_refl _
 | cons p ps =>
  rw [ir_ hc]
  have : ∀ l : List Str, (l.map fun q => (cs q).countP isSep + 1).sum = (l.map fun q => (cs q).countP isSep).sum + l.length := fun l => by
   induction l with
   | nil => rfl
   | cons a l ih => simp only [List.map_cons, List.sum_cons, List.length_cons, ih]; omega
  rw [this, List.length_cons]
  omega
theorem nj_ {y : Str} (h : Sh y) : (cs y).countP isSep = 0 := List.countP_eq_zero.mpr fun c hc => by
 have := (h.2 c hc).2
 simp [isSep, this.1, this.2]
theorem ln_cp {ws : List Str} (h : ∀ y ∈ ws, Sh y) : (cs (ln ws)).countP isSep ≤ ws.length := by
 unfold ln
 rw [cN_, e_sp]
 have h1 := kc_ (c := 32) rfl ws
 have h2 : (ws.map fun q => (cs q).countP isSep + 1).sum = ws.length := by
  clear h1
  induction ws with
  | nil => rfl
  | cons a l ih =>
   simp only [List.map_cons, List.sum_cons, List.length_cons]
   rw [ih fun y hy => h y (List.mem_cons_of_mem _ hy), nj_ (h a (by simp))]
   omega
 omega
theorem oF_ {N : Net Str} (t : Wn N) : Run 9 (cs (txtN N)) ∧ (∀ c ∈ cs (txtN N), c < 128) := by
 have hs := nU_ t
 unfold txtN
 rw [cN_, e_nl]
 constructor
 ·refine gD_ (.inr rfl) fun y hy => ?_
  obtain ⟨ws, hw, rfl⟩ := List.mem_map.mp hy
  unfold ln
  rw [cN_, e_sp]
  exact gD_ (.inl rfl) fun z hz => Run.of_len ((hs ws hw).2 z hz).1
 ·refine gE_ (by decide) fun y hy => ?_
  obtain ⟨ws, hw, rfl⟩ := List.mem_map.mp hy
  unfold ln
  rw [cN_, e_sp]
  exact gE_ (by decide) fun z hz d hd => (((hs ws hw).2 z hz).2 d hd).1
theorem gF_ {c : Nat} : ∀ (ws : List Str), (Str.join (onec c) ws).length ≤ (ws.map fun q => q.length + 1).sum
 | [] => Nat.zero_le _
 | [y] => by
  show y.length ≤ _
  simp
 | y :: z :: ws => by
  have h := gF_ (c := c) (z :: ws)
  have e := congrArg List.length (bx_ c y z ws)
  rw [ax_, List.length_append, List.length_cons, ax_, ax_] at e
  rw [List.map_cons, List.sum_cons]
  omega
theorem kR_ {α : Type} {f g : α → Nat} : ∀ {l : List α}, (∀ a ∈ l, f a ≤ g a) → (l.map f).sum ≤ (l.map g).sum
 | [], _ => Nat.le_refl _
 | a :: l, h => by
  rw [List.map_cons, List.map_cons, List.sum_cons, List.sum_cons]
  have := h a (by simp)
  have := kR_ (l := l) fun b hb => h b (List.mem_cons_of_mem _ hb)
  omega
theorem mD_ {N : Net Str} (t : Wn N) (ok : NetOk N) : ((wds N).map fun ws => ws.length + 1).sum ≤ 146 := by
 have p6 := t.p6
 have r16 := t.r16
 have w15 := t.w15
 have tot := ok.tot
 have e1 : ∀ l : List (Str × List Str), ((l.map wR).map fun ws => ws.length + 1).sum = (l.map (·.2)).flatten.length + 3 * l.length := fun l => by
  induction l with
  | nil => rfl
  | cons a l ih =>
   simp only [List.map_cons, List.sum_cons, List.length_cons, List.flatten_cons, List.length_append, ih, wR]
   omega
 have e2 : ∀ l : List (Str × (Int × Int)), ((l.map wW).map fun ws => ws.length + 1).sum = 4 * l.length := fun l => by
  induction l with
  | nil => rfl
  | cons a l ih =>
   simp only [List.map_cons, List.sum_cons, List.length_cons, ih, wW, List.length_nil]
   omega
 unfold wds
 rw [List.map_cons, List.sum_cons, List.map_append, List.sum_append, e1, e2]
 have e3 : (wP N).length = N.posts.length + 1 := by unfold wP; rw [List.length_cons]
 have e4 : (N.rows.map (·.2)).flatten.length ≤ 30 := tot
 omega
theorem oG_ {N : Net Str} (t : Wn N) (ok : NetOk N) : (cs (txtN N)).countP isSep ≤ 146 ∧ (txtN N).length ≤ 1606 := by
 have hs := nU_ t
 have hw := mD_ t ok
 unfold txtN
 rw [cN_, e_nl]
 constructor
 ·have h1 := kc_ (c := 10) rfl ((wds N).map ln)
  rw [List.map_map] at h1
  have h2 := kR_ (l := wds N) (f := (fun q => (cs q).countP isSep + 1) ∘ ln) (g := fun ws => ws.length + 1) fun ws hws => Nat.succ_le_succ (ln_cp (hs ws hws).2)
  omega
 ·have h1 := gF_ (c := 10) ((wds N).map ln)
  rw [List.map_map] at h1
  have h2 := kR_ (l := wds N) (f := (fun q => q.length + 1) ∘ ln) (g := fun ws => 11 * (ws.length + 1)) fun ws hws => by
   show (ln ws).length + 1 ≤ _
   unfold ln
   rw [cN_, e_sp]
   have h3 := gF_ (c := 32) ws
   have h4 := kR_ (l := ws) (f := fun q => q.length + 1) (g := fun _ => 10) fun y hy => by have := ((hs ws hws).2 y hy).1; show y.length + 1 ≤ 10; omega
   have h5 : (ws.map fun _ => 10).sum = 10 * ws.length := by
    clear h4 h3 hws
    induction ws with
    | nil => rfl
    | cons a l ih => simp only [List.map_cons, List.sum_cons, List.length_cons, ih]; omega
   omega
  have h6 : ((wds N).map fun ws => 11 * (ws.length + 1)).sum = 11 * ((wds N).map fun ws => ws.length + 1).sum := by
   generalize wds N = l
   induction l with
   | nil => rfl
   | cons a l ih => simp only [List.map_cons, List.sum_cons, ih]; omega
  omega
structure Dr (x : Str) : Prop where
 len : x.length ≤ 1606
 few : (cs x).countP isSep ≤ 146
 low : ∀ c ∈ cs x, c < 128
 run : Run 9 (cs x)
theorem Dr.ok {x : Str} (h : Dr x) : TOk x := ⟨by have := h.len; omega, by have := h.few; omega, h.low, h.run.mono (by decide)⟩
theorem nV_ (c : Nat) : cs (onec c) = [c] := rfl
theorem nW_ {x : Str} (d : Dr x) {a b y : Str} (ha : cs a <:+: cs x) (hb : cs b <:+: cs x) {c : Nat} (hc : c < 128) (hy : y = a ++ onec c ++ b) : TOk y := by
 have e : cs y = cs a ++ [c] ++ cs b := by rw [hy, eP_, eP_, nV_]
 have la := ha.length_le
 have lb := hb.length_le
 have := d.len
 rw [ax_] at la lb
 have ca := cV_ ha
 have cb := cV_ hb
 have := d.few
 refine ⟨?_, ?_, ?_, ?_⟩
 ·have := congrArg List.length e
  rw [ax_, List.length_append, List.length_append, ax_, ax_, List.length_singleton] at this
  rw [ax_] at la lb
  omega
 ·rw [e, List.countP_append, List.countP_append]
  have : [c].countP isSep ≤ 1 := List.countP_le_length
  omega
 ·rw [e]
  intro k hk
  rcases List.mem_append.mp hk with hk | hk
  ·rcases List.mem_append.mp hk with hk | hk
   ·exact d.low k (ha.mem hk)
   ·rw [List.mem_singleton.mp hk]; exact hc
  ·exact d.low k (hb.mem hk)
 ·rw [e]
  exact (((d.run.part ha).app (Run.of_len (n := 1) (Nat.le_refl _))).app (d.run.part hb)).mono (by decide)
theorem oH_ {x : Str} (d : Dr x) {a b y : Str} (ha : cs a <:+: cs x) (hb : cs b <:+: cs x) (hy : y = a ++ b) : TOk y := by
 have e : cs y = cs a ++ cs b := by rw [hy, eP_]
 have la := ha.length_le
 have lb := hb.length_le
 have := d.len
 rw [ax_] at la lb
 have ca := cV_ ha
 have cb := cV_ hb
 have := d.few
 refine ⟨?_, ?_, ?_, ?_⟩
 ·have := congrArg List.length e
  rw [ax_, List.length_append, ax_, ax_] at this
  rw [ax_] at la lb
  omega
 ·rw [e, List.countP_append]
  omega
 ·rw [e]
  intro k hk
  rcases List.mem_append.mp hk with hk | hk
  ·exact d.low k (ha.mem hk)
  ·exact d.low k (hb.mem hk)
 ·rw [e]
  exact ((d.run.part ha).app (d.run.part hb)).mono (by decide)
def wt (f : Str → Nat) (ws : List Str) : Nat := (ws.map f).sum
def f1 (q : Str) : Nat := q.length + 1
def f2 (q : Str) : Nat := (cs q).countP isSep + 1
structure Wk (B1 B2 : Nat) (ws : List Str) : Prop where
 l1 : wt f1 ws ≤ B1
 l2 : wt f2 ws ≤ B2
 w : ∀ y ∈ ws, Run 9 (cs y) ∧ ∀ c ∈ cs y, c < 128
theorem mE_ (f : Str → Nat) (v : Str) : ∀ (ws : List Str) (i : Nat), wt f (ws.set i v) ≤ wt f ws + f v
 | [], _ => Nat.le_add_right _ _
 | a :: ws, 0 => by
  show f v + wt f ws ≤ f a + wt f ws + f v
  omega
 | a :: ws, i + 1 => by
  have := mE_ f v ws i
  show f a + wt f (ws.set i v) ≤ f a + wt f ws + f v
  omega
theorem gh_ (f : Str → Nat) {v : Str} : ∀ {ws : List Str}, v ∈ ws → f v ≤ wt f ws
 | a :: ws, h => by
  show f v ≤ f a + wt f ws
  rcases List.mem_cons.mp h with rfl | h
  ·omega
  ·have := gh_ f h
   omega
theorem pm_ (f : Str → Nat) (a b : List Str) : wt f (a ++ b) = wt f a + wt f b := by
 unfold wt
 rw [List.map_append, List.sum_append]
theorem nX_ (f : Str → Nat) (v : Str) (ws : List Str) (i : Nat) : wt f (ws.take i ++ v :: ws.drop i) = wt f ws + f v := by
 have h := congrArg (wt f) (List.take_append_drop i ws)
 rw [pm_] at h ⊢
 have : wt f (v :: ws.drop i) = f v + wt f (ws.drop i) := rfl
 omega
theorem iu_ (f : Str → Nat) : ∀ (ws : List Str) (i : Nat), wt f (ws.eraseIdx i) ≤ wt f ws
 | [], _ => Nat.le_refl _
 | a :: ws, 0 => by
  show wt f ws ≤ f a + wt f ws
  omega
 | a :: ws, i + 1 => by
  have := iu_ f ws i
  show f a + wt f (ws.eraseIdx i) ≤ f a + wt f ws
  omega
theorem mF_ {B1 B2 C1 C2 : Nat} {ws : List Str} (h : Wk B1 B2 ws) {v : Str} (i : Nat) (h1 : f1 v ≤ C1) (h2 : f2 v ≤ C2) (hv : Run 9 (cs v) ∧ ∀ c ∈ cs v, c < 128) : Wk (B1 + C1) (B2 + C2) (ws.set i v) :=
 ⟨by have := mE_ f1 v ws i; have := h.l1; omega, by have := mE_ f2 v ws i; have := h.l2; omega, fun y hy => (List.mem_or_eq_of_mem_set hy).elim (h.w y) fun e => e ▸ hv⟩
theorem pn_ {B1 B2 C1 C2 : Nat} {ws : List Str} (h : Wk B1 B2 ws) {v : Str} (i : Nat) (h1 : f1 v ≤ C1) (h2 : f2 v ≤ C2) (hv : Run 9 (cs v) ∧ ∀ c ∈ cs v, c < 128) : Wk (B1 + C1) (B2 + C2) (ws.take i ++ v :: ws.drop i) :=
 ⟨by have := nX_ f1 v ws i; have := h.l1; omega, by have := nX_ f2 v ws i; have := h.l2; omega, fun y hy => by
  rcases List.mem_append.mp hy with hy | hy
  ·exact h.w y (List.mem_of_mem_take hy)
  ·rcases List.mem_cons.mp hy with rfl | hy
   ·exact hv
   ·exact h.w y (List.mem_of_mem_drop hy)⟩
theorem nk_ {B1 B2 : Nat} {ws : List Str} (h : Wk B1 B2 ws) (i : Nat) : Wk B1 B2 (ws.eraseIdx i) :=
 ⟨Nat.le_trans (iu_ f1 ws i) h.l1, Nat.le_trans (iu_ f2 ws i) h.l2, fun y hy => h.w y ((List.eraseIdx_sublist ws i).subset hy)⟩
theorem Wk.mono {A1 A2 B1 B2 : Nat} {ws : List Str} (h : Wk A1 A2 ws) (h1 : A1 ≤ B1) (h2 : A2 ≤ B2) : Wk B1 B2 ws := ⟨Nat.le_trans h.l1 h1, Nat.le_trans h.l2 h2, h.w⟩
theorem mG_ (f : Str → Nat) (hf : ∀ q, 1 ≤ f q) : ∀ ws : List Str, ws.length ≤ wt f ws
 | [] => Nat.le_refl _
 | a :: ws => by
  have := mG_ f hf ws
  have := hf a
  show ws.length + 1 ≤ f a + wt f ws
  omega
theorem mH_ {c : Nat} : ∀ (p : Str) (ps : List Str), (Str.join (onec c) (p :: ps)).length + 1 = wt f1 (p :: ps)
 | p, [] => by
  show p.length + 1 = p.length + 1 + 0
  rfl
 | p, q :: ps => by
  have h := mH_ (c := c) q ps
  have e := congrArg List.length (bx_ c p q ps)
  rw [ax_, List.length_append, List.length_cons, ax_, ax_] at e
  show _ = p.length + 1 + wt f1 (q :: ps)
  omega
theorem wt_f2 (l : List Str) : wt f2 l = (l.map fun q => (cs q).countP isSep).sum + l.length := by
 induction l with
 | nil => rfl
 | cons a l ih =>
  show f2 a + wt f2 l = _
  rw [ih, List.map_cons, List.sum_cons, List.length_cons]
  unfold f2
  omega
theorem nl_ {x : Str} (d : Dr x) {c : Nat} (hc : isSep c = true) (h6 : c < 256) : Wk 1607 147 (Txt.split x (onec c)) := by
 have h1 := StrLaws.join_split x (onec c)
 obtain ⟨hne, hp⟩ := bd_ (x := x) (c := c) h6
 generalize Txt.split x (onec c) = rs at *
 cases rs with
 | nil => exact absurd rfl hne
 | cons p ps =>
  refine ⟨?_, ?_, fun y hy => ⟨d.run.part (hp y hy).2, fun k hk => d.low k ((hp y hy).2.mem hk)⟩⟩
  ·rw [← mH_ (c := c), h1]
   have := d.len
   omega
  ·have := ir_ hc p ps
   rw [h1] at this
   rw [wt_f2, List.length_cons]
   have := d.few
   omega
theorem wk_ok {ws : List Str} (h : Wk 4821 441 ws) {c : Nat} (hc : isSep c = true) : TOk (Txt.join (onec c) ws) ∧ JoinOk (onec c) ws = true := by
 have hs : Sep c := by
  unfold isSep at hc
  rcases Bool.or_eq_true_iff.mp hc with h | h
  ·exact .inl (eq_of_beq h)
  ·exact .inr (eq_of_beq h)
 have hw := h.w
 have l1 := h.l1
 have l2 := h.l2
 rw [cN_]
 constructor
 ·refine ⟨?_, ?_, gE_ (by rcases hs with rfl | rfl <;> decide) fun y hy => (hw y hy).2, (gD_ hs fun y hy => (hw y hy).1).mono (by decide)⟩
  ·have := gF_ (c := c) ws
   unfold wt f1 at l1
   omega
  ·have := kc_ hc ws
   unfold wt f2 at l2
   omega
 ·unfold JoinOk
  rw [StrLaws.joinFits (B := 4821) (fun y hy => by have : y.length + 1 ≤ wt f1 ws := gh_ f1 hy; omega) ?_]
  ·rfl
  ·have := mG_ f2 (fun q => Nat.succ_le_succ (Nat.zero_le _)) ws
   have e : (onec c).length = 1 := rfl
   rw [e]
   omega
def mores : List Str := [("1" : Str), ("0/1" : Str), ("1/2" : Str), ("2/4" : Str), ("-1/2" : Str), ("1/0" : Str), ("01/2" : Str), ("3/1" : Str), ("rim" : Str), ("at" : Str), ("wire" : Str), ("a" : Str), ("A" : Str)]
def mores2 : List Str := [("abcdefghi" : Str), ("" : Str), ("+1/2" : Str)]
theorem nm_ : ∀ y ∈ mores ++ mores2, y.length ≤ 9 ∧ (∀ c ∈ cs y, c < 128) ∧ f1 y ≤ 10 ∧ f2 y ≤ 10 := by decide +kernel
open Builtin.Str in
theorem lh_ {z : Str} {a : Nat} (h : z.length ≤ a) : cs (Txt.slice z (some (a : Int)) none) = [] := by
 have e : strSliceIndices (some (a : Int)) none 1 z.length = [] := by
  unfold strSliceIndices
  simp only [show (1 : Int) > 0 by decide, if_true]
  unfold sliceRange
  rw [if_pos (by decide), if_neg (by split <;> omega)]
  rfl
 unfold Txt.slice
 rw [e]
 split
 ·rename_i h
  have h2 := (Bool.and_eq_true_iff.mp h).2
  have : z.length = 0 := by simpa using (eq_of_beq h2).symm
  exact List.eq_nil_of_length_eq_zero this
 ·rfl
theorem nn_ (p q : Str) (r : List Str) : cs (Str.join Str.empty (p :: q :: r)) = cs p ++ cs (Str.join Str.empty (q :: r)) := by
 show cs (p ++ Str.empty ++ Str.join Str.empty (q :: r)) = _
 rw [eP_, eP_, show cs Str.empty = [] from rfl, List.append_nil]
theorem joinE : ∀ {ts : List Str}, (∀ y ∈ ts, ∃ c, y = onec c ∧ c < 128) → (cs (Str.join Str.empty ts)).length = ts.length ∧ ∀ c ∈ cs (Str.join Str.empty ts), c < 128
 | [], _ => ⟨rfl, fun c hc => by cases hc⟩
 | [y], h => by
  obtain ⟨c, rfl, hc⟩ := h y (by simp)
  refine ⟨rfl, fun d hd => ?_⟩
  rw [List.mem_singleton.mp (show d ∈ [c] from hd)]
  exact hc
 | y :: z :: ws, h => by
  obtain ⟨c, rfl, hc⟩ := h y (by simp)
  obtain ⟨h1, h2⟩ := joinE (ts := z :: ws) fun q hq => h q (List.mem_cons_of_mem _ hq)
  rw [nn_]
  refine ⟨by rw [List.length_append, h1]; simp [nV_]; omega, fun d hd => ?_⟩
  rcases List.mem_append.mp hd with hd | hd
  ·rw [List.mem_singleton.mp (show d ∈ [c] from hd)]
   exact hc
  ·exact h2 d hd
theorem po_ {ts : List Str} (hl : ts.length ≤ 12) (h : ∀ y ∈ ts, ∃ c, y = onec c ∧ c < 128) : TOk (Txt.join (Str.ofString "") ts) ∧ JoinOk (Str.ofString "") ts = true := by
 obtain ⟨h1, h2⟩ := joinE h
 have ee : Str.ofString "" = Str.empty := by decide +kernel
 rw [ee, cN_]
 refine ⟨⟨by rw [← ax_, h1]; omega, Nat.le_trans List.countP_le_length (by rw [h1]; omega), h2, Run.of_len (by rw [h1]; omega)⟩, ?_⟩
 unfold JoinOk
 rw [StrLaws.joinFits (B := 1) (fun y hy => by obtain ⟨c, rfl, _⟩ := h y hy; exact Nat.le_refl _) (by rw [show Str.empty.length = 0 from rfl]; omega)]
 rfl
theorem fU_ (z : Int) {n : Nat} (h : 0 < n) : ∃ m : Nat, z % (n : Int) = m ∧ m < n := by
 have a1 := Int.emod_nonneg z (show (n : Int) ≠ 0 by omega)
 have a2 := Int.emod_lt_of_pos z (show (0 : Int) < (n : Int) by omega)
 exact ⟨(z % (n : Int)).toNat, by omega, by omega⟩
theorem no_ {k : L2.St → Hp → Prop} {σ : L2.St} {H : Hp} {a : Addr} {o o' : HO} (e : o' = o) (h : k σ (upd H a o)) : k σ (upd H a o') := e ▸ h
theorem mI_ {k : L2.St → Hp → Prop} {σ : L2.St} {H : Hp} {a b : Addr} {o o' p : HO} (e : o' = o) (h : k σ (upd (upd H a o) b p)) : k σ (upd (upd H a o') b p) := e ▸ h
theorem mJ_ {H : Hp} {a b : Addr} {xs ys : List V} {Q : VK} (ha : H a = some (.tup xs)) (hb : H b = some (.tup ys)) (hx : xs ≠ []) (hy : ys ≠ []) (hl : xs.length + ys.length ≤ sizeLine) (q : ∀ p, H p = none → Q (.ref p) (upd H p (.tup (xs ++ ys)))) : rCatTK K (.ref a) (.ref b) H Q :=
 ⟨a, b, xs, ys, rfl, rfl, .inl (.inl ha), .inl (.inl hb), hx, hl, fun z => absurd z hy, fun _ => q⟩
theorem kd_ {n i : Nat} (h : i < n) : ixN n (i : Int) = some i := by
 unfold ixN
 rw [if_pos (by omega), if_pos (by omega), Int.toNat_natCast]
theorem hr_ {ws : List Str} {i : Nat} (h : i < ws.length) : (ws.map V.str)[i]? = some (V.str ws[i]) ∧ atI (ws.map V.str) (i : Int) = some (V.str ws[i]) ∧ ws[i] ∈ ws :=
 have e : (ws.map V.str)[i]? = some (V.str ws[i]) := by rw [List.getElem?_map, List.getElem?_eq_getElem h]; rfl
 ⟨e, b9_ (by omega) (by rw [Int.toNat_natCast]; exact e), List.getElem_mem h⟩
theorem jq_ : ∀ (ws : List Str) (i : Nat), (ws.map V.str).eraseIdx i = (ws.eraseIdx i).map V.str
 | [], _ => rfl
 | _ :: _, 0 => rfl
 | a :: ws, i + 1 => by
  show V.str a :: (ws.map V.str).eraseIdx i = V.str a :: (ws.eraseIdx i).map V.str
  rw [jq_ ws i]
abbrev s_Lodd : Stmt := stN 50
theorem di_ : FnScope ["_law_text", "_law_big_here", "_law_kind", "_law_place", "_law_parting", "_law_words", "_law_at", "_law_more", "_law_other"] ["_law_text", "_law_big_here"] (defScope s_Lodd) := ⟨rfl, rfl, rfl, by decide +kernel, rfl, by decide +kernel, by decide +kernel⟩
theorem bL_ : LK s_Lodd "_law_text" .local := by decide +kernel
theorem bk_ : LK s_Lodd "_law_big_here" .cell := by decide +kernel
theorem cW_ : LK s_Lodd "_law_kind" .local := by decide +kernel
theorem cj_ : LK s_Lodd "_law_place" .local := by decide +kernel
theorem hs_ : LK s_Lodd "_law_parting" .local := by decide +kernel
theorem a9_ : LK s_Lodd "_law_words" .local := by decide +kernel
theorem dw_ : LK s_Lodd "_law_at" .local := by decide +kernel
theorem ev_ : LK s_Lodd "_law_more" .local := by decide +kernel
theorem ht_ : LK s_Lodd "_law_other" .local := by decide +kernel
theorem fB_ : LK s_Lodd "_law_sign" .globalImplicit := by decide +kernel
theorem b0_ : LK s_Lodd "len" .globalImplicit := by decide +kernel
theorem iv_ : LK s_Lodd "range" .globalImplicit := by decide +kernel
def sp_odd : Sp := fun vs H Q _ => ∃ (x : Str) (z : Int), vs = [.str x, .int z] ∧ Dr x ∧ ∀ y, TOk y → ∀ H', Same H H' → Q (.str y) H'
theorem oI_ (T : Txt K mg) (F : Fn0 K mg "_law_odd" s_Lodd) (C_Lsign : Cal P w K mg base "_law_sign" ["_law_big_here"] 1 sp_sg) : Cal P w K mg base "_law_odd" ["_law_text", "_law_big_here"] 2 sp_odd := by
 refine aW_ F di_ (fun _ _ _ _ _ _ us hl => match us, hl with | [_, _], _ => rfl) ?len ?body
 case len => rintro vs H Q E ⟨a, z, rfl, _⟩; rfl
 case body =>
  intro f cdv A outer s H vs Q E hr h
  obtain ⟨x, z, rfl, dr, k⟩ := h
  refine' ⟨_, ?D, ?R⟩
  case D =>
   refine' aa_ ?g1 ?g2
   case' g1 => refine' af_ (i := 2) di_.nd rfl cW_ ?g3
   case' g3 => refine' pe_op aw_ (pvc 1 rfl bk_) ac_
   case' g2 => refine' aa_ ?g6 ?g7
   case' g6 => refine' af_ (i := 3) di_.nd rfl cj_ ?g8
   case' g8 => refine' pe_op aw_ ?g9 ?g10
   case' g9 => refine' pe_op an_ (pvc 1 rfl bk_) ac_
   case' g10 => refine' pe_op aM_ ?g13 ac_
   case' g13 => refine' ah_ aY_ b0_ T.n_len aG_ ?g15
   case' g15 => refine' pa_c (pv1 0 rfl bL_) ab_
   case' g7 => refine' aa_ ?g18 ?g19
   case' g18 => refine' hZ_ (i := 1) di_.nd rfl bk_ rfl ?g20 rfl
   case' g20 => refine' pe_op an_ ?g21 ?g22
   case' g21 => refine' pe_op an_ (pvc 1 rfl bk_) ac_
   case' g22 => refine' pe_op aM_ ?g25 ac_
   case' g25 => refine' ah_ aY_ b0_ T.n_len aG_ ?g27
   case' g27 => refine' pa_c (pv1 0 rfl bL_) ab_
   case' g19 => refine' aa_ ?g30 ?g31
   case' g30 => refine' ps_if ?g32 ?g33 ar_
   case' g32 => refine' ak_ op_lt (pv1 2 rfl cW_) ac_ (nomark _)
   case' g33 => refine' ae_ ?g37
   case' g37 => refine' ao_ ?g38
   case' g38 => refine' pe_op bl_ ?g39 ?g40
   case' g39 => refine' pe_op bl_ ?g41 ?g42
   case' g41 => refine' aL_ db_ (pv1 0 rfl bL_) ?g44 ?g45
   case g44 => exact a2_
   case' g45 => refine' aV_ (pv1 3 rfl cj_)
   case' g42 => refine' al_ C_Lsign (hr.mono (by decide)) fB_ ?g47
   case' g47 => refine' pa_c (pvc 1 rfl bk_) ab_
   case' g40 => refine' aL_ db_ (pv1 0 rfl bL_) ?g51 ?g52
   case' g51 => refine' aV_ (pv1 3 rfl cj_)
   case g52 => exact a2_
   case' g31 => refine' aa_ ?g54 ?g55
   case' g54 => refine' ps_if ?g56 ?g57 ar_
   case' g56 => refine' ak_ op_lt (pv1 2 rfl cW_) ac_ (nomark _)
   case' g57 => refine' ae_ ?g61
   case' g61 => refine' ao_ ?g62
   case' g62 => refine' pe_op bl_ ?g63 ?g64
   case' g63 => refine' pe_op bl_ ?g65 ?g66
   case' g65 => refine' aL_ db_ (pv1 0 rfl bL_) ?g68 ?g69
   case g68 => exact a2_
   case' g69 => refine' aV_ (pv1 3 rfl cj_)
   case' g66 => refine' al_ C_Lsign (hr.mono (by decide)) fB_ ?g71
   case' g71 => refine' pa_c (pvc 1 rfl bk_) ab_
   case' g64 => refine' aL_ db_ (pv1 0 rfl bL_) ?g75 ?g76
   case' g75 => refine' aV_ ?g77
   case' g77 => refine' pe_op aM_ (pv1 3 rfl cj_) ac_
   case g76 => exact a2_
   case' g55 => refine' aa_ ?g80 ?g81
   case' g80 => refine' ps_if ?g82 ?g83 ar_
   case' g82 => refine' ak_ op_eq (pv1 2 rfl cW_) ac_ (nomark _)
   case' g83 => refine' ae_ ?g87
   case' g87 => refine' ao_ ?g88
   case' g88 => refine' pe_op bl_ ?g89 ?g90
   case' g89 => refine' aL_ db_ (pv1 0 rfl bL_) ?g92 ?g93
   case g92 => exact a2_
   case' g93 => refine' aV_ (pv1 3 rfl cj_)
   case' g90 => refine' aL_ db_ (pv1 0 rfl bL_) ?g96 ?g97
   case' g96 => refine' aV_ ?g98
   case' g98 => refine' pe_op aM_ (pv1 3 rfl cj_) ac_
   case g97 => exact a2_
   case' g81 => refine' aa_ ?g101 ?g102
   case' g101 => refine' ps_if ?g103 ?g104 ar_
   case' g103 => refine' ak_ op_eq (pv1 2 rfl cW_) ac_ (nomark _)
   case' g104 => refine' ae_ ?g108
   case' g108 => refine' ao_ ?g109
   case' g109 => refine' dZ_ (K := K) rfl PySem.F.plainAttrs_str PySem.F.slot_str_join PySem.F.type_str_join ia_ aF_ ?g111
   case' g111 => refine' pa_c ?g112 ab_
   case' g112 => refine' cC_ (N' := ["_law_k", "_law_big_here"]) (ix := [none, some 1]) rfl rfl (bN_ ?g114) ?g115 (fun _ _ _ => ?g116) (fun _ _ _ => ?g117) (fun _ _ _ => ?g118)
   case g114 => exact (by show scpB (defScope s_Lodd) ["_law_text", "_law_big_here", "_law_kind", "_law_place", "_law_parting", "_law_words", "_law_at", "_law_more", "_law_other"] _ _ _ = true; decide +kernel)
   case' g115 => refine' bg_ iv_ T.n_range ?g119
   case' g119 => refine' pa_c ?g120 ab_
   case' g120 => refine' pe_op aw_ (pvc 1 rfl bk_) ac_
   case g116 => exact aj_ (i := 0) (by show List.Nodup (["_law_k", "_law_big_here"] : List Str); decide +kernel) rfl rfl
   case g117 => exact c0_
   case' g118 => refine' al_ C_Lsign (hr.mono (by decide)) rfl ?g124
   case' g124 => refine' pa_c ?g125 ab_
   case' g125 => refine' pe_op an_ (pvc 1 rfl rfl) ?g128
   case' g128 => refine' pe_op aM_ ?g129 ac_
   case' g129 => refine' pe_op iB_ ac_ (pv1 0 rfl rfl)
   case' g102 => refine' az_ ?g133 ?g134
   case' g133 => refine' af_ (i := 4) di_.nd rfl hs_ ?g135
   case' g135 => refine' pe_ix bc_ ?g136 ?g137 (fun _ _ => rfl)
   case' g136 => refine' aO_ ?g138
   case' g138 => refine' pa_c aF_ ?g140
   case' g140 => refine' pa_c aF_ ab_
   case' g137 => refine' pe_op aw_ (pv1 2 rfl cW_) ac_
   case' g134 => refine' az_ ?g145 ?g146
   case' g145 => refine' af_ (i := 5) di_.nd rfl a9_ ?g147
   case' g147 => refine' dZ_ (K := K) rfl PySem.F.plainAttrs_str PySem.F.slot_str_split PySem.F.type_str_split eB_ (pv1 0 rfl bL_) ?g149
   case' g149 => refine' pa_c (pv1 4 rfl hs_) ab_
   case' g146 => refine' az_ ?g152 ?g153
   case' g152 => refine' af_ (i := 6) di_.nd rfl dw_ ?g154
   case' g154 => refine' pe_op aw_ (pv1 3 rfl cj_) ?g156
   case' g156 => refine' ah_ ap_ b0_ T.n_len aG_ ?g157
   case' g157 => refine' pa_c (pv1 5 rfl a9_) ab_
   case' g153 => refine' az_ ?g160 ?g161
   case' g160 => refine' af_ (i := 7) ?g162 ?g163 ?g164 ?g165 ?g166
   case g162 => exact di_.nd
   case g163 => exact rfl
   case g164 => exact ev_
   case g165 => exact (by refine' mc_ (xs := [("1" : Str), ("0/1" : Str), ("1/2" : Str), ("2/4" : Str), ("-1/2" : Str), ("1/0" : Str), ("01/2" : Str), ("3/1" : Str), ("rim" : Str), ("at" : Str), ("wire" : Str), ("a" : Str), ("A" : Str)]) ?_ ?_ <;> decide +kernel)
   case g166 => exact rfl
   case' g161 => refine' az_ ?g167 ?g168
   case' g167 => refine' af_ (i := 7) ?g169 ?g170 ?g171 ?g172 ?g173
   case g169 => exact di_.nd
   case g170 => exact rfl
   case g171 => exact ev_
   case' g172 => refine' pe_op (mY_ (K := K) rfl) (pv1 7 rfl ev_) ?g175
   case g175 => exact (by refine' mc_ (xs := [("abcdefghi" : Str), ("" : Str), ("+1/2" : Str)]) ?_ ?_ <;> decide +kernel)
   case g173 => exact rfl
   case' g168 => refine' az_ ?g176 ?g177
   case' g176 => refine' fe_ ?g178
   case' g178 => refine' ps_if ?g179 ?g180 ?g181
   case' g179 => refine' ak_ op_lt (pv1 2 rfl cW_) ac_ (nomark _)
   case' g180 => refine' az_ ?g184 ?g185
   case' g184 => refine' af_ (i := 8) di_.nd rfl ht_ ?g186
   case' g186 => refine' pe_op aw_ (pvc 1 rfl bk_) ?g188
   case' g188 => refine' ah_ ap_ b0_ T.n_len aG_ ?g189
   case' g189 => refine' pa_c (pv1 5 rfl a9_) ab_
   case' g185 => refine' ae_ ?g192
   case' g192 => refine' fd_ ?g193 ?g194
   case' g193 => refine' aO_ ?g195
   case' g195 => refine' pa_c ?g196 ?g197
   case' g196 => refine' pe_ix am_ (pv1 5 rfl a9_) (pv1 8 rfl ht_) (fun _ _ => rfl)
   case' g197 => refine' pa_c ?g200 ab_
   case' g200 => refine' pe_ix am_ (pv1 5 rfl a9_) (pv1 6 rfl dw_) (fun _ _ => rfl)
   case' g194 => refine' bS_ (K := K) (n := 2) rfl rfl ?g204
   case' g204 => refine' aB_ ?g205 ?g206
   case' g205 => refine' ki_ (pv1 5 rfl a9_) (pv1 6 rfl dw_) gt_
   case' g206 => refine' aB_ ?g209 bQ_
   case' g209 => refine' ki_ (pv1 5 rfl a9_) (pv1 8 rfl ht_) gt_
   case' g181 => refine' ae_ ?g213
   case' g213 => refine' ps_if ?g214 ?g215 ?g216
   case' g214 => refine' ak_ op_eq ?g217 ac_ (nomark _)
   case' g217 => refine' pe_op aw_ (pvc 1 rfl bk_) ac_
   case' g215 => refine' ae_ ?g221
   case' g221 => refine' aZ_ ?g222
   case' g222 => refine' pe_bm PySem.F.plainAttrs_list PySem.F.slot_list_insert PySem.F.type_list_insert gX_ (pv1 5 rfl a9_) ?g224
   case' g224 => refine' pa_c (pv1 6 rfl dw_) ?g226
   case' g226 => refine' pa_c ?g227 ab_
   case' g227 => refine' pe_ix am_ (pv1 5 rfl a9_) ?g230 (fun _ _ => rfl)
   case' g230 => refine' pe_op aw_ ?g231 ?g232
   case' g231 => refine' pe_op an_ (pvc 1 rfl bk_) ac_
   case' g232 => refine' ah_ ap_ b0_ T.n_len aG_ ?g235
   case' g235 => refine' pa_c (pv1 5 rfl a9_) ab_
   case' g216 => refine' ae_ ?g238
   case' g238 => refine' ps_if ?g239 ?g240 ?g241
   case' g239 => refine' ak_ op_eq ?g242 ac_ (nomark _)
   case' g242 => refine' pe_op aw_ (pvc 1 rfl bk_) ac_
   case' g240 => refine' ae_ ?g246
   case' g246 => refine' aZ_ ?g247
   case' g247 => refine' pe_bm PySem.F.plainAttrs_list PySem.F.slot_list_pop PySem.F.type_list_pop km_ (pv1 5 rfl a9_) ?g249
   case' g249 => refine' pa_c (pv1 6 rfl dw_) ab_
   case' g241 => refine' ae_ ?g252
   case' g252 => refine' fd_ ?g253 (ki_ (pv1 5 rfl a9_) (pv1 6 rfl dw_) gt_)
   case' g253 => refine' pe_ix bc_ (pv1 7 rfl ev_) ?g257 (fun _ _ => rfl)
   case' g257 => refine' pe_op aw_ ?g258 ?g259
   case' g258 => refine' pe_op an_ (pvc 1 rfl bk_) ac_
   case' g259 => refine' ah_ ap_ b0_ T.n_len aG_ ?g262
   case' g262 => refine' pa_c (pv1 7 rfl ev_) ab_
   case' g177 => refine' ae_ ?g265
   case' g265 => refine' ao_ ?g266
   case' g266 => refine' dZ_ (K := K) rfl PySem.F.plainAttrs_str PySem.F.slot_str_join PySem.F.type_str_join ia_ (pv1 4 rfl hs_) ?g268
   case' g268 => refine' pa_c (pv1 5 rfl a9_) ab_
  case R =>
   walk_at "rd"
   have xl := dr.len
   obtain ⟨pl, hpl, lpl⟩ := fU_ (z / 10) (n := x.length + 1) (by omega)
   have ex : ((x.length : Nat) : Int) + 1 = ((x.length + 1 : Nat) : Int) := by omega
   rw [ex, hpl]
   have sl : (16777216 : Nat) = sizeLine := by decide
   have lg : ((x.length + 1 : Nat) : Int).natAbs.log2 < 9000 := by
    have : x.length + 1 < 2 ^ 11 := by omega
    exact Nat.lt_trans ((Nat.log2_lt (by omega)).mpr this) (by decide)
   have c0 : cs (Txt.slice x none (some (pl : Int))) = (cs x).take pl := by
    rw [dD_ (a := 0) (b := pl) (Nat.zero_le _) (by omega) (.inr ⟨rfl, rfl⟩) (.inl rfl)]
    simp
   have c1 : cs (Txt.slice x (some (pl : Int)) none) = (cs x).drop pl := by
    rw [dD_ (a := pl) (b := x.length) (by omega) (Nat.le_refl _) (.inl rfl) (.inr ⟨rfl, rfl⟩)]
    rw [← ax_, ← List.length_drop, List.take_length]
   have i0 : cs (Txt.slice x none (some (pl : Int))) <:+: cs x := by rw [c0]; exact (List.take_prefix _ _).isInfix
   have i1 : cs (Txt.slice x (some (pl : Int)) none) <:+: cs x := by rw [c1]; exact (List.drop_suffix _ _).isInfix
   have i2 : cs (Txt.slice x (some ((pl : Int) + 1)) none) <:+: cs x := by
    rw [show (pl : Int) + 1 = ((pl + 1 : Nat) : Int) from rfl]
    by_cases h : pl + 1 ≤ x.length
    ·rw [dD_ (a := pl + 1) (b := x.length) (by omega) (Nat.le_refl _) (.inl rfl) (.inr ⟨rfl, rfl⟩), ← ax_, ← List.length_drop, List.take_length]
     exact (List.drop_suffix _ _).isInfix
    ·rw [lh_ (by omega)]
     exact List.nil_infix
   have l0 := i0.length_le
   have l1 := i1.length_le
   have l2 := i2.length_le
   rw [ax_, ax_] at l0 l1 l2
   have lo1 : ∀ c, (onec c).length = 1 := fun _ => rfl
   generalize Txt.slice x none (some (pl : Int)) = t0 at *
   generalize Txt.slice x (some (pl : Int)) none = t1 at *
   generalize Txt.slice x (some ((pl : Int) + 1)) none = t2 at *
   generalize z / 10 / ((x.length + 1 : Nat) : Int) = z1 at *
   have la : ∀ a b : Str, (a ++ b).length = a.length + b.length := fun a b => by
    have := congrArg List.length (eP_ a b)
    rwa [ax_, List.length_append, ax_, ax_] at this
   refine ⟨by decide, by decide, by decide +kernel, by omega, by omega, by decide, by decide +kernel, by omega, by omega, lg, ite2 (fun h2 => ?_) (fun h2 => ite2 (fun h4 => ?_) (fun h4 => ite2 (fun h4e => ?_) (fun h4e => ite2 (fun h5 => ?_) (fun h5 => ?_))))⟩
   ·refine ⟨by omega, z1, rfl, fun H1 s1 => ⟨_, rfl, ?_, by omega, ?_, k _ (nW_ dr i0 i1 (mB_ z1) rfl) _ s1⟩⟩
    ·rw [lo1]; omega
    ·rw [la, lo1]; omega
   ·refine ⟨by omega, z1, rfl, fun H1 s1 => ⟨_, rfl, ?_, by omega, ?_, k _ (nW_ dr i0 i2 (mB_ z1) rfl) _ s1⟩⟩
    ·rw [lo1]; omega
    ·rw [la, lo1]; omega
   ·exact ⟨by omega, by omega, by omega, k _ (oH_ dr i0 i2 rfl) _ (Same.refl _)⟩
   ·obtain ⟨n, hn, ln⟩ := fU_ z1 (n := 13) (by decide)
    rw [show z1 % 13 = (n : Int) from hn]
    refine ⟨by decide, by omega, by omega, ?_⟩
    rw [Int.toNat_natCast]
    refine b1_ (n := n) (B := H) (Pσ := fun σ => ∃ e, σ = [e, some (.int z1)]) (ds := ((List.range n).map fun i : Nat => onec (sgOf (z1 / (97 * (i : Int) + 1)))).map Dt.str) (Same.refl _) ⟨_, rfl⟩ (by simp) (by omega) (fun j H2 hj s2 => hj) (fun H2 s2 => Nat.le_refl _) ?_ ?_
    ·rintro D2 j y d σ' H2 H2' hD2 hDo hs2 hj hdj ⟨rfl, rfl⟩ ⟨e, rfl⟩ R kR
     have hd : d = Dt.str (onec (sgOf (z1 / (97 * (j : Int) + 1)))) := by
      rw [List.getElem?_map, List.getElem?_map, List.getElem?_range hj] at hdj
      exact (Option.some.inj hdj).symm
     walk_at "rd"
     rw [Int.zero_add]
     refine ⟨.inl ⟨by decide, by decide⟩, by omega, ?_, _, rfl, fun H3 s3 => kR _ _ _ ⟨_, rfl⟩ s3 (by rw [hd]; rfl)⟩
     rw [show (97 * (j : Int) + 1).natAbs = 97 * j + 1 by omega]
     exact Nat.lt_trans ((Nat.log2_lt (by omega)).mpr (show 97 * j + 1 < 2 ^ 11 by omega)) (by decide)
    ·intro D2 H2 hD2 s2 rep2
     obtain ⟨_, us, e0, hu', hus⟩ := id rep2
     cases e0
     rw [b5_ hus] at hu'
     have hu := (aJ_ hu').2
     have hj := po_ (ts := (List.range n).map fun i : Nat => onec (sgOf (z1 / (97 * (i : Int) + 1)))) (by simp; omega) (fun y hy => by
      obtain ⟨i, _, rfl⟩ := List.mem_map.mp hy
      exact ⟨_, rfl, mB_ _⟩)
     exact ⟨_, rfl, _, hu, hj.2, k _ hj.1 _ s2⟩
   ·obtain ⟨c, hc, hs, h6⟩ : ∃ c, atI [V.str (Str.ofString " "), V.str (Str.ofString "\n")] (z % 10 % 2) = some (V.str (onec c)) ∧ isSep c = true ∧ c < 256 := by
     have : z % 10 % 2 = 0 ∨ z % 10 % 2 = 1 := by omega
     rcases this with e | e
     ·rw [e, e_sp]
      exact ⟨32, rfl, rfl, by decide⟩
     ·rw [e, e_nl]
      exact ⟨10, rfl, rfl, by decide⟩
    walk_at "rd"
    refine ⟨by decide, fun p np => ⟨by decide, _, hc, ?_⟩⟩
    have S1 := Same.new np (o := HO.tup [V.str (Str.ofString " "), V.str (Str.ofString "\n")])
    generalize upd H p (HO.tup [V.str (Str.ofString " "), V.str (Str.ofString "\n")]) = H1 at *
    walk_at "rd"
    refine ⟨rfl, by omega, fun D nD => ?_⟩
    have wk := nl_ dr hs h6
    have wne := (bd_ (x := x) (c := c) h6).1
    generalize Txt.split x (onec c) = ws at *
    have S2 := Same.new nD (o := HO.lst (ws.map V.str))
    have hD := ad_ (H := H1) (a := D) (o := HO.lst (ws.map V.str))
    have fD := S1.free nD
    have s02 := S1.trans S2
    generalize upd H1 D (HO.lst (ws.map V.str)) = H2 at *
    have wl : 0 < ws.length := List.length_pos_iff.mpr wne
    obtain ⟨at', hat, lat⟩ := fU_ (pl : Int) wl
    walk_at "rd"
    refine ⟨ws.map V.str, .inl hD, by rw [List.length_map]; omega, ?_⟩
    rw [List.length_map, hat]
    walk_at "rd"
    intro m1 nm1
    have S3 := Same.new nm1 (o := HO.tup (mores.map V.str))
    have hm1 := ad_ (H := H2) (a := m1) (o := HO.tup (mores.map V.str))
    refine no_ (o := HO.tup (mores.map V.str)) rfl ?_
    generalize upd H2 m1 (HO.tup (mores.map V.str)) = H3 at *
    walk_at "rd"
    intro m2 nm2
    have S4 := Same.new nm2 (o := HO.tup (mores2.map V.str))
    have hm1' := S4 _ _ hm1
    refine mJ_ hm1' (ys := mores2.map V.str) ad_ (by decide) (by decide) (by decide) fun m3 nm3 => ?_
    have nm3' : upd H3 m2 (HO.tup (mores2.map V.str)) m3 = none := nm3
    have S5 := Same.new nm3' (o := HO.tup (mores.map V.str ++ mores2.map V.str))
    have hm3 := ad_ (H := upd H3 m2 (HO.tup (mores2.map V.str))) (a := m3) (o := HO.tup (mores.map V.str ++ mores2.map V.str))
    refine mI_ (o := HO.tup (mores2.map V.str)) rfl ?_
    have hD5 := (S3.trans (S4.trans S5)) _ _ hD
    have s25 := S3.trans (S4.trans S5)
    generalize upd (upd H3 m2 (HO.tup (mores2.map V.str))) m3 (HO.tup (mores.map V.str ++ mores2.map V.str)) = H5 at *
    rw [← List.map_append] at hm3
    have mok := nm_
    have ml : (mores ++ mores2).length = 16 := rfl
    generalize mores ++ mores2 = mm at *
    have s05 := s02.trans s25
    have wln : ws.length ≤ 147 := Nat.le_trans (mG_ f2 (fun q => Nat.succ_le_succ (Nat.zero_le _)) ws) wk.l2
    walk_at "rd"
    refine ⟨fun σ Hx => ∃ (ws' : List Str) (e : Option V), σ = [some (V.str x), some (V.int z1), some (V.int (z % 10)), some (V.int pl), some (V.str (onec c)), some (V.ref D), some (V.int at'), some (V.ref m3), e] ∧ Hx D = some (.lst (ws'.map V.str)) ∧ Wk 4821 441 ws' ∧ Same H Hx, ?_, ?_⟩
    ·walk_at "rd"
     refine ite2 (fun h8 => ?_) (fun h8 => ?_)
     ·obtain ⟨ot, hot, lot⟩ := fU_ z1 wl
      obtain ⟨ga, va, ma⟩ := hr_ lat
      obtain ⟨go, vo, mo⟩ := hr_ lot
      walk_at "rd"
      refine ⟨_, .inl hD5, by rw [List.length_map]; omega, ?_⟩
      rw [List.length_map, hot]
      walk_at "rd"
      refine ⟨_, hD5, _, vo, _, hD5, _, va, by decide, fun p np => ?_⟩
      have S6 := Same.new np (o := HO.tup [V.str ws[ot], V.str ws[at']])
      refine ⟨_, .inl (.inl ad_), rfl, _, _, rfl, _, S6 _ _ hD5, at', by rw [List.length_map]; exact kd_ lat, _, _, rfl, ot, by rw [List.length_set, List.length_map]; exact kd_ lot, rfl, (ws.set at' ws[ot]).set ot ws[at'], by rw [List.map_set, List.map_set], ?_, (s05.trans S6).upd fD⟩
      exact mF_ (mF_ wk at' (Nat.le_trans (gh_ f1 mo) wk.l1) (Nat.le_trans (gh_ f2 mo) wk.l2) (wk.w _ mo)) ot (Nat.le_trans (gh_ f1 ma) wk.l1) (Nat.le_trans (gh_ f2 ma) wk.l2) (wk.w _ ma)
     ·obtain ⟨ga, va, ma⟩ := hr_ lat
      obtain ⟨o3, ho3, lo3⟩ := fU_ (z1 / 3) wl
      obtain ⟨g3, v3, m3'⟩ := hr_ lo3
      refine ⟨by decide, ite2 (fun _ => ?_) (fun _ => ⟨by decide, ite2 (fun _ => ?_) (fun _ => ?_)⟩)⟩
      ·refine ⟨.inl ⟨_, .inl (.inl hD5)⟩, by decide, by decide +kernel, _, .inl hD5, by rw [List.length_map]; omega, _, hD5, V.str ws[o3], ?_, _, hD5, by omega, by rw [List.length_map]; omega, by rw [List.length_map]; omega, ws.take at' ++ ws[o3] :: ws.drop at', ?_, ?_, s05.upd fD⟩
       ·rw [List.length_map, ho3]; exact v3
       ·rw [Int.toNat_natCast, List.map_append, List.map_cons, List.map_take, List.map_drop]
       ·exact (pn_ wk at' (Nat.le_trans (gh_ f1 m3') wk.l1) (Nat.le_trans (gh_ f2 m3') wk.l2) (wk.w _ m3')).mono (by decide) (by decide)
      ·refine ⟨.inl ⟨_, .inl (.inl hD5)⟩, _, hD5, by omega, by omega, at', ?_, _, ga, ws.eraseIdx at', ?_, (nk_ wk at').mono (by decide) (by decide), s05.upd fD⟩
       ·rw [List.length_map]
        exact seqIndex_of (by omega) (by omega)
       ·exact jq_ ws at'
      ·obtain ⟨o4, ho4, lo4⟩ := fU_ (z1 / 3) (n := mm.length) (by omega)
       obtain ⟨g4, v4, m4⟩ := hr_ lo4
       obtain ⟨k1, k2, k3, k4⟩ := mok _ m4
       refine ⟨by decide, by decide +kernel, _, .inr hm3, by rw [List.length_map]; omega, _, hm3, _, by rw [List.length_map, ho4]; exact v4, _, hD5, at', by rw [List.length_map]; exact kd_ lat, ws.set at' (mm[o4]), by rw [List.map_set], ?_, s05.upd fD⟩
       exact (mF_ wk at' k3 k4 ⟨Run.of_len k1, k2⟩).mono (by decide) (by decide)
    ·rintro σ Hx ⟨ws', e, rfl, hx, wk', sx⟩
     walk_at "rd"
     obtain ⟨h1, h2⟩ := wk_ok wk' hs
     exact ⟨_, hx, h2, k _ h1 _ sx⟩
theorem fV_ : ∀ (L : List (List Str)) {ps : List (Str × List Str)} {ws : List (Str × (Int × Int))} {q}, rdRows L ps ws = some q → q.1.length ≤ ps.length + L.length ∧ q.2.length ≤ ws.length + L.length
 | [], ps, ws, q, h => by
  cases h
  exact ⟨Nat.le_refl _, Nat.le_refl _⟩
 | [] :: L, ps, ws, q, h => by cases h
 | (y :: r) :: L, ps, ws, q, h => by
  rw [j7_] at h
  rw [List.length_cons]
  split at h
  ·split at h
   ·split at h
    ·have := fV_ L h
     rw [List.length_append] at this
     simp at this
     omega
    ·cases h
   ·cases h
  ·split at h
   ·split at h
    ·have := fV_ L h
     rw [List.length_append] at this
     simp at this
     omega
    ·cases h
   ·cases h
theorem mK_ {x : Str} (ok : TOk x) {N : Net Str} (h : rdNet x = some N) : N.posts.length ≤ 6 ∧ N.rows.length ≤ 900 ∧ N.worths.length ≤ 900 := by
 have hr := io_ ok
 unfold rdNet wdsOf at h
 split at h
 ·rename_i y ps rest heq
  have hl := congrArg List.length heq
  rw [List.length_map, List.length_cons] at hl
  split at h
  ·rename_i hc
   cases hq : rdRows rest [] [] with
   | none => rw [hq] at h; cases h
   | some q =>
    rw [hq] at h
    cases h
    have := fV_ rest hq
    simp at this
    exact ⟨hc.2.2.1, show q.1.length ≤ 900 by omega, show q.2.length ≤ 900 by omega⟩
  ·cases h
 ·cases h
theorem pp_ {N : Net Str} (t : Wn N) (ok : NetOk N) : Dr (txtN N) := by
 obtain ⟨h1, h2⟩ := oF_ t
 obtain ⟨h3, h4⟩ := oG_ t ok
 exact ⟨h4, h3, h2, h1⟩
def rNeO : R2 := fun x y H Q => rNe x y H Q ∨ rNeD x y H Q
theorem pq_ {X : Cx} (hu : X.A.units + 64 < cLine) : OpR X (compareOp .NotEq) rNeO := fun pins s σ H x y v u Q I rx ry h => h.elim (op_ne pins s σ H x y v u Q I rx ry) (gR_ hu pins s σ H x y v u Q I rx ry)
theorem np_ (l : List Dt) : deq (.lst l) (.lst []) = some (decide (l.length = 0)) := by
 cases l with
 | nil => rfl
 | cons a l => simp [deq, deqs]
abbrev s_law : Stmt := stN 56
theorem gi_ : FnScope ["_law_script", "_law_k", "_law_text", "_law_big_here", "_law_due", "_law_great"] ["_law_script"] (defScope s_law) := ⟨rfl, rfl, rfl, by decide +kernel, rfl, by decide +kernel, by decide +kernel⟩
theorem iw_ : LK s_law "_law_script" .local := by decide +kernel
theorem ix_ : LK s_law "_law_k" .local := by decide +kernel
theorem fC_ : LK s_law "_law_text" .local := by decide +kernel
theorem iy_ : LK s_law "_law_big_here" .local := by decide +kernel
theorem gG_ : LK s_law "_law_due" .local := by decide +kernel
theorem iz_ : LK s_law "_law_great" .local := by decide +kernel
theorem ke_ : LK s_law "_law_big" .globalImplicit := by decide +kernel
theorem hF_ : LK s_law "_law_judged" .globalImplicit := by decide +kernel
theorem hG_ : LK s_law "_law_net_by" .globalImplicit := by decide +kernel
theorem kf_ : LK s_law "_law_odd" .globalImplicit := by decide +kernel
theorem jr_ : LK s_law "_law_told" .globalImplicit := by decide +kernel
theorem li_ : LK s_law "len" .globalImplicit := by decide +kernel
theorem lj_ : LK s_law "max" .globalImplicit := by decide +kernel
theorem lk_ : LK s_law "min" .globalImplicit := by decide +kernel
theorem gp_ : LK s_law "net_shown" .globalImplicit := by decide +kernel
theorem js_ : LK s_law "range" .globalImplicit := by decide +kernel
def sp_law (K : PySem.W.Frag) : Sp := fun vs H Q _ => ∃ (a : Addr) (ns : List Int), vs = [.ref a] ∧ SqL K H a (ns.map V.int) ∧ ∀ H', Q (.bl true) H'
theorem pr_ {f : Addr} {fd : FuncData} (T : Txt K mg) (F : Fun K "law" "law" s_law f fd) (C_Lnet_by : Cal P w K mg base "_law_net_by" ["_law_script", "_law_at", "_law_most"] 4 (sp_net K)) (C_Lbig : Cal P w K mg base "_law_big" ["_law_script", "_law_at"] 2 (sp_big K)) (C_net_shown : Cal P w K mg base "net_shown" ["net"] 3 sp_shown) (C_Lodd : Cal P w K mg base "_law_odd" ["_law_text", "_law_big_here"] 2 sp_odd) (C_Ljudged : Cal P w K mg base "_law_judged" ["_law_text"] 3 sp_jd) (C_Ltold : Cal P w K mg base "_law_told" ["_law_text"] 7 sp_told) : FnOk P w K mg base CX0 8 f fd ["_law_script"] (sp_law K) := by
 refine F.ok gi_ (fun vs H Q E h => by obtain ⟨a, ns, rfl, _⟩ := h; rfl) ?_
 intro cdv A outer s H vs Q E hr h
 obtain ⟨a, ns, rfl, hS, k⟩ := h
 refine' ⟨_, ?D, ?R⟩
 case D =>
  refine' aa_ ?g1 ?g2
  case' g1 => refine' cB_ PassesOwn.never rfl ?g3 ?g4 ?g5
  case' g3 => refine' md_ js_ T.n_range ?g6
  case' g6 => refine' pa_c ac_ ?g8
  case' g8 => refine' pa_c ?g9 ?g10
  case' g9 => refine' ah_ (iD_ rfl) lj_ T.n_max lH_ ?g11
  case' g11 => refine' pa_c ac_ ?g13
  case' g13 => refine' pa_c ?g14 ab_
  case' g14 => refine' ah_ (iE_ rfl) lk_ T.n_min ny_ ?g16
  case' g16 => refine' pa_c ac_ ?g18
  case' g18 => refine' pa_c ?g19 ab_
  case' g19 => refine' ah_ ea_ li_ T.n_len aG_ ?g21
  case' g21 => refine' pa_c (pv1 0 rfl iw_) ab_
  case' g10 => refine' pa_c ac_ ab_
  case g4 => exact aj_ (i := 1) gi_.nd rfl ix_
  case' g5 => refine' az_ ?g26 ?g27
  case' g26 => refine' af_ (i := 2) gi_.nd rfl fC_ ?g28
  case' g28 => refine' al_ C_net_shown (hr.mono (by decide)) gp_ ?g29
  case' g29 => refine' pa_c ?g30 ab_
  case' g30 => refine' al_ C_Lnet_by (hr.mono (by decide)) hG_ ?g32
  case' g32 => refine' pa_c (pv1 0 rfl iw_) ?g34
  case' g34 => refine' pa_c (pv1 1 rfl ix_) ?g36
  case' g36 => refine' pa_c ac_ ab_
  case' g27 => refine' az_ ?g39 ?g40
  case' g39 => refine' af_ (i := 3) gi_.nd rfl iy_ ?g41
  case' g41 => refine' al_ C_Lbig (hr.mono (by decide)) ke_ ?g42
  case' g42 => refine' pa_c (pv1 0 rfl iw_) ?g44
  case' g44 => refine' pa_c ?g45 ab_
  case' g45 => refine' pe_op aM_ (pv1 1 rfl ix_) ac_
  case' g40 => refine' az_ ?g49 ?g50
  case' g49 => refine' fe_ ?g51
  case' g51 => refine' ps_if ?g52 ?g53 ar_
  case' g52 => refine' ak_ op_gt ?g55 ac_ (nomark _)
  case' g55 => refine' pe_op aw_ (pv1 3 rfl iy_) ac_
  case' g53 => refine' ae_ ?g59
  case' g59 => refine' af_ (i := 2) gi_.nd rfl fC_ ?g60
  case' g60 => refine' al_ C_Lodd (hr.mono (by decide)) kf_ ?g61
  case' g61 => refine' pa_c (pv1 2 rfl fC_) ?g63
  case' g63 => refine' pa_c ?g64 ab_
  case' g64 => refine' pe_op an_ (pv1 3 rfl iy_) ac_
  case' g50 => refine' az_ ?g68 ?g69
  case' g68 => refine' af_ (i := 4) gi_.nd rfl gG_ ?g70
  case' g70 => refine' al_ C_Ljudged (hr.mono (by decide)) hF_ ?g71
  case' g71 => refine' pa_c (pv1 2 rfl fC_) ab_
  case' g69 => refine' az_ ?g74 ?g75
  case' g74 => refine' af_ (i := 5) gi_.nd rfl iz_ ?g76
  case' g76 => refine' bh_ ab_
  case' g75 => refine' az_ ?g78 ?g79
  case' g78 => refine' fe_ ?g80
  case' g80 => refine' ps_if ?g81 ?g82 ar_
  case' g81 => refine' hH_ (lp_ (pv1 4 rfl gG_))
  case' g82 => refine' ae_ ?g85
  case' g85 => refine' eT_ (i := 5) (N' := ["_law_wire", "_law_worth_here"]) (ix := [none, none]) rfl rfl gi_.nd rfl iz_ rfl (bN_ ?g86) ?g87 (fun _ _ _ => ?g88) (fun _ _ _ => ?g89) (fun _ _ _ => (pv1 1 rfl rfl))
  case g86 => exact (by show scpB (defScope s_law) ["_law_script", "_law_k", "_law_text", "_law_big_here", "_law_due", "_law_great"] _ _ _ = true; decide +kernel)
  case' g87 => refine' bm_ (K := K) rfl ?g91
  case' g91 => refine' pe_ix bc_ (pv1 4 rfl gG_) ac_ (fun _ _ => rfl)
  case' g88 => refine' bS_ (K := K) (n := 2) rfl rfl ?g94
  case' g94 => refine' aB_ ?g95 ?g96
  case g95 => exact aj_ (i := 0) (by show List.Nodup (["_law_wire", "_law_worth_here"] : List Str); decide +kernel) rfl rfl
  case' g96 => refine' aB_ ?g97 bQ_
  case g97 => exact aj_ (i := 1) (by show List.Nodup (["_law_wire", "_law_worth_here"] : List Str); decide +kernel) rfl rfl
  case' g89 => refine' kr_ ?g99
  case' g99 => refine' ak_ op_gt ?g100 ac_ (nomark _)
  case' g100 => refine' ah_ (me_ rfl) rfl T.n_max lH_ ?g102
  case' g102 => refine' pa_c (pv1 1 rfl rfl) ab_
  case' g79 => refine' ae_ ?g105
  case' g105 => refine' ps_if ?g106 ?g107 ar_
  case' g106 => refine' PW.pt ?g109
  case' g109 => refine' eO_ ?g110 ?g111
  case' g110 => refine' ak_ (lK_ (hr.units)) (pv1 5 rfl iz_) ?g113 (nomark _)
  case' g113 => refine' bh_ ab_
  case' g111 => refine' eS_ ?g115
  case' g115 => refine' ak_ (pq_ (hr.units)) ?g116 (pv1 4 rfl gG_) (nomark _)
  case' g116 => refine' al_ C_Ltold (hr.mono (by decide)) jr_ ?g118
  case' g118 => refine' pa_c (pv1 2 rfl fC_) ab_
  case' g107 => refine' ae_ ?g121
  case' g121 => refine' ao_ pe_bl
  case' g2 => refine' ae_ ?g123
  case' g123 => refine' ao_ pe_bl
 case R =>
  walk_at "rd"
  unfold iRng5
  walk_at "rd"
  refine ⟨_, .inl hS, ?_⟩
  generalize ((ns.map V.int).length : Int) = ln
  generalize hj : (if (if ln < 30 then ln else 30) > 5 then (if ln < 30 then ln else 30) else 5) = j
  have j0 : 5 ≤ j ∧ j ≤ 30 := by
   rw [← hj]
   split <;> (try split) <;> omega
  refine ⟨by omega, by omega, nc_ (fun i σ Hy => ∃ (e1 e2 e3 e4 e5 : Option V), σ = [some (.ref a), e1, e2, e3, e4, e5] ∧ Same H Hy) ⟨_, _, _, _, _, rfl, Same.refl _⟩ ?_ ?_⟩
  ·rintro i σ Hy hi kk kb hk hbk G hG ⟨e1, e2, e3, e4, e5, rfl, sy⟩
   have i30 : 5 * (i : Int) < 30 := by omega
   refine hG ?_
   walk_at "rd"
   refine ⟨a, ns, _, rfl, by omega, by omega, sy.seq hS, fun v0 N0 H0 s0 rep0 ok0 po0 nm0 => ?_⟩
   have t0 : Wn N0 := ⟨nm0, po0.p0, ok0.pl, ok0.few, ok0.wl⟩
   have d0 := pp_ t0 ok0
   refine ⟨v0, N0, rfl, rep0, t0, fun H1 s1 => ?_⟩
   have sy1 := sy.trans (s0.trans s1)
   generalize txtN N0 = x0 at *
   clear rep0 ok0 po0 nm0 t0
   walk_at "rd"
   refine ⟨a, ns, 5 * (i : Int) + 4, rfl, by omega, sy1.seq hS, fun z H2 s2 => ?_⟩
   have sy2 := sy1.trans s2
   walk_at "rd"
   refine ⟨fun σ Hx => ∃ x, σ = [some (.ref a), some (.int (5 * i)), some (.str x), some (.int z), e4, e5] ∧ TOk x ∧ Same H Hx, ?_, ?_⟩
   ·walk_at "rd"
    refine ⟨by decide, ite2 (fun _ => ?_) (fun _ => ⟨d0.ok, sy2⟩)⟩
    exact ⟨by decide, by decide +kernel, x0, _, rfl, d0, fun y oky H' s' => ⟨y, rfl, oky, sy2.trans s'⟩⟩
   ·rintro σ Hx ⟨x, rfl, ok, sx⟩
    walk_at "rd"
    refine ⟨x, rfl, ok, fun v3 H3 s3 rep3 => ?_⟩
    have sx3 := sx.trans s3
    walk_at "rd"
    refine ⟨by decide, fun g0 ng0 => ?_⟩
    have S4 := Same.new ng0 (o := HO.lst [])
    have hg0 := ad_ (H := H3) (a := g0) (o := HO.lst [])
    have rep4 := Rep.mono S4 _ rep3
    generalize upd H3 g0 (HO.lst []) = H4 at *
    have sx4 := sx3.trans S4
    walk_at "rd"
    refine ⟨fun σ Hx => ∃ (g : Addr) (gs : List Dt), σ = [some (.ref a), some (.int (5 * i)), some (.str x), some (.int z), some v3, some (.ref g)] ∧ Rep Hx (.ref g) (.lst gs) ∧ dep (.lst gs) ≤ 60 ∧ Same H4 Hx, ?_, ?_⟩
    ·cases hn : rdNet x with
     | none =>
      rw [hn] at rep4
      cases (show v3 = .non from rep4)
      walk_at "rd"
      rw [if_neg (fun z => z trivial)]
      exact ⟨[], ⟨g0, _, rfl, hg0, rfl⟩, by decide, Same.refl _⟩
     | some N =>
      rw [hn] at rep4
      obtain ⟨pn, p0, p1, p2, rs, ws, rfl, hn', h0, h1, r1, h2, r2⟩ := mr_ rep4
      obtain ⟨_, _, wl⟩ := mK_ ok hn
      walk_at "rd"
      rw [if_pos (fun z => z)]
      have wl' : ws.length = N.worths.length := by rw [r2.length, List.length_map]
      refine ⟨_, hn', _, atI_2, p2, rfl, ⟨_, .inl (.inl h2)⟩, ?_⟩
      refine lV_ (n := ws.length) (B := fun _ => none) (Pσ := fun σ => ∃ e e', σ = [e, e']) (bs := fun j => decide (1000 < max (N.worths.getD j (Str.empty, (0, 0))).2.1 (N.worths.getD j (Str.empty, (0, 0))).2.2)) (val := fun j => dF (N.worths.getD j (Str.empty, (0, 0))).2) (fun b o e => by cases e) ⟨_, _, rfl⟩ (by omega) (fun j H' hj s' => ⟨ws, ws[j], .inl (.inl (s' _ _ h2)), List.getElem?_eq_getElem _⟩) (fun H' s' => ⟨ws, .inl (.inl (s' _ _ h2)), Nat.le_refl _⟩) ?_ ?_
      ·rintro D j y σ' H5 H5' hD hDo hs5 hj ⟨rfl, hy⟩ ⟨e, e', rfl⟩ Y R kY kR
       obtain ⟨r, q, u, er, rfl, hq, hu⟩ := jk_ r2 (hy _ (.inl (.inl (hs5 _ _ h2))))
       have eg : N.worths.getD j (Str.empty, (0, 0)) = r := by rw [List.getD_eq_getElem?_getD, er]; rfl
       rw [eg] at kY kR
       walk_at "rd"
       have hu5 := hs5 _ _ hu
       refine ⟨_, .inl (.inl (hs5 _ _ hq)), rfl, _, _, rfl, _, _, rfl, rfl, u, [r.2.1, r.2.2], rfl, hu5, Nat.zero_lt_succ _, fun M hM hmx => ⟨M, rfl, ?_⟩⟩
       have eM : max r.2.1 r.2.2 = M := by
        have b1 := hmx r.2.1 (by simp)
        have b2 := hmx r.2.2 (by simp)
        have b3 : M = r.2.1 ∨ M = r.2.2 := by simpa using hM
        omega
       rw [eM] at kY kR
       obtain ⟨oD, hDo⟩ := hDo
       refine ite2 (fun hb => kY (decide_eq_true hb) _ _ _ ⟨_, _, rfl⟩ (Same.refl _) ?_) (fun hb => kR (decide_eq_false hb) _ _ ⟨_, _, rfl⟩ (Same.refl _))
       exact ⟨u, _, rfl, by rw [eb_ (fun c => by rw [c] at hu; rw [hD] at hu; cases hu) rfl]; exact hu5, _, _, rfl, rfl, _, _, rfl, rfl, rfl⟩
      ·intro D H5 hD s5 rep5
       exact ⟨D, rfl, _, Rep.mono gS_ _ rep5, Nat.le_trans (Nat.succ_le_succ (em_ (n := 3) (fun j => by simp [dF, dep, deps]) _)) (by decide), s5⟩
    ·rintro σ Hx ⟨g, gs, rfl, repg, dg, sx⟩
     walk_at "rd"
     refine ⟨by decide, fun p np => ?_⟩
     have S5 := Same.new np (o := HO.lst [])
     have hp := ad_ (H := Hx) (a := p) (o := HO.lst [])
     generalize upd Hx p (HO.lst []) = H5 at *
     have s45 := sx.trans S5
     have sy5 := sx4.trans s45
     refine ⟨_, Rep.mono S5 _ repg, .lst [], ⟨p, _, rfl, hp, rfl⟩, decide (gs.length = 0), np_ gs, dg, ite2 (fun _ => ?_) (fun _ => hk _ _ ⟨_, _, _, _, _, rfl, sy5⟩)⟩
     refine ⟨x, rfl, ok, fun v6 H6 s6 rep6 => ?_⟩
     have rep7 := Rep.mono (s45.trans s6) _ rep4
     have sy6 := sy5.trans s6
     have fin : ∀ Hz, Same H6 Hz → kk [some (V.ref a), some (V.int (5 * i)), some (V.str x), some (V.int z), some v3, some (V.ref g)] Hz := fun Hz sz => hk _ _ ⟨_, _, _, _, _, rfl, sy6.trans sz⟩
     cases hn : rdNet x with
     | none =>
      rw [hn] at rep6 rep7
      cases (show v6 = .non from rep6)
      cases (show v3 = .non from rep7)
      exact .inl ⟨rfl, false, rfl, fin _ (Same.refl _)⟩
     | some N =>
      rw [hn] at rep6 rep7
      obtain ⟨q6, _, e6, _⟩ := id rep6
      obtain ⟨q7, _, e7, _⟩ := id rep7
      subst e6 e7
      exact .inr ⟨q6, q7, _, _, true, rfl, rfl, rep6, rep7, kK_ _, ov_ _, false, rfl, fin _ (Same.refl _)⟩
  ·rintro σ Hy ⟨e1, e2, e3, e4, e5, rfl, sy⟩
   walk_at "rd"
   exact k _
open PySem PySem.Spec PyProof.Rows L2
theorem cl_of {K : PySem.W.Frag} {C : Addr} (h : PySem.W.hasDictIn K C = true) : (PySem.W.clsIn K C).isSome = true := by
 unfold PySem.W.hasDictIn at h
 cases e : PySem.W.clsIn K C with
 | none => rw [e] at h; cases h
 | some c => rfl
theorem ps_ {l : PySem.W.OpenLaw} {w : World} {K : PySem.W.Frag} {mg : Str → Option Value} {fa : Addr} (hfa : mg "law" = some (.ref fa)) (T : Txt K mg) (EX : Exs K mg CR CT CO CW) (F_greatest_divisor : Fn0 K mg "greatest_divisor" s_greatest_divisor) (F_fraction : Fn0 K mg "fraction" s_fraction) (F_is_whole : Fn0 K mg "is_whole" s_is_whole) (F_is_worth : Fn0 K mg "is_worth" s_is_worth) (F_is_name : Fn0 K mg "is_name" s_is_name) (F_whole_shown : Fn0 K mg "whole_shown" s_whole_shown) (F_fraction_shown : Fn0 K mg "fraction_shown" s_fraction_shown) (F_is_in_figures : Fn0 K mg "is_in_figures" s_is_in_figures) (F_whole_from_text : Fn0 K mg "whole_from_text" s_whole_from_text) (F_fraction_from_text : Fn0 K mg "fraction_from_text" s_fraction_from_text) (F_worth_from_text : Fn0 K mg "worth_from_text" s_worth_from_text) (F_net_shown : Fn0 K mg "net_shown" s_net_shown) (F_names_read : Fn0 K mg "names_read" s_names_read) (F_posts_read : Fn0 K mg "posts_read" s_posts_read) (F_point_read : Fn0 K mg "point_read" s_point_read) (F_wire_read : Fn0 K mg "wire_read" s_wire_read) (F_net_read : Fn0 K mg "net_read" s_net_read) (F_Lcell_at : Fn0 K mg "_law_cell_at" s_Lcell_at) (F_Lbig : Fn0 K mg "_law_big" s_Lbig) (F_Llow : Fn0 K mg "_law_low" s_Llow) (F_Lworth_of : Fn0 K mg "_law_worth_of" s_Lworth_of) (F_Lmates : Fn0 K mg "_law_mates" s_Lmates) (F_Lcorners : Fn0 K mg "_law_corners" s_Lcorners) (F_Lcorner_behind : Fn0 K mg "_law_corner_behind" s_Lcorner_behind) (F_Lregion : Fn0 K mg "_law_region" s_Lregion) (F_Lgrown : Fn0 K mg "_law_grown" s_Lgrown) (F_Lnames : Fn0 K mg "_law_names" s_Lnames) (F_Lbegun : Fn0 K mg "_law_begun" s_Lbegun) (F_Lnet_by : Fn0 K mg "_law_net_by" s_Lnet_by) (F_Lsign : Fn0 K mg "_law_sign" s_Lsign) (F_Lodd : Fn0 K mg "_law_odd" s_Lodd) (F_Lis_name : Fn0 K mg "_law_is_name" s_Lis_name) (F_Lnumber : Fn0 K mg "_law_number" s_Lnumber) (F_Lworth : Fn0 K mg "_law_worth" s_Lworth) (F_Ljudged : Fn0 K mg "_law_judged" s_Ljudged) (F_Ltold : Fn0 K mg "_law_told" s_Ltold) (F_law : Fn0 K mg "law" s_law) :
  ∃ fd : FuncData, (∀ (s : Shared) (v : Value), BindsTo s fd ⟨[v], []⟩ [("_law_script", v)]) ∧ ∀ base : Heap, K.In base → base.Ns mainGlobals mg → FnOk l.prog w K mg base CX0 8 fa fd ["_law_script"] (sp_law K) := by
 obtain ⟨f, fd, FL, m⟩ := F_law
 have e := hfa.symm.trans m
 cases e
 refine ⟨fd, ?_, fun base _ _ => ?_⟩
 ·obtain ⟨oc, od, kV, doc, pm, an, cdv, ct, osl, rfl, lk, hcd⟩ := FL.ex
  exact fun s v => .of_eq rfl
 ·have c1 := e7_ (P := l.prog) (w := w) (base := base) T F_greatest_divisor 
  have c2 := j2_ T F_fraction c1
  have c3 := j4_ (P := l.prog) (w := w) (base := base) T F_is_whole 
  have c4 := j5_ T F_is_worth c3 c1
  have c5 := le_ (P := l.prog) (w := w) (base := base) T F_is_name 
  have c6 := hx_ (P := l.prog) (w := w) (base := base) T F_whole_shown 
  have c7 := fO_ T F_fraction_shown c6
  have c8 := gn_ (P := l.prog) (w := w) (base := base) T F_is_in_figures 
  have c9 := fu_ T F_whole_from_text c8
  have c10 := ep_ T F_fraction_from_text c9 c2
  have c11 := fv_ T F_worth_from_text c10 c4
  have c12 := jl_ T F_net_shown c7
  have c13 := hy_ T EX F_names_read c5
  have c14 := hz_ T EX F_posts_read c13
  have c15 := hA_ T EX F_point_read c13
  have c16 := im_ T EX F_wire_read c13 c11
  have c17 := jm_ T EX F_net_read c14 c15 c16
  have d1 := jS_ (P := l.prog) (w := w) (base := base) T F_Lcell_at 
  have d2 := op_ T F_Lbig d1
  have d3 := oq_ (P := l.prog) (w := w) (base := base) T F_Llow 
  have d4 := je_ T F_Lworth_of d3
  have d5 := mh_ (P := l.prog) (w := w) (base := base) T F_Lmates 
  have d6 := jV_ (P := l.prog) (w := w) (base := base) T F_Lcorners 
  have d7 := fI_ (P := l.prog) (w := w) (base := base) T F_Lcorner_behind 
  have d8 := lb_ T F_Lregion d7
  have d9 := mi_ T F_Lgrown d6 d5 d8
  have d10 := ml_ (P := l.prog) (w := w) (base := base) T F_Lnames 
  have d11 := mo_ (P := l.prog) (w := w) (base := base) T F_Lbegun 
  have d12 := lc_ T F_Lnet_by d2 d9 d10 d11 d4
  have d13 := ni_ (P := l.prog) (w := w) (base := base) T F_Lsign 
  have d14 := oI_ T F_Lodd d13
  have d15 := j9_ (P := l.prog) (w := w) (base := base) T F_Lis_name 
  have d16 := lf_ (P := l.prog) (w := w) (base := base) T F_Lnumber 
  have d17 := mw_ T F_Lworth d16 d3
  have d18 := lg_ T F_Ljudged d17 d15
  have d19 := ng_ T EX F_Ltold c17
  exact pr_ T FL d12 d2 c12 d14 d18 d19
theorem walk {l : PySem.W.OpenLaw} {q : Program} {loose : List Str} {XP : (Str → Option Value) → Heap → Prop} {YP : World → Heap → Prop} {d : DefRec} {K : Params → PySem.W.Frag} (hn : l.most = some 63) (hdf : d.params.defaults = [])
  (hY : ∀ (w : World) (h : Heap), YP w h → (K w.params).In h)
  (F : ∀ (w : World) (mg : Str → Option Value) (fa : Addr) (h : Heap), (K w.params).In h → h.Ns mainGlobals mg → mg d.name = some (.ref fa) →
   ∃ fd : FuncData, (∀ (s : Shared) (u : Value), BindsTo s fd ⟨[u], []⟩ [("_law_script", u)]) ∧ ∀ base : Heap, (K w.params).In base → base.Ns mainGlobals mg → FnOk l.prog w (K w.params) mg base CX0 8 fa fd ["_law_script"] (sp_law (K w.params))) :
  PySem.W.WalkO q loose XP YP l.row.toRowW d [] (fun f vs => PySem.call f vs) :=
 L2.n6_ (n := 63) (k := 8) (x := "_law_script") (CX := fun _ => CX0) (sp := fun w => sp_law (K w.params)) hn (by decide) hdf ⟨rfl, by decide, by decide⟩ hY F (fun _ _ a ns hl _ hS => ⟨a, ns, rfl, hS, fun _ => rfl⟩) fun _ _ _ _ _ z => z
end Rim75
def PySem.W.Fast.tw7426305015974149077 : Nat := 0
def PySem.W.Fast.tw5614165296405076026 : Nat := 0
def PySem.W.Fast.tw477669094693398320 : Nat := 0
def PySem.W.Fast.tw8583911292978713895 : Nat := 0
def PySem.W.Fast.tw12423219683390792473 : Nat := 0
def PySem.W.Fast.tw7577448807556233500 : Nat := 0
def PySem.W.Fast.tw7625730083838043977 : Nat := 0
def PySem.W.Fast.tw14740723301969428405 : Nat := 0
def PySem.W.Fast.tw1431837082929281145 : Nat := 0
def PySem.W.Fast.tw15548165130234220486 : Nat := 0
def PySem.W.Fast.tw4237870725168477923 : Nat := 0
def PySem.W.Fast.tw12981640513140016272 : Nat := 0
def PySem.W.Fast.tw16525120667910308757 : Nat := 0
def PySem.W.Fast.tw1073454856661617107 : Nat := 0
def PySem.W.Fast.tw7196470342885452536 : Nat := 0
def PySem.W.Fast.tw1695355277411055183 : Nat := 0
def PySem.W.Fast.tw15326533324073261272 : Nat := 0
def PySem.W.Fast.tw7827266441360210393 : Nat := 0
def PySem.W.Fast.tw12035272679910427258 : Nat := 0
def PySem.W.Fast.tw4659917405496507200 : Nat := 0
def PySem.W.Fast.tw8794671814952383606 : Nat := 0
def PySem.W.Fast.tw11727838076039255161 : Nat := 0
def PySem.W.Fast.tw13186278270011288992 : Nat := 0
def PySem.W.Fast.tw11529509192146705606 : Nat := 0
open PySem PySem.W PyProof.Rows
set_option maxRecDepth 100000 in
set_option maxHeartbeats 0 in
theorem PySem.Challenge.cw_rimread_k75_texts_judged_holds : PySem.Challenge.rw_rimread_k75_texts_judged.Holds := by
 w_on; o_law; k_head; (case hw => w_witness2)
 k_fill
 refine Rim75.walk (l := PySem.Challenge.rw_rimread_k75_texts_judged) rfl rfl (fun w h Y => PySem.W.kIn_of Y) ?F
 case F =>
  intro w mg fa h KX G hmg
  refine' Rim75.ps_ (CR := ?CR) (CT := ?CT) (CO := ?CO) (CW := ?CW) hmg ⟨?n_abs, ?n_all, ?n_max, ?n_min, ?n_ValueError, ?n_len, ?n_range, ?n_list, ?n_isinstance, ?n_int, ?n_bool, ?n_tuple, ?n_str, ?n_sorted, ?n_reversed, ?c_LONG_BITS, ?c_LONGEST_NAME, ?c_NAME_SIGNS, ?c_FIGURES, ?c_BLOCK_LENGTH, ?c_MOST_POSTS⟩ ⟨?m1, ?m2, ?m3, ?m4, L2.oY_ ?x1, ⟨?x2, Rim75.cl_of ?x3, ?x4⟩, ?x5, ⟨Rim75.cl_of ?y1, ?y2, ?y3, ?y4, ?y5, ?y6, ?y7, ?y8⟩, ?x6, ?x7, ?x8⟩ ?f_greatest_divisor ?f_fraction ?f_is_whole ?f_is_worth ?f_is_name ?f_whole_shown ?f_fraction_shown ?f_is_in_figures ?f_whole_from_text ?f_fraction_from_text ?f_worth_from_text ?f_net_shown ?f_names_read ?f_posts_read ?f_point_read ?f_wire_read ?f_net_read ?f_Lcell_at ?f_Lbig ?f_Llow ?f_Lworth_of ?f_Lmates ?f_Lcorners ?f_Lcorner_behind ?f_Lregion ?f_Lgrown ?f_Lnames ?f_Lbegun ?f_Lnet_by ?f_Lsign ?f_Lodd ?f_Lis_name ?f_Lnumber ?f_Lworth ?f_Ljudged ?f_Ltold ?f_law
  case c_LONG_BITS => refine' L2.ko_ KX G ?a; (case a => k_is)
  case c_LONGEST_NAME => refine' L2.ko_ KX G ?a; (case a => k_is)
  case c_NAME_SIGNS => refine' L2.nH_ KX G ?a; (case a => k_is)
  case c_FIGURES => refine' L2.nH_ KX G ?a; (case a => k_is)
  case c_BLOCK_LENGTH => refine' L2.ko_ KX G ?a; (case a => k_is)
  case c_MOST_POSTS => refine' L2.ko_ KX G ?a; (case a => k_is)
  case m1 => refine' PySem.W.mg_of KX G ?a; (case a => k_is)
  case m2 => refine' PySem.W.mg_of KX G ?a; (case a => k_is)
  case m3 => refine' PySem.W.mg_of KX G ?a; (case a => k_is)
  case m4 => refine' PySem.W.mg_of KX G ?a; (case a => k_is)
  case x1 => k_exc
  case x2 => k_is
  case x3 => k_is
  case x4 => k_is
  case x5 => k_is
  case y1 => k_is
  case y2 => k_is
  case y3 => k_is
  case y4 => k_is
  case y5 => k_is
  case y6 => k_is
  case y7 => k_is
  case y8 => k_is
  case x6 => kit_is
  case x7 => kit_is
  case x8 => kit_is
  case n_abs | n_all | n_max | n_min | n_ValueError | n_len | n_range | n_list | n_isinstance | n_int | n_bool | n_tuple | n_str | n_sorted | n_reversed => refine' PySem.W.mg_none_of KX G ?a; (case a => k_is)
  case f_greatest_divisor | f_fraction | f_is_whole | f_is_worth | f_is_name | f_whole_shown | f_fraction_shown | f_is_in_figures | f_whole_from_text | f_fraction_from_text | f_worth_from_text | f_net_shown | f_names_read | f_posts_read | f_point_read | f_wire_read | f_net_read | f_Lcell_at | f_Lbig | f_Llow | f_Lworth_of | f_Lmates | f_Lcorners | f_Lcorner_behind | f_Lregion | f_Lgrown | f_Lnames | f_Lbegun | f_Lnet_by | f_Lsign | f_Lodd | f_Lis_name | f_Lnumber | f_Lworth | f_Ljudged | f_Ltold | f_law => refine' L2.oU_ KX G ?a ?l ?c ?k; (case a => k_is); (case l => k_is); (case c => k_is); (case k => k_is)
